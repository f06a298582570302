import PyProof.Rows.All
import Wide.All
import OpenK.AllK
import Wide.FinOn
import Lean
import PyProof.Rows.SetFrom
import PyProof.WalksMore
import PyProof.SetRoads
import PyProof.ListRange
import PyProof.Rows.SortWalk
import PyProof.CollectWalk
import PyProof.ZipIter
import PyProof.EnumStmt
import PyProof.EqAt
import PyProof.EqKinds
import PyProof.TupleCall
import PyProof.CompFree
import PyProof.Cells
import PyProof.ConsumeWalk
import PyProof.TupleOfSeq
import PyProof.NeKinds
import PyProof.IsiPairs
import PyProof.IsiHeapPairs
import PyProof.IsInstanceT
import PyProof.IsiTupleOf
import KE.KSortTup
import KE.KTryMore
import PyProof.ExcBaseAll.ValueError
import KE.RegMulBits
import Wide.ObjOpen
import Wide.RegSB
import PyProof.ExcAttrAll.ValueError
import PyProof.ExcArgsOwn
import PyProof.SumWalk
import PyProof.ReprRoads
import PyProof.Rows.DictMade
import PyProof.Rows.DictMethods
import KE.KRevIter
import PyProof.ListMulRoad
import PyProof.FactsAll.tuple_2
import PyProof.DictRoadsH
import PyProof.DictCompW
import PyProof.DictIter
import PyProof.DictWalks
import PyProof.TupleKey
import PyProof.IsRules
import KE.KDictList
import KE.KSortKey
import KE.KLam
import PySem.Challenge.RW_jointrees_k16_whole_any_ear_first
set_option compiler.extract_closed false
set_option bootstrap.genMatcherCode false
theorem aQ0(h:True:=by rfl):True:=trivial
theorem aQ1(h:True:=by decide):True:=trivial
theorem aQ2(h:True:=by exact {}):True:=trivial
theorem aQ3(h:True:=by exact fun _ _=>rfl):True:=trivial
theorem aQ4(h:True:=by with_unfolding_all rfl):True:=trivial
noncomputable def zN:=@PySem.wpAny_bind
noncomputable def zS:=@PySem.Heap.get?_push_of_some
noncomputable def kT:=@PySem.wpAny_pure
noncomputable def kW:=@List.getElem?_eq_getElem
noncomputable def jP:=@List.mem_singleton
noncomputable def wF:=@PySem.Heap.get?_push_size
noncomputable def wL:=@List.mem_range
noncomputable def wN:=@Nat.le_refl
noncomputable def wR:=@PySem.Heap.lt_size
noncomputable def wV:=@List.getElem?_eq_some_iff
noncomputable def wW:=@List.mem_cons
noncomputable def xS:=@List.size_toArray
noncomputable def xZ:=@List.mem_append_right
noncomputable def uL:=@List.length_map
noncomputable def uN:=@List.mem_cons_of_mem
noncomputable def uP:=@List.mem_filter
noncomputable def uS:=@Bool.false_ne_true
noncomputable def uT:=@List.mem_cons_self
noncomputable def fD:=@List.mem_append
noncomputable def fN:=@List.mem_map
noncomputable def fR:=@Nat.ne_of_lt
noncomputable def gA:=@if_pos
noncomputable def gE:=@List.length_append
noncomputable def gL:=@if_neg
noncomputable def gO:=@PySem.wpAny_mono
noncomputable def QJ:=@List.length_range
noncomputable def QK:=@Nat.lt_of_lt_of_le
noncomputable def QL:=@List.getElem?_append_left
noncomputable def QM:=@List.drop_eq_getElem_cons
noncomputable def QN:=@decide_eq_true
noncomputable def QO:=@PySem.Heap.size_push
noncomputable def QP:=@List.getD_eq_getElem?_getD
noncomputable def QQ:=@List.map_congr_left
noncomputable def QR:=@decide_eq_false
noncomputable def QS:=@List.getElem?_map
noncomputable def QT:=@List.getElem_mem
noncomputable def QU:=@List.length_cons
noncomputable def QV:=@PySem.wpAny_setField_rec
noncomputable def QW:=@Array.getElem?_toList
noncomputable def QX:=@Nat.lt_irrefl
noncomputable def QY:=@PySem.W.mg_none_of
noncomputable def QZ:=@PySem.wpAny_newObj_type
noncomputable def Q1:=@PySem.wpAny_holding
noncomputable def Q2:=@List.map_map
noncomputable def Q3:=@Nat.le_trans
noncomputable def Q4:=@PySem.Heap.SameBut.update
noncomputable def Q5:=@PySem.wpAny_call_entry
noncomputable def Q6:=@PySem.wpAny_callSpecial?_slot
noncomputable def Q7:=@List.nodup_range
noncomputable def Q8:=@List.nodup_cons
noncomputable def Q9:=@Option.some.inj
noncomputable def ZA:=@List.getElem?_append_right
noncomputable def ZC:=@List.not_mem_nil
noncomputable def ZD:=@List.take_succ_eq_append_getElem
noncomputable def ZE:=@Bool.false_eq_true
noncomputable def ZF:=@List.getElem_of_mem
noncomputable def ZG:=@Nat.zero_le
noncomputable def ZH:=@List.map_cons
noncomputable def ZI:=@List.pairwise_cons
noncomputable def ZJ:=@PySem.Heap.get?_update_self
noncomputable def ZK:=@PySem.wpAny_field
noncomputable def ZL:=@List.mem_append_left
noncomputable def ZM:=@List.getElem?_set_self
noncomputable def ZN:=@PyProof.Rows.callWith_type1
noncomputable def ZO:=@congrArg
noncomputable def ZP:=@List.map_append
noncomputable def ZQ:=@List.getElem?_set_ne
noncomputable def ZR:=@List.take_append_of_le_length
noncomputable def ZS:=@Array.getElem?_eq_getElem
noncomputable def ZT:=@List.length_pos_of_mem
noncomputable def ZU:=@List.append_nil
noncomputable def ZV:=@List.all_eq_true
noncomputable def ZW:=@PySem.sizeLine_eq
noncomputable def ZX:=@List.pairwise_map
noncomputable def ZY:=@List.append_assoc
noncomputable def ZZ:=@List.perm_ext_iff_of_nodup
noncomputable def Z0:=@Bool.eq_iff_iff
noncomputable def Z2:=@Nat.lt_succ_self
noncomputable def Z3:=@Bool.and_eq_true
noncomputable def Z4:=@List.drop_length
noncomputable def Z5:=@List.filterMap_eq_map'
noncomputable def Z7:=@List.pairwise_iff_getElem
noncomputable def Z8:=@Classical.byContradiction
noncomputable def Z9:=@PySem.codeAny_builtin
noncomputable def VA:=@PySem.F.slot_dict_keyiterator_next
noncomputable def VB:=@List.length_take
noncomputable def VC:=@List.any_eq_true
noncomputable def VD:=@List.getElem?_replicate
noncomputable def VE:=@PySem.wpAny_standAt
noncomputable def VF:=@of_decide_eq_true
noncomputable def VG:=@List.Perm.refl
noncomputable def VH:=@Nat.lt_succ_of_lt
noncomputable def VI:=@Nat.ne_of_gt
noncomputable def VJ:=@PySem.wpAny_seqItems
noncomputable def VL:=@PySem.Heap.get?_update_other
noncomputable def VM:=@Nat.le_of_succ_le
noncomputable def VN:=@Array.perm_iff_toList_perm
noncomputable def VO:=@List.length_nil
noncomputable def VP:=@PyProof.Rows.slot_tuple_getitem
noncomputable def VQ:=@List.length_replicate
noncomputable def VR:=@List.filter_cons
noncomputable def VS:=@PySem.codeAny_mono
noncomputable def VT:=@PySem.Around.under_plainId
noncomputable def VU:=@List.eq_nil_of_length_eq_zero
noncomputable def VW:=@PySem.wpAny_typeNameOfWhole_keyiter
noncomputable def VX:=@PySem.Value.isInt_shape
noncomputable def VY:=@PySem.wpAny_pyIter_list
noncomputable def VZ:=@List.nodup_append
noncomputable def V0:=@List.pairwise_singleton
noncomputable def V1:=@PySem.wpAny_truthy_bool
noncomputable def V2:=@List.getElem?_cons_succ
noncomputable def V3:=@List.length_eq_zero_iff
noncomputable def V4:=@List.getElem?_cons_zero
noncomputable def V5:=@PySem.wpAny_rule
noncomputable def V6:=@List.find?_cons
noncomputable def V7:=@PyProof.Rows.F.plain_set_update_loop
noncomputable def V8:=@PySem.F.slot_tuple_iterator_next
noncomputable def V9:=@List.set_cons_succ
noncomputable def KW:=@List.set_cons_zero
noncomputable def YA:=@PySem.wpAny_passesOwn
noncomputable def YB:=@List.take_left'
noncomputable def YC:=@decide_eq_true_eq
noncomputable def YD:=@or_false
noncomputable def YE:=@PySem.wpAny_attempt
noncomputable def YF:=@Option.isSome_iff_exists
noncomputable def YG:=@List.getElem?_take_of_lt
noncomputable def YH:=@PySem.wpAny_typeNameOf_keyiter
noncomputable def YI:=@Array.length_toList
noncomputable def YJ:=@beq_eq_false_iff_ne
noncomputable def YK:=@PySem.mem_of_lookup
noncomputable def YL:=@List.getElem?_range
noncomputable def YM:=@PySem.wpAny_isInstance
noncomputable def YN:=@Nat.le_add_right
noncomputable def YO:=@if_false
noncomputable def YQ:=@PySem.wpAny_pyIter_tuple
noncomputable def YR:=@Array.getElem?_eq_none
noncomputable def YS:=@List.mem_filterMap
noncomputable def YT:=@Int.emod_lt_of_pos
noncomputable def YU:=@Nat.not_lt_zero
noncomputable def YV:=@PyProof.Rows.listUpdate_at
noncomputable def YW:=@List.getElem?_eq_none
noncomputable def YX:=@PySem.F.slot_enumerate_next
noncomputable def YY:=@Nat.le_of_ble_eq_true
noncomputable def YZ:=@List.ext_getElem?
noncomputable def Y0:=@PySem.F.plain_list_iadd
noncomputable def Y1:=@List.filter_congr
noncomputable def Y2:=@Option.some.injEq
noncomputable def Y3:=@List.length_eraseIdx
noncomputable def Y4:=@Nat.not_lt
noncomputable def Y5:=@List.mem_of_getElem?
noncomputable def Y6:=@PySem.Obj.data_mapDictKeys
noncomputable def Y7:=@decide_eq_decide
noncomputable def Y8:=@Decidable.byContradiction
noncomputable def Y9:=@List.mem_map_of_mem
noncomputable def JP:=@PyProof.Rows.F.entry_set_update_loop
noncomputable def WA:=@PySem.Obj.isFreed_of_dict
noncomputable def WB:=@PySem.F.args_dict_keyiterator_next_1
noncomputable def WC:=@Int.toNat_of_nonneg
noncomputable def WD:=@PySem.plainId_quiet
noncomputable def WE:=@PySem.F.args_tuple_add_2
noncomputable def WG:=@List.all_cons
noncomputable def WH:=@PySem.wpAny_comprehension_free
noncomputable def WI:=@PyProof.Rows.boot_sorted
noncomputable def WJ:=@List.idxOf_lt_length_iff
noncomputable def WK:=@PySem.W.mg_of
noncomputable def WL:=@PySem.F.entry_dict_keyiterator_next
noncomputable def WM:=@List.getElem_append_left
noncomputable def WN:=@Int.emod_nonneg
noncomputable def WO:=@exists_eq_left'
noncomputable def WQ:=@PySem.Obj.data_mapFields
noncomputable def WR:=@PySem.wpAny_Call_Name_kw
noncomputable def WS:=@PyProof.Rows.Call_
noncomputable def WT:=@List.lookup_append
noncomputable def WU:=@PySem.F.entry_tuple_add
noncomputable def WV:=@PySem.F.plainAttrs_list
noncomputable def WW:=@Nat.le_of_lt
noncomputable def WX:=@List.nodup_nil
noncomputable def WY:=@PySem.wpAny_newTuple
noncomputable def WZ:=@PySem.wpAny_typeOf
noncomputable def W0:=@if_true
noncomputable def W2:=@PySem.W.cellsFrom_some
noncomputable def W3:=@PySem.F.slot_tuple_add
noncomputable def W4:=@Nat.le_of_eq
noncomputable def W5:=@List.range_succ_eq_map
noncomputable def W6:=@PySem.wpAny_collect_seq
noncomputable def W7:=@List.drop_eq_nil_of_le
noncomputable def W8:=@List.take_of_length_le
noncomputable def W9:=@PySem.F.entry_proto_collect
noncomputable def XA:=@List.length_filter_le
noncomputable def XB:=@PySem.wpAny_askSetting
noncomputable def XC:=@PySem.Obj.data_mapDict
noncomputable def XD:=@PySem.Heap.size_update
noncomputable def XE:=@PySem.wpAny_newList
noncomputable def XF:=@PySem.Paired.length
noncomputable def XG:=@List.any_cons
noncomputable def XH:=@Bool.and_eq_true_iff
noncomputable def XI:=@PySem.F.slot_zip_next
noncomputable def XJ:=@PySem.wpAny_execs_nil
noncomputable def XM:=@List.idxOf_cons
noncomputable def XN:=@List.filterMap_cons
noncomputable def XO:=@Nat.lt_trans
noncomputable def XQ:=@Nat.lt_or_eq_of_le
noncomputable def XR:=@List.filter_append
noncomputable def XS:=@Int.le_refl
noncomputable def XT:=@Int.ofNat_inj
set_option Elab.async false
set_option linter.all false
set_option maxRecDepth 100000
set_option maxHeartbeats 4000000
namespace Jt
open PySem
noncomputable def Up(xs:Array Nat):Prop:=xs.toList.Pairwise (. < .)
theorem Up.lt(u:Up xs){i k a b:Nat}(h:i<k)(o:xs[i]?=some a)(C:xs[k]?=some b):a<b:=by rw[<- QW]at o C;obtain⟨I,J⟩:=wV.mp o;obtain⟨U,e2⟩:=wV.mp C;rw[<- J,<- e2];exact Z7.mp u i k I U h
theorem Ax(u:Up xs):∀(fuel lo o:Nat),o<=xs.size->lo<=o->o-lo<=fuel->
  (∀i v,i<lo->xs[i]?=some v->v<j)->(∀i v,o<=i->xs[i]?=some v->j<=v)->
  SetTable.below.go xs j fuel lo o<=xs.size/\(∀i v,i<SetTable.below.go xs j fuel lo o->xs[i]?=some v->v<j)/\∀i v,SetTable.below.go xs j fuel lo o<=i->xs[i]?=some v->j<=v:=by intro fuel;induction fuel with
 |zero=>
  intro lo o I h2 h3 J U;have:lo=o:=by omega
  subst this;exact⟨I,J,U⟩
 |succ fuel ih=>
  intro lo o I h2 h3 J U;unfold SetTable.below.go;by_cases hl:lo<o
  .rw[gA hl];have hm:(lo+o)/2<xs.size:=by omega
   have eg:xs.getD ((lo+o)/2) j=xs[(lo+o)/2]:=by simp[Array.getD,hm]
   have em:xs[(lo+o)/2]?=some xs[(lo+o)/2]:=by simp[hm]
   by_cases hc:xs.getD ((lo+o)/2) j<j
   .rw[gA hc];refine ih _ _ I (by omega) (by omega) (λ i v C e=>?_) U;rcases XQ (Nat.le_of_lt_succ C)with q|q
    .have:=u.lt q e em;omega
    .subst q;rw[em]at e;cases e;omega
   .rw[gL hc];refine ih _ _ (by omega) (by omega) (by omega) J λ i v C e=>?_;rcases XQ C with q|q
    .have:=u.lt q em e;omega
    .subst q;rw[em]at e;cases e;omega
  .rw[gL hl];have:lo=o:=by omega
   subst this;exact⟨I,J,U⟩
theorem i8(u:Up xs)(j:Nat):SetTable.below xs j<=xs.size/\(∀i v,i<SetTable.below xs j->xs[i]?=some v->v<j)/\∀i v,SetTable.below xs j<=i->xs[i]?=some v->j<=v:=by refine Ax u _ _ _ (wN _) (ZG _) (by omega) (λ i v h=>absurd h (YU _)) λ i v h e=>?_;grind
theorem yj(u:Up xs){j:Nat}(h:xs[SetTable.below xs j]?≠some j):j∉xs.toList:= λ hm=>by
 obtain⟨i,C,e⟩:=ZF hm;have o:xs[i]?=some j:=by rw[<- QW,kW C,e]
 obtain⟨_,b1,J⟩:=i8 u j;rcases Nat.lt_trichotomy i (SetTable.below xs j)with q|q|q
 .exact absurd (b1 i j q o) (QX _)
 .rw[<- q]at h;exact h o
 .have U:SetTable.below xs j<xs.size:=QK q (by simpa using WW C);have I:xs[SetTable.below xs j]?=some xs[SetTable.below xs j]:=by simp
  have:=u.lt q I o;grind
theorem yR(u:Up xs){j:Nat}(h:j∉xs.toList):Up (SetTable.insertAt xs (SetTable.below xs j) j):=by
 unfold Up;rw[SetTable.toList_insertAt];obtain⟨b0,b1,U⟩:=i8 u j;have J:xs.toList.Pairwise (. < .):=u;have hd:∀y∈xs.toList.drop (SetTable.below xs j),j<y:= λ y C=>by
  obtain⟨i,I,e⟩:=ZF C;rw[List.getElem_drop]at e;have hm:y∈xs.toList:=List.mem_of_mem_drop C;have:=U (SetTable.below xs j+i) y (by omega) (by rw[<- QW,wV];exact⟨by simp at I;simp;omega,e⟩);rcases XQ this with q|q
  .exact q
  .subst q;exact absurd hm h
 have ht:∀y∈xs.toList.take (SetTable.below xs j),y<j:= λ y C=>by
  obtain⟨i,I,e⟩:=ZF C;rw[List.getElem_take]at e;have o:i<SetTable.below xs j/\i<xs.toList.length:=by rw[VB]at I;omega
  exact b1 i y o.1 (by rw[<- QW,wV];exact⟨o.2,e⟩)
 rw[List.pairwise_append];refine⟨J.sublist (List.take_sublist _ _),?_,λ a ha b hb=>?_⟩;. rw[ZI];exact⟨hd,J.sublist (List.drop_sublist _ _)⟩
 grind
noncomputable def Tb(t:SetTable):Prop:=t.plain=true->Up t.place
theorem yX{t:SetTable}{j:Nat}(u:Up t.place)(h:t.slot j= .empty\/t.slot j= .dummy):j∉t.place.toList:=by refine yj u λ e=>?_;unfold SetTable.slot at h;grind
theorem iA(t:SetTable)(p:SetTable.Probe):(t.advance p).dummy=p.dummy:=by unfold SetTable.advance;grind
theorem tG:∀(fuel:Nat)(p:SetTable.Probe)(j:Nat)(d:Option Nat),(∀x,p.dummy=some x->t.slot x= .dummy)->
  SetTable.probe.go t f h fuel p=some (.empty j d)->t.slot (d.getD j)= .empty\/t.slot (d.getD j)= .dummy:=by intro fuel;induction fuel with
 |zero=>intro p j d _ e;cases e
 |succ fuel o=>intro p j d C e;unfold SetTable.probe.go at e;cases q:t.slot p.j with
  |empty=>rw[q]at e;injection e with e;injection e with I J;subst I;cases d with
   |none=>exact .inl q
   |some x=>exact .inr (C x J)
  |dummy=>rw[q]at e;refine o _ j d (λ x hx=>?_) e;rw[iA]at hx;cases hx;exact q
  |live i=>
   rw[q]at e;dsimp only at e;split at e;. cases e
   .exact o _ j d (λ x hx=>C x (by rw[iA]at hx;exact hx)) e
theorem mU{t:SetTable}{h:Int}{j:Nat}{b:Bool}(u:Up t.place)(e:t.freeSlot h=some (j,b)):j∉t.place.toList:=by
 unfold SetTable.freeSlot at e;split at e;. rename_i o d q;cases e;exact yX u (tG _ _ _ _ (λ x hx=>by cases hx) q)
 grind
theorem yx(h:Tb t)(es:Array (Int×Value))(k:Int)(x:Value):Tb (layNew t es k x).2.1/\(layNew t es k x).2.1.led=t.led:=by
 unfold layNew;split
 .rename_i j b e;dsimp only;unfold SetTable.orStandIn;split;. exact⟨λ o=>yR (h o) (mU (h o) e),rfl⟩
  .exact⟨λ o=>absurd (show false=true from o) uS,rfl⟩
 .exact⟨λ o=>absurd (show false=true from o) uS,rfl⟩
theorem GD {mask finger moves:Nat} {led plain:Bool} {hs:Array Int} {t:SetTable} {o:Array Nat} (e:SetTable.laid mask finger moves led plain hs=some (t,o)):Up t.place/\t.led=led:= by
 unfold SetTable.laid at e
 cases q:SetTable.layClean mask hs with
 | none=>rw [q] at e;cases e
 | some owner=>
  rw [q] at e
  injection e with e
  injection e with e1 e2
  subst e1
  refine ⟨?_,rfl⟩
  show (List.map _ _).Pairwise _
  rw [ZX]
  rw [List.pairwise_filterMap]
  refine List.Pairwise.imp (fun {a b} hab x hx y hy=>?_) List.pairwise_lt_range
  cases q1:owner.getD a none with
  | none=>rw [q1] at hx;cases hx
  | some _=>
   cases q2:owner.getD b none with
   | none=>rw [q2] at hy;cases hy
   | some _=>rw [q1] at hx;rw [q2] at hy;cases hx;cases hy;exact hab
theorem sO(t:SetTable)(es:Array (Int×Value))(n:Nat):Tb (relayAll t es n).2.1/\(relayAll t es n).2.1.led=t.led:=by
 unfold relayAll;split
 .rename_i t' o e;dsimp only;split;. obtain⟨I,J⟩:=GD e;exact⟨λ _=>I,J⟩
  .exact⟨λ C=>absurd (show false=true from C) uS,rfl⟩
 .exact⟨λ C=>absurd (show false=true from C) uS,rfl⟩
noncomputable def eo(p:Int×Tok):Int×Value:=(hashInt p.1,.int p.1 p.2)
noncomputable def ed(e:Int×Value):Int×Tok:=match e.2 with
 | .int i t=>(i,t)
 |_=>(0,0)
theorem LG(p:Int×Tok):ed (eo p)=p:=rfl
theorem qe{es:Array (Int×Value)}{l:List (Int×Tok)}(p:es.toList.Perm (l.map eo)):∃o:List (Int×Tok),es.toList=o.map eo/\o.Perm l:=by
 refine⟨es.toList.map ed,?_,?_⟩
 .have:es.toList.map (eo∘ed)=es.toList.map id:=QQ λ x hx=>by obtain⟨q,_,rfl⟩:=fN.mp (p.mem_iff.mp hx);rfl
  simp_all
 .have:=p.map ed;rw[Q2]at this;have e:l.map (ed∘eo)=l:=by have:(ed∘eo)=id:=funext LG;rw[this,List.map_id]
  rwa [e]at this
structure b8 (w:World) (h:Heap) (a:Addr) (l:List (Int × Tok)) (ep:Nat) (t:SetTable):Prop where
 obj:∃o,h.get? a=some o/\o.ExactSet/\o.data=.set (l.map eo).toArray ep t
 few:l.length < scanBound
 fits:t.fits l.length=true
 led:t.led = !w.params.followText "set-order"
 tb:Tb t
section
variable {prog:Program} {w:World} {A:Around} {E:Value->Shared->Prop} {s:Shared} {a:Addr} {l:List (Int × Tok)} {ep:Nat} {t:SetTable}
theorem zF(l:List (Int×Tok)):ElemsOf (intKind prog w) (l.map eo):= λ e he=>by obtain⟨p,_,rfl⟩:=fN.mp he;exact⟨⟨p.1,by simp[eo,intKind,Value.isInt],rfl⟩,rfl⟩
theorem G0(k:Int)(l:List (Int×Tok)):((l.map eo).findIdx? λ e=>(intKind prog w).is k e.2).isSome=decide (k∈l.map (·.1)):=by
 rw[Z0,YC,List.findIdx?_isSome,VC];constructor;. rintro⟨e,he,C⟩;obtain⟨p,o,rfl⟩:=fN.mp he;obtain⟨u,I⟩:=VX (show Value.isInt k (.int p.1 p.2)=true from C);grind
 .intro h;obtain⟨p,o,rfl⟩:=fN.mp h;exact⟨eo p,Y9 o,by simp[eo,intKind,Value.isInt]⟩
theorem b8.store{t':SetTable}(x:b8 w h a l ep t)(he:es.toList=C.map eo)(I:C.length<scanBound)(hf:t'.fits C.length=true)(J:t'.led=t.led)(U:Tb t'):
  b8 w (h.update a (Obj.putSet es t')) a C (ep+1) t':=by
 obtain⟨o,ho,hx,hd⟩:=x.obj;have e2:es=(C.map eo).toArray:=by grind
 refine⟨⟨{ o with data:= .set es (ep+1) t' },?_,hx,by rw[e2]⟩,I,hf,J.trans x.led,U⟩;have:=ZJ (Obj.putSet es t') ho (by rw[putSet_of es t' hd];rfl);rwa [putSet_of es t' hd]at this
theorem k0{Q:Unit->Shared->Prop}(x:b8 w s.heap a l ep t)(hz:es.size<scanBound)(h:Q () { s with heap:=s.heap.update a (Obj.putSet es t') }):
  wpAny (model prog w) A (storeSet a es t') Q E s:=by obtain⟨o,C,_,hd⟩:=x.obj;exact wpAny_storeSet_of C hd h (fits_of_scanBound hz)
theorem gR{es:Array (Int×Value)}{o:List (Int×Tok)}(h:es.toList=o.map eo):es.size=o.length:=by have:=ZO List.length h;grind
theorem CZ(x:b8 w s.heap a l ep t)(ah:l.length+1<scanBound)
  (h:∀h' U I t' b,Heap.SameBut a s.heap h'->b8 w h' a U I t'->(if k∈l.map (·.1)then U=l else U.Perm (l++[(k,tok)]))->Q b { s with heap:=h' }):
  wpAny (model prog w) A (setAddHashed a (.int k tok) (hashInt k)) Q E s:=by
 obtain⟨o,ho,hx,hd⟩:=x.obj;have hsz:(l.map eo).toArray.size=l.length:=by simp
 have ae:ElemsOf (intKind prog w) (l.map eo).toArray.toList:=by simpa using zF l
 have af:t.fits (l.map eo).toArray.size=true:=by rw[hsz];exact x.fits
 unfold setAddHashed setAddHashedIn;refine Q1 ?_;refine zN (wpAny_setState_of ho hd af ?_);show wpAny _ _ (if byScan (.int k tok) (l.map eo).toArray=true then _ else _) _ _ _;rw[gA (byScan_of (knd:=intKind prog w) rfl (by rw[hsz];exact x.few) ae)];refine zN ?_;unfold setAddByScan;refine zN (V5 ?_);refine zN (wpAny_setScan_of (knd:=intKind prog w) (k:=k) (intKind_is _ _ _ _) ho hd af ae ?_);have ab:=G0 (prog:=prog) (w:=w) k l;rw[show(l.map eo).toArray.toList=l.map eo by simp];cases hr:(l.map eo).findIdx? (λ e=>(intKind prog w).is k e.2)with
 |some j=>rw[hr]at ab;have hm:k∈l.map (·.1):=VF ab.symm;dsimp only;refine kT (kT ?_);have:=h s.heap l ep t false (Heap.SameBut.refl a s.heap) x (by rw[gA hm]);exact this
 |none=>
  rw[hr]at ab;have hm:k∉l.map (·.1):=of_decide_eq_false ab.symm;have p1:=layNew_perm t (l.map eo).toArray (hashInt k) (.int k tok);have f1:=layNew_fits t (l.map eo).toArray (hashInt k) (.int k tok);obtain⟨b1,b2⟩:=yx x.tb (l.map eo).toArray (hashInt k) (.int k tok);generalize hL:layNew t (l.map eo).toArray (hashInt k) (.int k tok)=L at p1 f1 b1 b2|-;obtain⟨C,t1,dm,gv⟩:=L;dsimp only at p1 f1 b1 b2|-;rw[Array.toList_push,show(l.map eo).toArray.toList++[(hashInt k,Value.int k tok)]=(l++[(k,tok)]).map eo by simp[eo]]at p1;obtain⟨l1,e1,q1⟩:=qe p1;have n1:l1.length=l.length+1:=by rw[q1.length_eq];simp
  have z1:=gR e1;have fin:∀h' U I t',Heap.SameBut a s.heap h'->b8 w h' a U I t'->U.Perm l1->Q true { s with heap:=h' }:= λ h' U I t' sb x' p'=>
   h h' U I t' true sb x' (by rw[gL hm];exact p'.trans q1);have gw:∀(b:Bool){J:Shared}{Q':Unit->Shared->Prop},Q' () J->wpAny (model prog w) A (match b with|true=>rule "set.scan.the-table-gave-way"|false=>pure ()) Q' E J:= λ b _ _ hq=>by
   cases b;. exact kT hq
   .exact V5 hq
  refine zN (gw gv ?_);have x1:b8 w (s.heap.update a (Obj.putSet C t1)) a l1 (ep+1) t1:=x.store e1 (by omega) (by rw[<- z1];exact f1) b2 b1;have ag:=Q4 s.heap a (Obj.putSet C t1);have tl:∀(g:Bool->Sem Unit)(R:Option Bool->Shared->Prop),(∀(b:Bool){J:Shared}{Q':Unit->Shared->Prop},Q' () J->wpAny (model prog w) A (g b) Q' E J)->
    (∀h' U I t',Heap.SameBut a s.heap h'->b8 w h' a U I t'->U.Perm l1->R (some true) { s with heap:=h' })->
    wpAny (model prog w) A (storeSet a C t1 >>=λ _=>if(!dm&&t1.tooFull)=true then(g (relayAll t1 C (SetTable.grown C.size)).2.2 >>=λ _=>
     storeSet a (relayAll t1 C (SetTable.grown C.size)).1 (relayAll t1 C (SetTable.grown C.size)).2.1 >>=λ _=>pure (some true))else pure (some true)) R E s:= λ g R hg fin=>by
   refine zN (k0 x (by omega) ?_);by_cases aa:(!dm&&t1.tooFull)=true;. rw[gA aa];have p2:=relayAll_perm t1 C (SetTable.grown C.size);have f2:=relayAll_fits t1 C (SetTable.grown C.size);obtain⟨c1,c2⟩:=sO t1 C (SetTable.grown C.size);generalize hR:relayAll t1 C (SetTable.grown C.size)=R at p2 f2 c1 c2|-;obtain⟨aj,t2,ai⟩:=R;rw[e1]at p2;obtain⟨l2,e2,q2⟩:=qe p2;have n2:l2.length=l1.length:=q2.length_eq;have z2:=gR e2;refine zN (hg ai ?_);refine zN (k0 (s:={ s with heap:=s.heap.update a (Obj.putSet C t1) }) x1 (by omega) (kT ?_));exact fin _ l2 _ t2 (ag.trans (Q4 _ a _)) (x1.store e2 (by omega) (by rw[<- z2];exact f2) c2 c1) q2
   .rw[gL aa];exact kT (fin _ l1 _ t1 ag x1 (VG _))
  split;. exact tl _ _ gw λ h' U I t' c1 c2 c3=>kT (fin h' U I t' c1 c2 c3)
  .exact tl _ _ gw λ h' U I t' c1 c2 c3=>kT (fin h' U I t' c1 c2 c3)
end
section
variable {prog:Program} {w:World} {A:Around} {E:Value->Shared->Prop} {s:Shared}
noncomputable abbrev e_(w:World):Obj:={ cls:= .type "set",dict:=none,data:= .set #[] 0 (.fresh 0 0 (!w.params.followText "set-order")) }
theorem qD (v:Value) {Q:Value->Shared->Prop} (h:Q (.ref s.heap.objs.size) { s with heap:=s.heap.push (e_ w) }) :
  codeAny (model prog w) A (.call (.builtin "set.__new__") ⟨[.type "set",v],[]⟩) (wants Q E) s:= by
 refine codeAny_of_tree ?_
 show wpAny (model prog w) A.in1 (do checkBuiltinCall "set.__new__" ⟨[.type "set",v],[]⟩;again (.builtin "set.__new__" ⟨[.type "set",v],[]⟩)) _ _ s
 refine zN (wpAny_of_eq (F.newCall_set_1 v) (kT ⟨WD F.plain_set_new _,Z9 F.entry_set_new ?_⟩))
 rw [VT F.plain_set_new _]
 have hsub:=sub_set_self
 obtain ⟨hp,g,d,tk,os⟩:=s
 unfold Builtin.«set.__new__» Builtin.Frozenset.newClass
 dsimp only
 wp_walk
 refine XB (kT ?_)
 dsimp only
 simp only [newObj]
 exact zN (wpAny_alloc (kT (kT h)))
theorem rO:isSubtype (.type "tuple") (.type "set")=pure false:=by rw[isSubtype_type];rfl
theorem qJ:isSubtype (.type "tuple") (.type "frozenset")=pure false:=by rw[isSubtype_type];rfl
theorem sU:isSubtype (.type "list") (.type "set")=pure false:=by rw [isSubtype_type];rfl
theorem sg:isSubtype (.type "list") (.type "frozenset")=pure false:=by rw [isSubtype_type];rfl
set_option maxHeartbeats 8000000 in
theorem vW{T:String}{l:Addr}{it:Obj}{Q:Value->Shared->Prop}{P:Heap->Nat->Prop}(hl:∃o,s.heap.get? l=some o/\o.cls=.type T)(s1:isSubtype (.type T) (.type "set")=pure false)(s2:isSubtype (.type T) (.type "frozenset")=pure false)(s3:(Value.type T==Value.type "dict")=false)
  (hi:∀{A:Around}{Q:Value->Shared->Prop}{E:Value->Shared->Prop},Q (.ref (s.heap.push (e_ w)).objs.size) { s with heap:=(s.heap.push (e_ w)).push it }->wpAny (model prog w) A (pyIter (.ref l)) Q E { s with heap:=s.heap.push (e_ w) })
  (hp:∀R:Result->Shared->Prop,(∀h' tk',(∀b o,b∉[s.heap.objs.size,(s.heap.push (e_ w)).objs.size]->((s.heap.push (e_ w)).push it).get? b=some o->h'.get? b=some o)->P h' tk'->R (.ok (.ret .none)) { s with heap:=h',toks:=tk' })->
   codeAny (model prog w) A.in1.in1 (.builtin "set.update.loop" ⟨[.ref s.heap.objs.size,.ref (s.heap.push (e_ w)).objs.size],[]⟩) R { s with heap:=(s.heap.push (e_ w)).push it })
  (h:∀h' tk',P h' tk'->(∀b o,s.heap.get? b=some o->h'.get? b=some o)->Q (.ref s.heap.objs.size) { s with heap:=h',toks:=tk' }):
  wpAny (model prog w) A (call (.type "set") [.ref l]) Q E s:=by
 obtain⟨c,tl,aF⟩:=F.called_set.mro;have ax:=F.called_set.made;have aG:=F.called_set.sub;refine wpAny_call (codeAny_of_tree (?_:wpAny _ _ (callAny (.type "set") _) _ _ _));refine kT ⟨Code.quiet_builtin _ (by decide+kernel),Z9 F.entry_type_call ?_⟩;rw[Around.under_plain (weight_type_call_type "set" [.ref l] []) rfl];have h1:=F.called_set.notType;have h2:=F.called_set.canCreate;have aK:=F.typeCall_set_1 (.ref l);repeat(any_goals(first|assumption|wp_step))
 refine VS (qD (.ref l) (E:=E) (Q:= λ obj U=>obj= .ref s.heap.objs.size/\U={ s with heap:=s.heap.push (e_ w) }) ⟨rfl,rfl⟩) λ r U hr=>?_;cases r with
 |error e=>exact hr
 |ok fl=>cases fl with
  |ret obj=>
   obtain⟨rfl,rfl⟩:=hr;have hS:(s.heap.push (e_ w)).get? s.heap.objs.size=some (e_ w):=wF _ rfl;have hT:Shared.TypeIs { s with heap:=s.heap.push (e_ w) } (.ref s.heap.objs.size) "set":=⟨_,hS,rfl⟩;have aL:=F.called_set.init.lookup;have aM:=F.called_set.init.bind (.ref s.heap.objs.size);repeat(any_goals(first|assumption|wp_step))
   refine VS (codeAny_call_builtin (R:=wants (λ r aa=>r= .none/\∃h' tk,aa={ s with heap:=h',toks:=tk }/\P h' tk/\∀b o,s.heap.get? b=some o->h'.get? b=some o) E) F.called_set.init.plain F.entry_set_init (check_set_init_1 hT ?_)) λ af aa C=>?_
   .obtain⟨⟨aH,ay,az,aw⟩,ag,ah⟩:=hl;simp only at ah;subst ah;have aj:=zS (e_ w) ag
    unfold Builtin.«set.__init__» noKeywords Builtin.Frozenset.updateFrom;generalize aA:pyIter=PI;wp_walk;subst aA;refine hi ?_;refine zN (wpAny_runValue ?_)
    refine hp _ λ h' tk kp p=>?_;refine kT (?_:wpAny _ _ (ret Value.none) _ _ _);refine kT ⟨rfl,h',tk,rfl,p,λ b o e=>kp b o (λ hm=>?_) (zS _ (zS _ e))⟩
    have av:=wR e;rcases wW.mp hm with e'|hm
    .exact fR av e'
    .have:=jP.mp hm;rw[QO]at this;exact fR (VH av) this
   .cases af with
    |error e=>exact C
    |ok ae=>cases ae with
     |ret r=>
      obtain⟨rfl,h',tk,rfl,p,kp⟩:=C;repeat(any_goals(first|assumption|wp_step))
      exact h _ _ p kp
     |_=>exact C.elim
  |_=>exact hr.elim
theorem Dg{l:Addr}{items:Array Value}{Q:Value->Shared->Prop}{P:Heap->Nat->Prop}(hl:s.heap.IsList l items\/s.heap.IsTuple l items)(hh:A.handled=none)
  (hp:∀(I:Addr)(St:Nat->Heap->Prop)(h0:Heap)(R:Result->Shared->Prop),Walks prog w A.in1.in1.in1 I [I,l] [I] items.size (λ i v=>items[i]?=some v) St->St 0 h0->h0.get? s.heap.objs.size=some (e_ w)->s.heap.objs.size∉[I,l]->s.heap.objs.size<I->(∀b o,s.heap.get? b=some o->h0.get? b=some o)->
   (∀h' tk',(∀b o,b∉[s.heap.objs.size,I]->h0.get? b=some o->h'.get? b=some o)->P h' tk'->R (.ok (.ret .none)) { s with heap:=h',toks:=tk' })->codeAny (model prog w) A.in1.in1 (.builtin "set.update.loop" ⟨[.ref s.heap.objs.size,.ref I],[]⟩) R { s with heap:=h0 })
  (h:∀h' tk',P h' tk'->(∀b o,s.heap.get? b=some o->h'.get? b=some o)->Q (.ref s.heap.objs.size) { s with heap:=h',toks:=tk' }):
  wpAny (model prog w) A (call (.type "set") [.ref l]) Q E s:=by
 have hlt:l<s.heap.objs.size:=by rcases hl with⟨o,e,_⟩|⟨o,e,_⟩ <;> exact wR e
 have sI:(s.heap.push (e_ w)).objs.size=s.heap.objs.size+1:=QO ..
 have hS:∀it,((s.heap.push (e_ w)).push it).get? s.heap.objs.size=some (e_ w):=λ it=>zS _ (wF _ rfl)
 have hk:∀it b o,s.heap.get? b=some o->((s.heap.push (e_ w)).push it).get? b=some o:=λ it b o e=>zS _ (zS _ e)
 have n1:s.heap.objs.size∉[(s.heap.push (e_ w)).objs.size,l]:=λ hm=>(wW.mp hm).elim (λ e=>by rw[sI]at e;exact fR (Z2 _) e) λ e=>VI hlt (jP.mp e)
 have n3:s.heap.objs.size<(s.heap.push (e_ w)).objs.size:=by rw[sI];exact Z2 _
 have n2:l≠(s.heap.push (e_ w)).objs.size:=fR (XO hlt n3)
 have hA:A.in1.in1.in1.handled=none:=by simp[hh]
 rcases hl with hl|hl
 .exact vW (T:="list") (it:={ cls:= .type "list_iterator",data:= .fields #[.ref l,.int 0 0] }) (by obtain⟨o,e,c,_⟩:=hl;exact⟨o,e,c⟩) sU sg (by decide) (λ q=>VY (hl.push _) q) (λ R f=>hp _ _ _ R (Walks.list hA _ l n2 items) ⟨⟨_,wF _ rfl,rfl,rfl⟩,(hl.push _).push _⟩ (hS _) n1 n3 (hk _) f) h
 .exact vW (T:="tuple") (it:={ cls:= .type "tuple_iterator",data:= .fields #[.ref l,.int 0 0] }) (by obtain⟨o,e,c,_⟩:=hl;exact⟨o,e,c⟩) rO qJ (by decide) (λ q=>YQ (hl.push _) q) (λ R f=>hp _ _ _ R (Walks.tuple hA _ l n2 items) ⟨⟨_,wF _ rfl,rfl,rfl⟩,(hl.push _).push _⟩ (hS _) n1 n3 (hk _) f) h
end
section
variable {prog:Program} {w:World} {A:Around} {E:Value->Shared->Prop} {s:Shared} {R:Result->Shared->Prop} {I:Addr} {fp wr:List Addr} {n:Nat} {P:Nat->Value->Prop} {St:Nat->Heap->Prop}
theorem b8.at (x:b8 w h a l ep t) (k:∀o,h.get? a=some o->h'.get? a=some o):b8 w h' a l ep t:= by
 obtain ⟨o,ho,hr⟩:=x.obj
 exact ⟨⟨o,k o ho,hr⟩,x.few,x.fits,x.led,x.tb⟩
theorem yT (W:Walks prog w A.in1 I fp wr n P St) (S:Addr) (hSf:S ∉ fp) (val:Nat->Int) (hval:∀i v,P i v->∃t,v=.int (val i) t) (hb:n + 1 < scanBound) :
  ∀(k i:Nat) (h:Heap) (tk:Nat) (l:List (Int × Tok)) (ep:Nat) (t:SetTable),n - i=k->i ≤ n->St i h->b8 w h S l ep t->l.length ≤ i->(l.map (·.1)).Nodup->(∀z,z ∈ l.map (·.1) ↔ ∃j,j < i/\val j=z) ->
   (∀h' tk' l' ep' t',(∀b o,b ∉ S :: wr->h.get? b=some o->h'.get? b=some o)->b8 w h' S l' ep' t' -> (l'.map (·.1)).Nodup->(∀z,z ∈ l'.map (·.1) ↔ ∃j,j < n/\val j=z)->R (.ok (.ret .none)) { s with heap:=h',toks:=tk' }) ->
   codeAny (model prog w) A (.builtin "set.update.loop" ⟨[.ref S,.ref I],[]⟩) R { s with heap:=h,toks:=tk }:= by
 have hSw:S ∉ wr:=fun z=>hSf (W.sub _ z)
 intro k
 induction k with
 | zero=>
  intro i h tk l ep t hk hi st x hl nd mem fin
  have ei:i=n:=by omega
  subst ei
  refine Z9 JP ?_
  rw [VT V7 _]
  show wpAny (model prog w) A.in1 (pyNext (.ref I) >>= _) _ _ _
  refine zN (W.done { s with heap:=h,toks:=tk } _ _ st fun h' tk' kp=>?_)
  exact kT (fin h' tk' l ep t (fun b o hb' e=>kp b o (fun z=>hb' (uN _ z)) e) (x.at fun o e=>kp S o hSw e) nd mem)
 | succ k ih=>
  intro i h tk l ep t hk hi st x hl nd mem fin
  have hlt:i < n:=by omega
  refine Z9 JP ?_
  rw [VT V7 _]
  show wpAny (model prog w) A.in1 (pyNext (.ref I) >>= _) _ _ _
  refine zN (W.item i { s with heap:=h,toks:=tk } _ _ hlt st fun v h1 tk1 hP st1 kp=>?_)
  obtain ⟨u,rfl⟩:=hval i v hP
  have x1:b8 w h1 S l ep t:=x.at fun o e=>kp S o hSw e
  show wpAny (model prog w) A.in1 (holding [Value.int (val i) u] (setAdd S (.int (val i) u)) >>= _) _ _ _
  refine zN (Q1 ?_)
  unfold setAdd
  refine Q1 ?_
  refine zN ((intKind prog w).pyHash (k:=val i) (intKind_is _ _ _ _) ?_)
  refine CZ (s:={ s with heap:=h1,toks:=tk1 + 1 }) x1 (by omega) fun h2 l2 ep2 t2 b sb x2 hif=>?_
  have hm2:(∀z,z ∈ l2.map (·.1) ↔ ∃j,j < i + 1/\val j=z)/\(l2.map (·.1)).Nodup/\l2.length ≤ i + 1:= by
   by_cases hm:val i ∈ l.map (·.1)
   .rw [gA hm] at hif
    subst hif
    refine ⟨fun z=>(mem z).trans ⟨fun ⟨j,h1,h2⟩=>⟨j,by omega,h2⟩,fun ⟨j,h1,h2⟩=>?_⟩,nd,by omega⟩
    by_cases hj:j < i
    .exact ⟨j,hj,h2⟩
    .have:j=i:=by omega
     subst this
     exact (mem z).mp (h2 ▸ hm)
   .rw [gL hm] at hif
    have pm:(l2.map (·.1)).Perm (l.map (·.1) ++ [val i]):=by simpa using hif.map (·.1)
    refine ⟨fun z=>?_,?_,?_⟩
    .rw [pm.mem_iff,fD,mem z,jP]
     constructor
     .rintro (⟨j,h1,h2⟩ | e)
      .exact ⟨j,by omega,h2⟩
      .exact ⟨i,by omega,e.symm⟩
     .rintro ⟨j,h1,h2⟩
      by_cases hj:j < i
      .exact .inl ⟨j,hj,h2⟩
      .have:j=i:=by omega
       subst this
       exact .inr h2.symm
    .rw [pm.nodup_iff,VZ]
     refine ⟨nd,by simp,fun p hp q hq e=>?_⟩
     rw [jP] at hq
     subst hq;subst e
     exact hm hp
    .rw [hif.length_eq];simp;omega
  refine kT ⟨WD V7 _,ih (i + 1) h2 (tk1 + 1) l2 ep2 t2 (by omega) hlt (W.frame _ h1 h2 st1 fun b hb' o e=>?_) x2 hm2.2.2 hm2.2.1 hm2.1 fun h' tk' l' ep' t' c1 c2 c3 c4=>fin h' tk' l' ep' t' (fun b o hb' e=>?_) c2 c3 c4⟩
  .rw [sb.2 b fun z=>hSf (z ▸ hb')];exact e
  .refine c1 b o hb' ?_
   rw [sb.2 b fun z=>hb' (z ▸ uT)]
   exact kp b o (fun z=>hb' (uN _ z)) e
theorem uy(e:h.get? S=some (e_ w)):b8 w h S [] 0 (.fresh 0 0 (!w.params.followText "set-order")):=
 ⟨⟨_,e,⟨rfl,rfl,rfl⟩,rfl⟩,by decide,by rfl,rfl,λ _=>List.Pairwise.nil⟩
theorem nQ(hl:s.heap.IsList l items\/s.heap.IsTuple l items)(hh:A.handled=none)(hi:PyProof.Rows.IntsAre items.toList ns)(hb:items.size+1<scanBound)
  (h:∀(h':Heap)(tk:Nat)(ls:List (Int×Tok))(ep:Nat)(t:SetTable),b8 w h' s.heap.objs.size ls ep t->(ls.map (·.1)).Nodup->(∀z,z∈ls.map (·.1)↔z∈ns)->
   (∀b o,s.heap.get? b=some o->h'.get? b=some o)->Q (.ref s.heap.objs.size) { s with heap:=h',toks:=tk }):
  wpAny (model prog w) A (call (.type "set") [.ref l]) Q E s:=by
 have e:ns.length=items.size:=by have:=hi.length;simpa using this.symm
 refine Dg (P:=λ h' _=>∃ls ep t,b8 w h' s.heap.objs.size ls ep t/\(ls.map (·.1)).Nodup/\∀z,z∈ls.map (·.1)↔z∈ns) hl hh (λ I St h0 R W st hS n1 _ _ f=>yT W s.heap.objs.size n1 (λ i=>ns.getD i 0) (λ i v hv=>PyProof.Rows.IntsAre.int_at hi i v (by rw[QW];exact hv)) hb _ 0 h0 s.toks [] 0 _ rfl (ZG _) st (uy hS) (ZG _) WX (λ z=>⟨λ hz=>(nomatch hz),λ⟨j,hj,_⟩=>absurd hj (YU _)⟩) λ h' tk l' ep' t' kp x nd J=>f h' tk kp ⟨l',ep',t',x,nd,λ z=>(J z).trans ⟨λ⟨j,hj,q⟩=>?_,λ hz=>?_⟩⟩) λ h' tk ⟨ls,ep,t,x,nd,J⟩ k=>h h' tk ls ep t x nd J k
 .have:j<ns.length:=by omega
  rw[<-q,QP,kW this];exact QT this
 .obtain⟨j,hj,q⟩:=ZF hz;exact⟨j,by omega,by simp[hj,q]⟩
end
theorem zR:Manifest.owners.lookup (String.ofList ['r','o','t','a','r','e','t','i','_','t','e','s'].reverse)=some Manifest.sig_set_iterator:=by kernel_rfl
theorem eO:Slot "set_iterator" "__next__" "set_iterator.__next__":= .of (owner:="set_iterator") (n:="__next__") (by rfl) (by decide+kernel) (by decide+kernel) (by decide+kernel) (by first|exact .inl (by decide+kernel)|exact .inr (by decide+kernel)) (by kernel_rfl)
theorem uv:entryFor table "set_iterator.__next__"=some Builtin.«set_iterator.__next__»:=entryFor_of_tree (by rfl)
theorem uD(v:Value):argsOk "set_iterator.__next__" ⟨[v],[]⟩:=by unfold argsOk;rw[signature?_of (id:="set_iterator.__next__") (n:=['_','_','t','x','e','n','_','_']) (o:=['r','o','t','a','r','e','t','i','_','t','e','s']) (by kernel_rfl) zR];rfl
theorem lX:Slot "set_iterator" "__iter__" "set_iterator.__iter__":= .of (owner:="set_iterator") (n:="__iter__") (by rfl) (by decide+kernel) (by decide+kernel) (by decide+kernel) (by first|exact .inl (by decide+kernel)|exact .inr (by decide+kernel)) (by kernel_rfl)
theorem u9:entryFor table "set_iterator.__iter__"=some Builtin.«dict_keyiterator.__iter__»:=entryFor_alias (id':="dict_keyiterator.__iter__") (by kernel_rfl) (by first|rfl|decide+kernel|(unfold String.splitOn;simp+decide [String.splitOnAux])) (by decide+kernel) (by kernel_rfl)
theorem u4(v:Value):argsOk "set_iterator.__iter__" ⟨[v],[]⟩:=by unfold argsOk;rw[signature?_of (id:="set_iterator.__iter__") (n:=['_','_','r','e','t','i','_','_']) (o:=['r','o','t','a','r','e','t','i','_','t','e','s']) (by kernel_rfl) zR];rfl
theorem su:entryFor table "set.__iter__"=some Builtin.«frozenset.__iter__»:=entryFor_alias (id':="frozenset.__iter__") (by kernel_rfl) (by first|rfl|decide+kernel|(unfold String.splitOn;simp+decide [String.splitOnAux])) (by decide+kernel) (by kernel_rfl)
noncomputable abbrev tB(h:Heap)(I S:Addr)(f0:Value)(i n o:Nat):Prop:=h.get? I=some { cls:= .type "set_iterator",dict:=none,data:= .fields #[f0,.int i 0,.ref S,.int n 0,.int o 0],slots:=#[] }
section
variable {prog:Program} {w:World} {A:Around} {E:Value->Shared->Prop} {s:Shared} {I S:Addr} {l:List (Int × Tok)} {ep:Nat} {t:SetTable} {i:Nat} {f0:Value}
theorem b8.state(x:b8 w s.heap S l ep t)(h:Q ((l.map eo).toArray,ep,t) s):wpAny (model prog w) A (setState S) Q E s:=by obtain⟨o,C,_,hd⟩:=x.obj;exact wpAny_setState_of C hd (by simpa using x.fits) h
theorem b8.ty(x:b8 w s.heap S l ep t):s.TypeIs (.ref S) "set":=by obtain⟨o,C,hx,_⟩:=x.obj;exact⟨o,C,hx.1⟩
theorem l9(C:A.handled=none)(J:∀h' e,(∀b o,s.heap.get? b=some o->h'.get? b=some o)->(∃o,h'.get? e=some o/\o.cls= .type "StopIteration")->E (.ref e) { s with heap:=h' }):
  wpAny (model prog w) A (newExc (.type "StopIteration") [] >>=λ x=>(raiseNew x:Sem B)) Q E s:=by refine zN ?_;refine zN (m:=firstArgMember _ _) (wpAny_of_eq (a:=Value.none) (by first|rfl|(simp)) ?_);refine QZ ?_ (by size_fits);refine zN (wpAny_handled ?_);rw[C];refine zN (kT (wpAny_throw ?_));exact J _ _ (λ b o e=>zS _ (zS _ e)) ⟨_,wF _ rfl,rfl⟩
theorem kh{Q:Option Value->Shared->Prop}(C:tB s.heap I S f0 i l.length ep)(x:b8 w s.heap S l ep t)
  (h:wpAny (model prog w) A.in1 (if let .int slot _:=f0 then(do
    match<- setNext S slot.toNat i ep with
    |some (x,next)=>
     setField (.ref I) 0 (rawInt next)
     setField (.ref I) 1 (rawInt (i+1))
     ret x
    |none=>setField (.ref I) 2 .none;raiseNew (<- newExc (.type "StopIteration") []))
   else(do
    let some places<- seqItems? f0|unsupported "internal:set_iterator"
    match places[i]? with
    |some (.int place _)=>
     let x<- setNextDrawn S place.toNat ep
     setField (.ref I) 1 (rawInt (i+1))
     ret x
    |some _=>unsupported "internal:set_iterator"
    |none=>setField (.ref I) 0 (rawInt 0);setField (.ref I) 2 .none;raiseNew (<- newExc (.type "StopIteration") [])))
   (λ fin s'=>∃v,fin= .done (.ret v)/\Q (some v) s') (λ e s'=>(∃a o,e= .ref a/\s'.heap.get? a=some o/\o.cls= .type "StopIteration")/\Q none s') s):
  wpAny (model prog w) A (pyNext (.ref I)) Q E s:=by
 have J:s.TypeIs (.ref I) "set_iterator":=⟨_,C,rfl⟩;refine zN (YE (Q6 (name:=Str.ofString "__next__") J eO (Q5 eO J uv ?_ (uD _))));refine zN (m:=slotArgs "__next__" 0 ⟨[.ref I],[]⟩) (kT ?_);refine zN (wpAny_fieldsOf C rfl ?_);refine zN ?_;refine zN (x.state (kT ?_));rw[gL (by simp)];refine gO h (λ fin s' h'=>?_) λ e s' h'=>?_;. obtain⟨v,rfl,q⟩:=h';exact⟨v,rfl,kT q⟩
 .obtain⟨⟨a,o,rfl,U,hc⟩,q⟩:=h';exact zN (YM (T:="StopIteration") (b:=true) ⟨o,U,hc⟩ isSubtype_stop (kT q))
end
section
variable {prog:Program} {w:World} {A:Around} {E:Value->Shared->Prop} {s:Shared} {I S:Addr} {l:List (Int × Tok)} {ep:Nat} {t:SetTable} {i:Nat} {f0:Value}
theorem xx{slot nx:Nat}{v:Value}(C:I≠S)(hI:tB s.heap I S (.int slot 0) i l.length ep)(x:b8 w s.heap S l ep t)
  (hn:∀(Q':Option (Value×Nat)->Shared->Prop)(E':Value->Shared->Prop),Q' (some (v,nx)) s->wpAny (model prog w) A.in1 (setNext S slot i ep) Q' E' s)
  (hQ:∀h',tB h' I S (.int nx 0) (i+1) l.length ep->b8 w h' S l ep t->(∀b o,b≠I->s.heap.get? b=some o->h'.get? b=some o)->Q (some v) { s with heap:=h' }):
  wpAny (model prog w) A (pyNext (.ref I)) Q E s:=by
 refine kh hI x ?_;refine zN (hn _ _ ?_);refine zN (QV hI (by simp) λ h1 aa J=>?_);refine zN (QV aa (by simp) λ h2 ab U=>kT ⟨v,rfl,?_⟩);refine hQ h2 (by simpa[tB,rawInt]using ab) (x.at λ o e=>?_) λ b o hb e=>?_;. rw[U.2 S C.symm,J.2 S C.symm];exact e
 .rw[U.2 b hb,J.2 b hb];exact e
theorem jY{slot:Nat}(hh:A.handled=none)(J:tB s.heap I S (.int slot 0) i l.length ep)(x:b8 w s.heap S l ep t)
  (hn:∀(U:Option (Value×Nat)->Shared->Prop)(E':Value->Shared->Prop),U none s->wpAny (model prog w) A.in1 (setNext S slot i ep) U E' s)
  (hQ:∀h',(∀b o,b≠I->s.heap.get? b=some o->h'.get? b=some o)->Q none { s with heap:=h' }):
  wpAny (model prog w) A (pyNext (.ref I)) Q E s:=by refine kh J x ?_;refine zN (hn _ _ ?_);refine zN (QV J (by simp) λ h1 aa C=>?_);refine l9 (s:={ s with heap:=h1 }) hh λ h' e kp he=>?_;obtain⟨o,ho,hc⟩:=he;refine⟨⟨e,o,rfl,ho,hc⟩,hQ h' λ b o hb e=>kp b o ?_⟩;rw[C.2 b hb];exact e
theorem FQ{T:Addr}{places:Array Value}{p:Nat}{v:Int×Tok}(J:I≠S)(aa:I≠T)(hI:tB s.heap I S (.ref T) i l.length ep)(x:b8 w s.heap S l ep t)
  (hT:s.heap.get? T=some { cls:= .type "tuple",data:= .seq places })(hp:places[i]?=some (.int p 0))(hv:l[p]?=some v)
  (hQ:∀h',tB h' I S (.ref T) (i+1) l.length ep->b8 w h' S l ep t->(∀b o,b≠I->s.heap.get? b=some o->h'.get? b=some o)->Q (some (.int v.1 v.2)) { s with heap:=h' }):
  wpAny (model prog w) A (pyNext (.ref I)) Q E s:=by
 refine kh hI x ?_;refine zN (VJ hT rfl ?_);dsimp only;rw[hp];refine zN ?_;refine zN (x.state ?_);dsimp only;rw[gL (by simp)];have:(l.map eo).toArray[(p:Int).toNat]?=some (eo v):=by simp[hv]
 rw[this];refine kT ?_;refine zN (QV hI (by simp) λ h1 U C=>kT ⟨_,rfl,?_⟩);refine hQ h1 (by simpa[tB,rawInt]using U) (x.at λ o e=>?_) λ b o hb e=>?_;. rw[C.2 S J.symm];exact e
 .rw[C.2 b hb];exact e
theorem qY{T:Addr}{places:Array Value}(hh:A.handled=none)(hI:tB s.heap I S (.ref T) i l.length ep)(x:b8 w s.heap S l ep t)
  (hT:s.heap.get? T=some { cls:= .type "tuple",data:= .seq places })(hp:places[i]?=none)
  (hQ:∀h',(∀b o,b≠I->s.heap.get? b=some o->h'.get? b=some o)->Q none { s with heap:=h' }):
  wpAny (model prog w) A (pyNext (.ref I)) Q E s:=by refine kh hI x ?_;refine zN (VJ hT rfl ?_);dsimp only;rw[hp];refine zN (QV hI (by simp) λ h1 C J=>?_);refine zN (QV C (by simp) λ h2 aa U=>?_);refine l9 (s:={ s with heap:=h2 }) hh λ h' e kp he=>?_;obtain⟨o,ho,hc⟩:=he;refine⟨⟨e,o,rfl,ho,hc⟩,hQ h' λ b o hb e=>kp b o ?_⟩;rw[U.2 b hb,J.2 b hb];exact e
theorem pH{n:Nat}(C:tB s.heap I S f0 i n ep)(h:Q (.ref I) s):wpAny (model prog w) A (pyIter (.ref I)) Q E s:=by have o:s.TypeIs (.ref I) "set_iterator":=⟨_,C,rfl⟩;refine wpAny_pyIter_slot o lX (Q5 lX o u9 ?_ (u4 _));exact kT ⟨_,rfl,"set_iterator",_,o,eO.lookup,h⟩
theorem dD{B:Type}:∀{l:List B}{i:Nat}(h:i<l.length),(l[i]::l.eraseIdx i).Perm l
 |[],_,h=>absurd h (YU _)
 |x::l,0,_=>VG _
 |x::l,i+1,h=>(List.Perm.swap _ _ _).trans ((dD (l:=l) (i:=i) (by grind)).cons x)
theorem Fe(next:Nat->Nat):∀(fuel k:Nat)(left:List B)(out:Array B),fuel=left.length->(pickOrder.go next fuel k left out).toList.Perm (out.toList++left):=by intro fuel;induction fuel with
 |zero=>intro k left out h;have:left=[]:=VU h.symm;subst this;unfold pickOrder.go;simp
 |succ fuel C=>intro k left out h;unfold pickOrder.go;have o:next k%left.length<left.length:=Nat.mod_lt _ (by omega);rw[kW o];refine(C _ _ _ (by rw[Y3];split <;> omega)).trans ?_;rw[Array.toList_push,ZY];refine List.Perm.append_left _ ?_;exact(dD o)
theorem xO(next:Nat->Nat)(xs:Array B):(pickOrder next xs).toList.Perm xs.toList:=by unfold pickOrder;have:=Fe next xs.size 0 xs.toList #[] (by simp);grind
theorem tR{Q:List Nat->Shared->Prop}:∀(n:Nat)(xs:List Nat)(s:Shared),n=xs.length->(∀ys d,ys.Perm xs->Q ys { s with drawn:=d })->wpAny M A (drawOrder n xs) Q E s:=by intro n;induction n generalizing Q with
 |zero=>intro xs s h o;have:xs=[]:=VU h.symm;subst this;exact kT (o [] s.drawn (VG _))
 |succ n J=>intro xs s h o;cases xs with
  |nil=>cases h
  |cons x xs=>refine zN (λ Γ p U=>?_);refine⟨by simp,?_⟩;rw[Sem.wp_pure];have C:M.w.draws Source.order (s.drawn.get Source.order)%(x::xs).length<(x::xs).length:=Nat.mod_lt _ (by simp);dsimp only;rw[kW C];refine zN (J _ _ (by rw[Y3];split <;> (omega)) λ ys d py=>kT ?_);exact o _ d ((py.cons _).trans (dD C))
end
section
variable {prog:Program} {w:World} {A:Around} {E:Value->Shared->Prop} {s:Shared} {I S:Addr} {l:List (Int × Tok)} {ep:Nat} {t:SetTable} {i:Nat}
theorem ke(h:Q (w.params.followText "set-order") s):wpAny (model prog w) A setsByText Q E s:=zN (XB (kT h))
theorem yO(x:b8 w s.heap S l ep t)(h:Q (!w.params.followText "set-order"&&(!t.plain&&decide (l.length>1))) s):wpAny (model prog w) A (setDrawn S) Q E s:=by
 refine zN (x.state ?_);refine zN (ke ?_);have e:(l.map eo).toArray.size=l.length:=by simp
 rw[<- e]at h;exact kT h
theorem oh(hw:w.params.followText "set-order"=true)(x:b8 w s.heap S l ep t)(h:Q (((pickOrder (w.params.setOrder S ep) (l.map eo).toArray)[i]?).map λ e=>(e.2,slot)) s):
  wpAny (model prog w) A (setNext S slot i ep) Q E s:=by refine zN (x.state ?_);refine zN (ke ?_);rw[hw,gA rfl,gL (by simp)];refine zN ?_;refine zN (x.state ?_);refine zN (ke ?_);rw[hw];exact zN (XB (kT (kT h)))
theorem k8(hw:w.params.followText "set-order"=false)(hd:(!t.plain&&decide (l.length>1))=false)(x:b8 w s.heap S l ep t)
  (h:Q (match(l.map eo).toArray[SetTable.below t.place slot]?,t.place[SetTable.below t.place slot]? with
   |some (_,x),some j=>some (x,j+1)
   |_,_=>none) s):wpAny (model prog w) A (setNext S slot i ep) Q E s:=by
 refine zN (x.state ?_);refine zN (ke ?_);rw[hw,gL uS];have e:(l.map eo).toArray.size=l.length:=by simp
 rw[<- e]at hd;refine(show∀{b:Bool}{m k:Sem (Option (Value×Nat))},b=false->wpAny (model prog w) A k Q E s->wpAny (model prog w) A (if b=true then m else k) Q E s from λ o C=>by simp_all) hd ?_;refine zN ?_;have U:t.led=true:=by rw[x.led,hw];rfl
 refine(show∀{b:Bool}{m k:Sem PUnit}{J:PUnit->Shared->Prop},b=false->wpAny (model prog w) A k J E s->wpAny (model prog w) A (if b=true then m else k) J E s from λ o C=>by rw[o];exact C) (show(!t.led&& !(l.map eo).toArray.isEmpty)=false by rw[U];rfl) ?_;exact kT (kT h)
noncomputable def p9(prog:Program)(w:World)(I S:Addr)(l:List (Int×Tok))(h':Heap)(top:Addr):Prop:=
 ∃(ord:List (Int×Tok)) (fp:List Addr) (St:Nat->Heap->Prop),ord.Perm l/\(∀A:Around,A.handled=none->Walks prog w A I fp [I] l.length (λ i v=>∃p,ord[i]?=some p/\v= .int p.1 p.2) St)/\St 0 h'/\
  (∀i h,St i h->∃o,h.get? I=some o/\o.cls= .type "set_iterator")/\I∈fp/\∀b∈fp,b<h'.objs.size/\(b=S\/top<=b)
theorem qz {h':Heap} {top:Addr} (hw:w.params.followText "set-order" = true) (hIS:I ≠ S) (ht:top ≤ I) (hI:tB h' I S (.int 0 0) 0 l.length ep) (x:b8 w h' S l ep t):p9 prog w I S l h' top:= by
 have p0:=xO (w.params.setOrder S ep) (l.map eo).toArray
 rw [show (l.map eo).toArray.toList=l.map eo by simp] at p0
 obtain ⟨ord,eord,pord⟩:=qe p0
 have eg:∀i:Nat,(pickOrder (w.params.setOrder S ep) (l.map eo).toArray)[i]? = (ord[i]?).map eo:=fun i=>by
  rw [<- QW,eord,QS]
 have hlen:ord.length=l.length:=pord.length_eq
 refine ⟨ord,[I,S],fun i h=>tB h I S (.int 0 0) i l.length ep/\b8 w h S l ep t,pord,fun A hh=>⟨?_,?_,?_,?_,?_⟩,⟨hI,x⟩,fun i h st=>⟨_,st.1,rfl⟩,by simp,fun b hb=>?_⟩
 .intro b hb
  rw [jP.mp hb];simp
 .intro i h h2 st k
  exact ⟨k I (by simp) _ st.1,st.2.at fun o e=>k S (by simp) o e⟩
 .intro i s Q E hi st hQ
  have hx:ord[i]? = some ord[i]:=kW (by omega)
  refine xx (v:=.int ord[i].1 ord[i].2) (nx:=0) hIS st.1 st.2 (fun Q' E' q=>oh hw st.2 ?_) fun h2 a1 a2 a3=>hQ _ h2 s.toks ⟨_,hx,rfl⟩ ⟨a1,a2⟩ fun b o hb e=>a3 b o (fun z=>hb (by rw [z];simp)) e
  rw [eg,hx];exact q
 .intro s Q E st hQ
  refine jY hh st.1 st.2 (fun Q' E' q=>oh hw st.2 ?_) fun h2 a3=>hQ h2 s.toks fun b o hb e=>a3 b o (fun z=>hb (by rw [z];simp)) e
  simp_all
 .intro i s Q E st hQ
  exact pH st.1 hQ
 .rcases wW.mp hb with e | hb
  .rw [e];exact ⟨wR hI,.inr ht⟩
  .rw [jP.mp hb]
   obtain ⟨o,ho,_⟩:=x.obj
   exact ⟨wR ho,.inl rfl⟩
theorem tK(u:Up xs){i j:Nat}(h:xs[i]?=some j):SetTable.below xs (j+1)=i+1:=by
 obtain⟨J,b1,C⟩:=i8 u (j+1);have U:i<SetTable.below xs (j+1):=by
  rcases Nat.lt_or_ge i (SetTable.below xs (j+1))with q|q
  .exact q
  .have:=C i j q h;omega
 rcases Nat.lt_or_ge (i+1) (SetTable.below xs (j+1))with q|q
 .have hs:i+1<xs.size:=by omega
  have o:xs[i+1]?=some xs[i+1]:=by simp
  have a1:=b1 (i+1) _ q o;have a2:=u.lt (Z2 i) h o;omega
 omega
theorem ui(u:Up xs):SetTable.below xs 0=0:=by
 obtain⟨o,b1,C⟩:=i8 u 0;rcases Nat.eq_zero_or_pos (SetTable.below xs 0)with q|q
 .exact q
 .have J:xs[0]?=some xs[0]:=by simp
  grind
theorem oZ{top:Addr}(hw:w.params.followText "set-order"=false)(hd:(!t.plain&&decide (l.length>1))=false)(ab:I≠S)(ht:top<=I)(hI:tB h' I S (.int 0 0) 0 l.length ep)(x:b8 w h' S l ep t):p9 prog w I S l h' top:=by
 have hsz:t.place.size=l.length:=by have:=x.fits;simp only[SetTable.fits,Z3,beq_iff_eq]at this;exact this.1
 have u:Up t.place:=by cases hp:t.plain with
  |true=>exact x.tb hp
  |false=>
   rw[hp]at hd;have hl: ¬l.length>1:=by simpa using hd
   unfold Up;have aa:t.place.toList.length<=1:=by rw[YI];omega
   generalize t.place.toList=q at aa;match q,aa with
   |[],_=>exact List.Pairwise.nil
   |[_],_=>exact V0 _ _
   |_::_::_,h=>simp at h
 refine⟨l,[I,S],λ i h=>∃slot:Nat,tB h I S (.int slot 0) i l.length ep/\b8 w h S l ep t/\SetTable.below t.place slot=i,VG _,λ A hh=>⟨?_,?_,?_,?_,?_⟩,⟨0,hI,x,ui u⟩,λ i h ⟨_,st,_⟩=>⟨_,st,rfl⟩,by simp,λ b hb=>?_⟩;. intro b hb;rw[jP.mp hb];simp
 .rintro i h h2 ⟨slot,J,C,U⟩ k;exact⟨slot,k I (by simp) _ J,C.at λ o e=>k S (by simp) o e,U⟩
 .rintro i s Q E hi ⟨slot,J,C,U⟩ hQ;have hx:l[i]?=some l[i]:=kW hi;have hp:t.place[i]?=some t.place[i]:=by simp[hsz,hi]
  refine xx (v:= .int l[i].1 l[i].2) (nx:=t.place[i]+1) ab J C (λ Q' E' q=>k8 hw hd C ?_) λ h2 a1 a2 a3=>hQ _ h2 s.toks ⟨_,hx,rfl⟩ ⟨_,a1,a2,tK u hp⟩ λ b o hb e=>a3 b o (λ z=>hb (by rw[z];simp)) e;have e1:(l.map eo).toArray[i]?=some (eo l[i]):=by simp[hi]
  rw[U,e1,hp];exact q
 .rintro s Q E ⟨slot,J,C,U⟩ hQ;refine jY hh J C (λ Q' E' q=>k8 hw hd C ?_) λ h2 a3=>hQ h2 s.toks λ b o hb e=> a3 b o (λ z=>hb (by rw [z];simp)) e;have e1:(l.map eo).toArray[l.length]? = none:=by simp
  rw [U,e1];exact q
 .rintro i s Q E ⟨slot,J,C,U⟩ hQ;exact pH J hQ
 .rcases wW.mp hb with e | hb
  .rw [e];exact ⟨wR hI,.inr ht⟩
  .rw [jP.mp hb];obtain ⟨o,ho,_⟩:=x.obj;exact ⟨wR ho,.inl rfl⟩
theorem qv {h':Heap} {top T:Addr} {ys:List Nat} (hp:ys.Perm (List.range l.length)) (hIS:I ≠ S) (hIT:I ≠ T) (ht:top ≤ I) (htT:top ≤ T) (hI:tB h' I S (.ref T) 0 l.length ep) (x:b8 w h' S l ep t)
  (hT:h'.get? T=some { cls:=.type "tuple",data:=.seq (ys.map fun (i:Nat)=>rawInt i).toArray }):p9 prog w I S l h' top:= by
 have hyl:ys.length=l.length:=by rw [hp.length_eq,QJ]
 have hin:∀y ∈ ys,y < l.length:=fun y hy=>wL.mp (hp.mem_iff.mp hy)
 have hpo:(ys.filterMap fun i=>l[i]?).Perm l:=(hp.filterMap _).trans (by rw [List.filterMap_getElem?_range_length])
 have eg:∀i (h:i < ys.length),(ys.filterMap fun i=>l[i]?)[i]? = l[ys[i]]?:= by
  have gen:∀(zs:List Nat),(∀y ∈ zs,y < l.length)->∀i (h:i < zs.length),(zs.filterMap fun i=>l[i]?)[i]? = l[zs[i]]?:= by
   intro zs
   induction zs with
   | nil=>intro _ i h;exact absurd h (YU _)
   | cons z zs ih=>
    intro hz i h
    have hzl:z < l.length:=hz z uT
    have e1:l[z]? = some l[z]:=kW hzl
    rw [List.filterMap_cons_some e1]
    cases i with
    | zero=>simp [e1]
    | succ i=>simpa using ih (fun y hy=>hz y (uN _ hy)) i (by simpa using h)
  grind
 refine ⟨ys.filterMap fun i=>l[i]?,[I,S,T],fun i h=>tB h I S (.ref T) i l.length ep/\b8 w h S l ep t/\h.get? T=some { cls:=.type "tuple",data:=.seq (ys.map fun (i:Nat)=>rawInt i).toArray },hpo,fun A hh=>⟨?_,?_,?_,?_,?_⟩,⟨hI,x,hT⟩,fun i h st=>⟨_,st.1,rfl⟩,by simp,fun b hb=>?_⟩
 .intro b hb
  rw [jP.mp hb];simp
 .rintro i h h2 ⟨st1,st2,st3⟩ k
  exact ⟨k I (by simp) _ st1,st2.at fun o e=>k S (by simp) o e,k T (by simp) _ st3⟩
 .rintro i s Q E hi ⟨st1,st2,st3⟩ hQ
  have hi':i < ys.length:=by omega
  have hyi:ys[i] < l.length:=hin _ (QT hi')
  have hx:l[ys[i]]? = some l[ys[i]]:=kW hyi
  refine FQ hIS hIT st1 st2 st3 (p:=ys[i]) (by simp [hi',rawInt]) hx fun h2 a1 a2 a3=>hQ _ h2 s.toks ⟨_,(eg i hi').trans hx,rfl⟩ ⟨a1,a2,a3 T _ (fun z=>hIT z.symm) st3⟩ fun b o hb e=>a3 b o (fun z=>hb (by rw [z];simp)) e
 .rintro s Q E ⟨st1,st2,st3⟩ hQ
  exact qY hh st1 st2 st3 (by simp [hyl]) fun h2 a3=>hQ h2 s.toks fun b o hb e=>a3 b o (fun z=>hb (by rw [z];simp)) e
 .rintro i s Q E ⟨st1,st2,st3⟩ hQ
  exact pH st1 hQ
 .rcases wW.mp hb with e | hb
  .rw [e];exact ⟨wR hI,.inr ht⟩
  .rcases wW.mp hb with e | hb
   .rw [e]
    obtain ⟨o,ho,_⟩:=x.obj
    exact ⟨wR ho,.inl rfl⟩
   .rw [jP.mp hb]
    exact ⟨wR hT,.inr htT⟩
theorem yg(x:b8 w s.heap S l ep t)
  (h:∀(I:Addr)(h':Heap)(d:Drawn),(∀b o,s.heap.get? b=some o->h'.get? b=some o)->s.heap.objs.size<=I->p9 prog w I S l h' s.heap.objs.size->Q (.ref I) { s with heap:=h',drawn:=d }):
  wpAny (model prog w) A (pyIter (.ref S)) Q E s:=by
 have U:S<s.heap.objs.size:=by obtain⟨o,ho,_⟩:=x.obj;exact wR ho
 refine wpAny_pyIter_slot x.ty F.slot_set_iter (Q5 F.slot_set_iter x.ty su ?_ (F.args_set_iter_1 _));refine zN (m:=Builtin.Frozenset.slot0 "__iter__" ⟨[.ref S],[]⟩) (kT ?_);refine zN ?_;refine zN (zN (x.state (kT (kT ?_))));have ez:(l.map eo).toArray.size=l.length:=by simp
 rw[ez];refine zN (yO x ?_);by_cases hb:(!w.params.followText "set-order"&&(!t.plain&&decide (l.length>1)))=true
 .rw[gA hb];refine zN (tR l.length (List.range l.length) s (by simp) λ ys d py=>?_);have aa:ys.length=l.length:=by rw[py.length_eq,QJ]
  refine zN (WY ?_ (by rw[uL,aa];exact fits_of_scanBound x.few));have C:b8 w (s.heap.push { cls:= .type "tuple",data:= .seq (ys.map λ(i:Nat)=>rawInt i).toArray }) S l ep t:=x.at λ o e=>zS _ e;refine zN ?_;refine zN (b8.state (s:={ s with drawn:=d,heap:=s.heap.push { cls:= .type "tuple",data:= .seq (ys.map λ(i:Nat)=>rawInt i).toArray } }) C (kT ?_));refine zN (QZ (kT ⟨_,rfl,"set_iterator",_,⟨_,wF _ rfl,rfl⟩,eO.lookup,?_⟩));refine h _ _ d (λ b o e=>zS _ (zS _ e)) (by rw[QO];exact Nat.le_succ _) ?_;refine qv (t:=t) py (λ z=>?_) (λ z=>?_) ?_ (wN _) (wF _ rfl) (C.at λ o e=>zS _ e) (zS _ (wF _ rfl));. rw[<- z]at U;have J:(s.heap.push { cls:= .type "tuple",data:= .seq (ys.map λ(i:Nat)=>rawInt i).toArray }).objs.size<s.heap.objs.size:=U;rw[QO]at J;exact absurd J (Y4.mpr (Nat.le_succ _))
  .have z':(s.heap.push { cls:= .type "tuple",data:= .seq (ys.map λ(i:Nat)=>rawInt i).toArray }).objs.size=s.heap.objs.size:=z;rw[QO]at z';exact Nat.succ_ne_self _ z'
  simp
 .rw[gL hb];refine zN (kT ?_);refine zN ?_;refine zN (x.state (kT ?_));refine zN (QZ (kT ⟨_,rfl,"set_iterator",_,⟨_,wF _ rfl,rfl⟩,eO.lookup,?_⟩));refine h _ _ s.drawn (λ b o e=>zS _ e) (wN _) ?_;have C:b8 w (s.heap.push { cls:= .type "set_iterator",data:= .fields [rawInt 0,rawInt 0,.ref S,rawInt l.length,rawInt ep].toArray }) S l ep t:=x.at λ o e=>zS _ e;cases hw:w.params.followText "set-order" with
  |true=>exact qz hw (λ z=>QX _ (z▸U)) (wN _) (wF _ rfl) C
  |false=>rw[hw]at hb;exact oZ hw (by simpa using hb) (λ z=>QX _ (z▸U)) (wN _) (wF _ rfl) C
end
section
variable {prog:Program} {w:World} {A:Around} {E:Value->Shared->Prop} {s:Shared} {I S:Addr} {l:List (Int × Tok)} {ep:Nat} {t:SetTable}
theorem Bj(x:b8 w s.heap S l ep t)(h:Q false s):wpAny (model prog w) A (Builtin.List.listLengthHint (.ref S)) Q E s:=by refine zN (wpAny_specialOf x.ty F.slot_set_len.lookup ?_);generalize Fw:("set.__len__":String)=o;wp_delta;subst Fw;refine zN (YM (T:="set") (b:=true) x.ty (by kernel_rfl) ?_);exact zN (WZ x.ty (kT h))
theorem GU{ord:List (Int×Tok)}{acc:Array Value}(h:ItemsOf (λ i v=>∃p,ord[i]?=some p/\v= .int p.1 p.2) acc ord.length):acc.toList=ord.map λ p=>Value.int p.1 p.2:=by
 refine YZ λ i=>?_;rw[QS];by_cases o:i<acc.size
 .have e:acc[i]?=some acc[i]:=by simp
  obtain⟨p,C,J⟩:=h.2 i _ e;simp_all
 .rw[QW,YR (by omega),YW (by have:=h.1;omega)];rfl
theorem pB{Q:List Value->Shared->Prop}(hh:A.handled=none)(x:b8 w s.heap S l ep t)
  (h:∀(ord:List (Int×Tok))(h':Heap)(tk:Nat)(d:Drawn),ord.Perm l->(∀b o,s.heap.get? b=some o->h'.get? b=some o)->Q (ord.map λ p=>Value.int p.1 p.2) { s with heap:=h',toks:=tk,drawn:=d }):
  wpAny (model prog w) A (collect (.ref S)) Q E s:=by
 have C:S<s.heap.objs.size:=by obtain⟨o,ho,_⟩:=x.obj;exact wR ho
 refine zN (wpAny_runValue (Z9 W9 ?_));refine zN (QZ (kT ⟨WD Y0 _,Z9 F.entry_list_iadd ?_⟩));rw[VT Y0 _];have g1:(s.heap.push { cls:= .type "list",data:= .seq ([]:List Value).toArray }).get? s.heap.objs.size=some { cls:= .type "list",data:= .seq ([]:List Value).toArray }:=wF _ rfl;have x1:b8 w (s.heap.push { cls:= .type "list",data:= .seq ([]:List Value).toArray }) S l ep t:=x.at λ o e=>zS _ e;have af:Builtin.List.listSameRef (.ref s.heap.objs.size) (.ref S)=false:=by show(s.heap.objs.size==S)=false;simp only[YJ];exact VI C
 show wpAny (model prog w) A.in1 (Builtin.List.listExtendWith (.ref s.heap.objs.size) (.ref S) (.ref s.heap.objs.size)) _ _ _;refine zN (WZ (b8.ty (s:={ s with heap:=s.heap.push { cls:= .type "list",data:= .seq ([]:List Value).toArray } }) x1) ?_);have h2:(Value.type "set"==Value.type "list")=false:=by decide
 have h3:(Value.type "set"==Value.type "tuple")=false:=by decide
 simp[af];refine zN (yg (s:={ s with heap:=s.heap.push { cls:= .type "list",data:= .seq ([]:List Value).toArray } }) x1 λ I U d kp hI Y=>?_);have x2:b8 w U S l ep t:=x1.at λ o e=>kp S o e;refine zN (Q1 (Bj (s:={ s with heap:=U,drawn:=d }) x2 ?_));refine zN (V5 (zN ?_));have g2:=kp _ _ g1;refine zN (wpAny_updateSeq (s:={ s with heap:=U,drawn:=d }) g2 rfl ?_)
 have g3:=ZJ (Obj.mapSeq (·.push Value.none)) g2 rfl
 refine wpAny_updateSeq (s:={ s with heap:=U.update s.heap.objs.size (Obj.mapSeq (·.push Value.none)),drawn:=d }) g3 rfl ?_ (hz:=by seq_fits)
 have g4:=ZJ (Obj.mapSeq (·.pop)) g3 rfl
 obtain⟨ord,fp,St,po,W,ag,hT,ao,ah⟩:=Y
 have ab:s.heap.objs.size∉fp:= λ hm=>by
  obtain⟨_,h6⟩:=ah _ hm
  rcases h6 with e|e
  .rw[e]at C;exact QX _ C
  .have e':(s.heap.push { cls:= .type "list",data:= .seq ([]:List Value).toArray }).objs.size<=s.heap.objs.size:=e
   rw[QO]at e'
   exact Nat.not_succ_le_self _ e'
 have oth:∀b o,b≠s.heap.objs.size->U.get? b=some o->((U.update s.heap.objs.size (Obj.mapSeq (·.push Value.none))).update s.heap.objs.size (Obj.mapSeq (·.pop))).get? b=some o:= λ b o hb e=>by
  rw[VL _ _ (Ne.symm hb),VL _ _ (Ne.symm hb)];exact e
 have hlen:ord.length=l.length:=po.length_eq
 have ai:St 0 ((U.update s.heap.objs.size (Obj.mapSeq (·.push Value.none))).update s.heap.objs.size (Obj.mapSeq (·.pop))):=(W A.in1 hh).frame 0 U _ ag λ b hb o e=>oth b o (λ z=>ab (z▸hb)) e
 refine kT ⟨WD F.plain_extend_loop _,codeAny_extend_loopS (W A.in1 hh).toS (fits_of_scanBound x.few) _ ab _ l.length 0 { s with heap:=(U.update s.heap.objs.size (Obj.mapSeq (·.push Value.none))).update s.heap.objs.size (Obj.mapSeq (·.pop)),drawn:=d } #[] _ rfl (ZG _) ai g4 (ItemsOf.nil _) fun s' ak c' hm aj aa=>?_⟩
 refine zN (wpAny_load aj (kT ?_))
 rw[<-hlen]at aa
 rw[GU aa,Moved.eq_with hm]
 refine h ord s'.heap s'.toks d po fun b o e=>?_
 have hb:=wR e
 refine hm.heap b o (fun J=>?_) (oth b o (fR hb) (kp b o (zS _ e)))
 rcases wW.mp J with e'|J
 .rw[e']at hb;exact QX _ hb
 .have e':=jP.mp J
  have ae:(s.heap.push { cls:= .type "list",data:= .seq ([]:List Value).toArray }).objs.size≤I:=hI
  rw[QO]at ae
  exact absurd hb (Y4.mpr (VM (e'▸ae)))
theorem j6{ns:List Int}{Q:Value->Shared->Prop}
  (hc:∀(U:Around)(Q':List Value->Shared->Prop)(E':Value->Shared->Prop),(U.handled=A.handled)->(∀(vs:List Value)(ms:List Int)(h':Heap)(tk:Nat)(d:Drawn),PyProof.Rows.IntsAre vs ms->ms.Perm ns->(∀b o,s.heap.get? b=some o->h'.get? b=some o)->Q' vs { s with heap:=h',toks:=tk,drawn:=d })->
   wpAny (model prog w) U (collect v) Q' E' s)(aa:ns.length<64)
  (h:∀(C h':Heap)(tk:Nat)(d:Drawn)(out:List Value)(ms:List Int)(e:Nat),(∀b o,s.heap.get? b=some o->C.get? b=some o)->(∀b o,C.get? b=some o->h'.get? b=some o)->h'.get? C.objs.size=some { cls:= .type "list",data:= .seq out.toArray e }->
   PyProof.Rows.IntsAre out ms->ms.Perm ns->ms.Pairwise (. <= .)->Q (.ref C.objs.size) { s with heap:=h',toks:=tk,drawn:=d }):
  wpAny (model prog w) A (call (.builtin "sorted") [v]) Q E s:=by
 refine Calls.call_function_entry PyProof.Rows.kind_sorted PyProof.Rows.plain_sorted PyProof.Rows.entry_sorted (PyProof.Rows.args_sorted1 _) ?_;refine zN (m:=checkCount "sorted" 1 1 _) (kT ?_);refine zN (hc _ _ _ (by simp) λ vs ms C tk d hi pm kp=>?_);have hl:vs.length=ns.length:=by rw[hi.length,pm.length_eq]
 refine zN (XE ?_ (by rw[ZW];omega));have g1:(C.push (PyProof.Rows.seqObj "list" vs.toArray 0)).get? C.objs.size=some (PyProof.Rows.seqObj "list" vs.toArray 0):=wF _ rfl;refine zN (Q1 (Q5 PyProof.Rows.slot_list_sort ⟨_,g1,rfl⟩ PyProof.Rows.entry_list_sort (PyProof.Rows.list_sort_tree (s:={ s with heap:=C.push (PyProof.Rows.seqObj "list" vs.toArray 0),toks:=tk,drawn:=d }) g1 hi (by omega) λ out J a1 a2 a3=>⟨_,rfl,?_⟩) (PyProof.Rows.args_list_sort _)));obtain⟨e,he⟩:=PyProof.Rows.sortedHeap_at (out:=out) g1;refine kT ⟨_,rfl,h C _ tk d out.toList J e kp (λ b o eb=>?_) (by omega) a1 (a2.trans pm) a3⟩;have hb:=wR eb;rw[PyProof.Rows.sortedHeap_old (fR hb) (by rw[QO];grind)];exact zS _ eb
end
noncomputable def kJ(b:Bool)(h:Heap)(q:Addr)(xs:Array Value):Prop:=match b with
 |true=>h.IsTuple q xs
 |false=>h.IsList q xs
noncomputable def mM(b:Bool)(h:Heap)(it q:Addr)(k:Nat):Prop:=match b with
 |true=>h.IsTupleIter it q k
 |false=>h.IsListIter it q k
noncomputable def eC(b:Bool)(q:Addr):Obj:={ cls:= .type (if b then"tuple_iterator" else"list_iterator"),data:= .fields #[.ref q,.int 0 0] }
section
variable {prog:Program} {w:World} {A:Around} {E:Value->Shared->Prop} {s:Shared} {b:Bool} {it q:Addr} {k:Nat} {xs:Array Value}
theorem kJ.at(x:kJ b h q xs)(e:∀o,h.get? q=some o->h'.get? q=some o):kJ b h' q xs:=by cases b with
 |true=>obtain⟨o,C,r⟩:=x;exact⟨o,e o C,r⟩
 |false=>obtain⟨o,C,r⟩:=x;exact⟨o,e o C,r⟩
theorem mM.at(x:mM b h it q k)(e:∀o,h.get? it=some o->h'.get? it=some o):mM b h' it q k:=by cases b with
 |true=>obtain⟨o,C,r⟩:=x;exact⟨o,e o C,r⟩
 |false=>obtain⟨o,C,r⟩:=x;exact⟨o,e o C,r⟩
theorem mM.lt(x:mM b h it q k):it<h.objs.size:=by cases b with
 |true=>obtain⟨o,C,r⟩:=x;exact wR C
 |false=>obtain⟨o,C,r⟩:=x;exact wR C
theorem kJ.lt(x:kJ b h q xs):q<h.objs.size:=by cases b with
 |true=>obtain⟨o,C,r⟩:=x;exact wR C
 |false=>obtain⟨o,C,r⟩:=x;exact wR C
theorem jm(x:kJ b s.heap q xs)(h:Q (.ref s.heap.objs.size) { s with heap:=s.heap.push (eC b q) }):wpAny (model prog w) A (pyIter (.ref q)) Q E s:=by cases b with
 |true=>exact YQ x h
 |false=>exact VY x h
theorem mM.new{h:Heap}:mM b (h.push (eC b q)) h.objs.size q 0:=by cases b with
 |true=>exact⟨_,wF _ rfl,rfl,rfl⟩
 |false=>exact⟨_,wF _ rfl,rfl,rfl⟩
theorem kI(U:mM b s.heap it q k)(hq:kJ b s.heap q xs)(hx:xs[k]?=some x)(h:∀h',mM b h' it q (k+1)->Heap.SameBut it s.heap h'->Q x { s with heap:=h' }):
  wpAny (model prog w) A (Builtin.SmallTypes.nextOf (.ref it)) Q E s:=by cases b with
 |false=>exact wpAny_nextOf_list_item U hq hx h
 |true=>obtain⟨o,C,hc,hd⟩:=id U;obtain⟨oq,I,_,n,J⟩:=hq;have hT:s.TypeIs (.ref it) "tuple_iterator":=⟨o,C,hc⟩;refine zN (Q6 (name:=Str.ofString "__next__") hT V8 (Q5 V8 hT F.entry_tuple_iterator_next (?_:wpAny _ _ (field (.ref it) 0 >>= _) _ _ s) (F.args_tuple_iterator_next_1 _)));refine zN (ZK C hd (x:= .ref q) rfl (?_:wpAny _ _ (if(Value.ref q==Value.none)=true then _ else _) _ _ s));refine zN (ZK C hd (x:= .int k 0) rfl (?_:wpAny _ _ (seqItems? (.ref q) >>= _) _ _ s));refine zN (VJ I J ?_);simp[hx];refine zN (wpAny_setField C hd (by simp) (kT ⟨x,rfl,kT (h _ ⟨_,ZJ _ C (Obj.isFreed_of_fields (WQ hd _)),(Obj.cls_mapFields ..).trans hc,?_⟩ (Q4 ..))⟩));rw[WQ hd];rfl
theorem uQ(hh:A.handled=none)(hi:mM b s.heap it q k)(hq:kJ b s.heap q xs)(hx:xs[k]?=none)
  (h:∀h' e,(∀c o,c≠it->s.heap.get? c=some o->h'.get? c=some o)->(∃o,h'.get? e=some o/\o.cls= .type "StopIteration")->E (.ref e) { s with heap:=h' }):
  wpAny (model prog w) A (Builtin.SmallTypes.nextOf (.ref it)) Q E s:=by cases b with
 |false=>exact wpAny_nextOf_list_end hh hi hq hx h
 |true=>obtain⟨o,C,I,hd⟩:=id hi;obtain⟨oq,J,_,n,U⟩:=hq;have hT:s.TypeIs (.ref it) "tuple_iterator":=⟨o,C,I⟩;refine zN (Q6 (name:=Str.ofString "__next__") hT V8 (Q5 V8 hT F.entry_tuple_iterator_next (?_:wpAny _ _ (field (.ref it) 0 >>= _) _ _ s) (F.args_tuple_iterator_next_1 _)));refine zN (ZK C hd (x:= .ref q) rfl (?_:wpAny _ _ (if(Value.ref q==Value.none)=true then _ else _) _ _ s));refine zN (ZK C hd (x:= .int k 0) rfl (?_:wpAny _ _ (seqItems? (.ref q) >>= _) _ _ s));refine zN (VJ J U ?_);simp[hx];refine zN (V5 (zN (wpAny_setField C hd (by simp) (?_:wpAny _ _ (newExc (.type "StopIteration") [] >>= _) _ _ _))));refine l9 (s:={ s with heap:=s.heap.update it _ }) (by omega) λ h' e kp he=>h h' e (λ c o I e'=>kp c o ?_) he;exact(VL _ _ (Ne.symm I)).trans e'
structure Lq (z TI TO i1 i2 l1 l2:Addr):Prop where
 ni:[z,TI,TO,i1,i2].Nodup
 n1:l1 ∉ [z,TO,i1,i2]
 n2:l2 ∉ [z,TO,i1,i2]
noncomputable abbrev Ou(b1 o:Bool)(z TI TO C I J U:Addr)(xs ys:Array Value)(k:Nat)(f:Value)(h:Heap):Prop:=
 IsZip h z TI TO f/\IsPair h TI (.ref C) (.ref I)/\(∃a c,IsPair h TO a c)/\mM b1 h C J k/\mM o h I U k/\kJ b1 h J xs/\kJ o h U ys
variable {b1 b2:Bool} {z TI TO i1 i2 l1 l2:Addr} {ys:Array Value}
theorem Lq.ne(D:Lq z TI TO i1 i2 l1 l2):TI≠z/\TO≠z/\i1≠z/\i2≠z/\TI≠TO/\TI≠i1/\TI≠i2/\TO≠i1/\TO≠i2/\i1≠i2/\l1≠z/\l1≠TO/\l1≠i1/\l1≠i2/\l2≠z/\l2≠TO/\l2≠i1/\l2≠i2:=by obtain⟨h,o,C⟩:=D;grind
theorem k6{j:Nat}{Q:Unit->Shared->Prop}(o:IsPair s.heap T a c)(h:∀h',h'.get? T=some { cls:= .type "tuple",data:= .seq ((#[a,c]:Array Value).setIfInBounds j v) }->Heap.SameBut T s.heap h'->Q () { s with heap:=h' }):
  wpAny (model prog w) A (updateSeq T (·.setIfInBounds j v)) Q E s:=wpAny_updateSeq_pair o h
theorem BL(D:Lq z TI TO i1 i2 l1 l2)(st:Ou b1 b2 z TI TO i1 i2 l1 l2 xs ys k .none s.heap)(hx:xs[k]?=some v1)(hy:ys[k]?=some v2)
  (hQ:∀h',Ou b1 b2 z TI TO i1 i2 l1 l2 xs ys (k+1) (rawInt s.heap.objs.size) h'->IsPair h' s.heap.objs.size v1 v2->(∀c o,c∉[z,TO,i1,i2]->s.heap.get? c=some o->h'.get? c=some o)->Q (some (.ref s.heap.objs.size)) { s with heap:=h' }):
  wpAny (model prog w) A (pyNext (.ref z)) Q E s:=by
 obtain⟨n1,n2,n3,n4,n5,n6,n7,n8,n9,U,m1,m2,m3,m4,m5,m6,m7,m8⟩:=D.ne;obtain⟨hz,aa,⟨a,c,ab⟩,q1,q2,p1,p2⟩:=st;have hT:s.TypeIs (.ref z) "zip":=⟨_,hz,rfl⟩;unfold pyNext;refine zN (YE (Q6 (name:=Str.ofString "__next__") hT XI (Q5 XI hT F.entry_zip_next (?_:wpAny _ _ (field (.ref z) 2 >>= _) _ _ _) (F.args_zip_next_1 _))));refine zN (ZK hz rfl (x:= .bool false) rfl (?_:wpAny _ _ (field (.ref z) 3 >>= _) _ _ _));refine zN (ZK hz rfl (x:= .ref TI) rfl (zN (VJ aa rfl (?_:wpAny _ _ (Builtin.SmallTypes.ownedTupleIsFree (.ref z) >>= _) _ _ _))));refine zN ?_;unfold Builtin.SmallTypes.ownedTupleIsFree;refine zN (ZK hz rfl (x:= .none) rfl (kT ?_));simp only[W0];refine zN (V5 (zN (ZK hz rfl (x:= .ref TO) rfl ?_)));refine zN (QV hz (by simp) λ h1 z1 s1=>?_);replace z1:IsZip h1 z TI TO .ellipsis:=z1;refine zN ?_;simp only[List.zipIdx_cons,List.zipIdx_nil,List.forIn_cons,List.forIn_nil];refine zN (zN (wpAny_onRaise (?_:wpAny _ _ (Builtin.SmallTypes.nextOf (.ref i1) >>= _) _ _ _)));refine zN (kI (s:={ s with heap:=h1 }) (q1.at λ o e=>s1.extBut _ _ n3 e) (p1.at λ o e=>s1.extBut _ _ m1 e) hx λ h2 ae s2=>kT ?_);have t2:IsPair h2 TO a c:=s2.extBut _ _ n8 (s1.extBut _ _ n2 ab);refine zN (VJ (s:={ s with heap:=h2 }) t2 rfl (zN (k6 (s:={ s with heap:=h2 }) t2 λ h3 t3 s3=>?_)));replace t3:IsPair h3 TO v1 c:=t3;refine zN (wpAny_letGo (kT ?_));refine zN (zN (wpAny_onRaise (?_:wpAny _ _ (Builtin.SmallTypes.nextOf (.ref i2) >>= _) _ _ _)));refine zN (kI (s:={ s with heap:=h3 }) (q2.at λ o e=>s3.extBut _ _ n9.symm (s2.extBut _ _ U.symm (s1.extBut _ _ n4 e))) (p2.at λ o e=>s3.extBut _ _ m6 (s2.extBut _ _ m7 (s1.extBut _ _ m5 e))) hy λ h4 af s4=>kT ?_);have t4:IsPair h4 TO v1 c:=s4.extBut _ _ n9 t3;refine zN (VJ (s:={ s with heap:=h4 }) t4 rfl (zN (k6 (s:={ s with heap:=h4 }) t4 λ C t5 s5=>?_)));replace t5:IsPair C TO v1 v2:=t5;refine zN (wpAny_letGo (kT (kT ?_)));refine zN (VJ (s:={ s with heap:=C }) t5 rfl (zN (WY ?_)));have hsz:C.objs.size=s.heap.objs.size:=by rw[s5.1,s4.1,s3.1,s2.1,s1.1]
 have I:∀c o,c∉[z,TO,i1,i2]->s.heap.get? c=some o->C.get? c=some o:= λ c o hc e=>by simp only[wW,ZC,YD,not_or]at hc;obtain⟨c1,c2,c3,c4⟩:=hc;exact s5.extBut _ _ c2 (s4.extBut _ _ c4 (s3.extBut _ _ c2 (s2.extBut _ _ c3 (s1.extBut _ _ c1 e))))
 have z5:IsZip C z TI TO .ellipsis:=s5.extBut _ _ n2.symm (s4.extBut _ _ n4.symm (s3.extBut _ _ n2.symm (s2.extBut _ _ n3.symm z1)));refine(?_:wpAny _ _ (Builtin.SmallTypes.ownedTupleHandOut (.ref z) (.ref C.objs.size) >>= _) _ _ _);refine zN ?_;unfold Builtin.SmallTypes.ownedTupleHandOut;have z6:IsZip (C.push { cls:= .type "tuple",data:= .seq #[v1,v2] }) z TI TO .ellipsis:=zS _ z5;refine zN (QV (s:={ s with heap:=C.push { cls:= .type "tuple",data:= .seq #[v1,v2] } }) z6 (by simp) λ h7 z7 s7=>?_);replace z7:IsZip h7 z TI TO (rawInt C.objs.size):=z7;refine QV (s:={ s with heap:=h7 }) z7 (by simp) λ h8 z8 s8=>?_;replace z8:IsZip h8 z TI TO (rawInt C.objs.size):=z8;have up:∀c o,c ≠ z->C.get? c=some o->h8.get? c=some o:=λ c o c1 e=>s8.extBut _ _ c1 (s7.extBut _ _ c1 (zS _ e));have zl:z ≠ C.objs.size:=fR (wR z5);have J:IsPair h8 C.objs.size v1 v2:=s8.extBut _ _ zl.symm (s7.extBut _ _ zl.symm (wF _ rfl));rw [hsz] at z8 J;refine kT ⟨_,rfl,(?_:wpAny _ _ (pure (some (Value.ref C.objs.size))) _ _ _)⟩;rw [hsz];refine kT (hQ h8 ⟨z8,up _ _ n1 (I TI _ (by simp [n1,n5,n6,n7]) aa),⟨_,_,up _ _ n2 t5⟩,ae.at λ o e=>up _ _ n3 (s5.extBut _ _ n8.symm (s4.extBut _ _ U (s3.extBut _ _ n8.symm e))),af.at λ o e=>up _ _ n4 (s5.extBut _ _ n9.symm e),
  p1.at λ o e=>up _ _ m1 (I l1 _ D.n1 e),p2.at λ o e=>up _ _ m5 (I l2 _ D.n2 e)⟩ J λ c o hc e=>up c o (λ z'=>hc (by rw [z'];simp)) (I c o hc e))
theorem Gk(hh:A.handled=none)(D:Lq z TI TO i1 i2 l1 l2)(st:Ou b1 b2 z TI TO i1 i2 l1 l2 xs ys k .none s.heap)(hx:xs[k]?=none\/ys[k]?=none)
  (hQ:∀h',(∀c o,c∉[z,TO,i1,i2]->s.heap.get? c=some o->h'.get? c=some o)->Q none { s with heap:=h' }):wpAny (model prog w) A (pyNext (.ref z)) Q E s:=by
 obtain⟨n1,n2,n3,n4,n5,n6,n7,n8,n9,ab,m1,m2,m3,m4,m5,m6,m7,m8⟩:=D.ne;obtain⟨hz,ae,⟨a,c,af⟩,q1,q2,p1,p2⟩:=st;have hT:s.TypeIs (.ref z) "zip":=⟨_,hz,rfl⟩;have fin:∀(h:Heap)(e:Addr),IsZip h z TI TO .ellipsis->(∀c o,c∉[z,TO,i1,i2]->s.heap.get? c=some o->h.get? c=some o)->(∃o,h.get? e=some o/\o.cls= .type "StopIteration")->
   wpAny (model prog w) A.in1 (setField (.ref z) 0 .none) (λ _ s'=>wpAny (model prog w) A (do if<- isInstance (Value.ref e) (.type "StopIteration")then pure (none:Option Value)else throw (Value.ref e)) Q E s') (λ _ _=>False) { s with heap:=h }:= λ h e hz kp he=>by
  obtain⟨o,ho,C⟩:=he;refine QV (s:={ s with heap:=h }) hz (by simp) λ h' _ sb=>?_;have ag:e≠z:= λ x=>by subst x;rw[hz]at ho;cases ho;simp at C
  refine zN (YM (T:="StopIteration") (b:=true) ⟨o,sb.extBut _ _ ag ho,C⟩ isSubtype_stop (kT (hQ h' λ c o C e=>sb.extBut _ _ (λ z'=>C (by rw[z'];simp)) (kp c o C e))))
 unfold pyNext;refine zN (YE (Q6 (name:=Str.ofString "__next__") hT XI (Q5 XI hT F.entry_zip_next (?_:wpAny _ _ (field (.ref z) 2 >>= _) _ _ _) (F.args_zip_next_1 _))));refine zN (ZK hz rfl (x:= .bool false) rfl (?_:wpAny _ _ (field (.ref z) 3 >>= _) _ _ _));refine zN (ZK hz rfl (x:= .ref TI) rfl (zN (VJ ae rfl (?_:wpAny _ _ (Builtin.SmallTypes.ownedTupleIsFree (.ref z) >>= _) _ _ _))));refine zN ?_;unfold Builtin.SmallTypes.ownedTupleIsFree;refine zN (ZK hz rfl (x:= .none) rfl (kT ?_));simp only[W0];refine zN (V5 (zN (ZK hz rfl (x:= .ref TO) rfl ?_)));refine zN (QV hz (by simp) λ U z1 s1=> ?_);replace z1:IsZip U z TI TO .ellipsis:=z1;refine zN ?_;simp only [List.zipIdx_cons,List.zipIdx_nil,List.forIn_cons,List.forIn_nil];refine zN (zN (wpAny_onRaise (?_:wpAny _ _ (Builtin.SmallTypes.nextOf (.ref i1) >>= _) _ _ _)));have aa:kJ b1 U l1 xs:=p1.at λ o e=>s1.extBut _ _ m1 e;have I:mM b1 U i1 l1 k:=q1.at λ o e=>s1.extBut _ _ n3 e;cases J:xs[k]? with
 | none =>refine zN (uQ (s:={ s with heap:=U }) (by simpa using hh) I aa J λ h2 e kp he=>?_);refine gO (fin h2 e (kp _ _ n3.symm z1) (λ c o C e'=>?_) he) (λ _ _ q=>q) λ _ _ q=>q.elim;simp only [wW,ZC,YD,not_or] at C;exact kp _ _ C.2.2.1 (s1.extBut _ _ C.1 e')
 | some v1=>
  have hy:ys[k]? = none:= by
   rcases hx with h | h
   .rw [J] at h;cases h
   .exact h
  refine zN (kI (s:={ s with heap:=U }) I aa J λ h2 ah s2=>kT ?_);have t2:IsPair h2 TO a c:=s2.extBut _ _ n8 (s1.extBut _ _ n2 af);refine zN (VJ (s:={ s with heap:=h2 }) t2 rfl (zN (k6 (s:={ s with heap:=h2 }) t2 λ h3 t3 s3=>?_)));refine zN (wpAny_letGo (kT ?_));refine zN (zN (wpAny_onRaise (?_:wpAny _ _ (Builtin.SmallTypes.nextOf (.ref i2) >>= _) _ _ _)));refine zN (uQ (s:={ s with heap:=h3 }) (by simpa using hh) (q2.at λ o e=>s3.extBut _ _ n9.symm (s2.extBut _ _ ab.symm (s1.extBut _ _ n4 e))) (p2.at λ o e=>s3.extBut _ _ m6 (s2.extBut _ _ m7 (s1.extBut _ _ m5 e))) hy λ h4 e kp he=>?_);refine gO (fin h4 e (kp _ _ n4.symm (s3.extBut _ _ n2.symm (s2.extBut _ _ n3.symm z1))) (λ c o C e'=>?_) he) (λ _ _ q=>q) λ _ _ q=>q.elim;simp only [wW,ZC,YD,not_or] at C;exact kp _ _ C.2.2.2 (s3.extBut _ _ C.2.1 (s2.extBut _ _ C.2.2.1 (s1.extBut _ _ C.1 e')))
end
section
variable {prog:Program} {w:World} {A:Around} {E:Value->Shared->Prop} {s:Shared} {b1 b2 b:Bool} {l1 l2 q it e:Addr} {xs ys:Array Value} {k:Nat}
noncomputable def A7(b1 b2:Bool)(h:Heap)(l1 l2:Addr):Heap:=(h.push (eC b1 l1)).push (eC b2 l2)
noncomputable def Lx(b1 b2:Bool)(h:Heap)(l1 l2:Addr):Heap:=((A7 b1 b2 h l1 l2).push { cls:= .type "tuple",data:= .seq #[.ref h.objs.size,.ref (h.push (eC b1 l1)).objs.size] }).push { cls:= .type "tuple",data:= .seq #[.none,.none] }
noncomputable def Iz(b1 b2:Bool)(h:Heap)(l1 l2:Addr):Heap:=(Lx b1 b2 h l1 l2).push { cls:= .type "zip",data:= .fields #[.none,.bool false,.bool false,.ref (A7 b1 b2 h l1 l2).objs.size,.ref ((A7 b1 b2 h l1 l2).push { cls:= .type "tuple",data:= .seq #[.ref h.objs.size,.ref (h.push (eC b1 l1)).objs.size] }).objs.size] }
theorem xP(b1 b2:Bool)(l1 l2:Addr)(xs ys:Array Value):Meets (Builtin.«zip.__new__» ⟨[.type "zip",.ref l1,.ref l2],[]⟩) (λ _ R s=>kJ b1 s.heap l1 xs/\kJ b2 s.heap l2 ys/\R (.ok (.ret (.ref (Lx b1 b2 s.heap l1 l2).objs.size))) { s with heap:=Iz b1 b2 s.heap l1 l2 }):=
 .of_wp λ prog w A R s h=>by obtain⟨C,g,d,tk,os⟩:=s;obtain⟨J,U,h⟩:=h;have I:=sub_zip;have L1:kJ b1 (Shared.heap ⟨C,g,d,tk,os⟩) l1 xs:=J;have L2:kJ b2 (Shared.heap ⟨C.push (eC b1 l1),g,d,tk,os⟩) l2 ys:=U.at λ o e=>zS _ e;wp_walk using jm L1,jm L2;exact⟨_,rfl,h⟩
theorem EC(h1:kJ b1 s.heap l1 xs)(h2:kJ b2 s.heap l2 ys)
  (h:∀h' z TI TO i1 i2,Lq z TI TO i1 i2 l1 l2->Ou b1 b2 z TI TO i1 i2 l1 l2 xs ys 0 .none h'->(∀c o,s.heap.get? c=some o->h'.get? c=some o)->(∀c∈[z,TI,TO,i1,i2],s.heap.objs.size<=c)->Q (.ref z) { s with heap:=h' }):
  wpAny (model prog w) A (call (.type "zip") [.ref l1,.ref l2]) Q E s:=by
 refine callType_new F.called_zip (by decide) (F.typeCall_zip_2 _ _) (F.newCall_zip_2 _ _) (λ obj=>F.args_object_init_3 obj _ _) F.entry_zip_new (xP b1 b2 l1 l2 xs ys) ⟨h1,h2,?_⟩;have a1:(s.heap.push (eC b1 l1)).objs.size=s.heap.objs.size+1:=QO ..;have a2:(A7 b1 b2 s.heap l1 l2).objs.size=s.heap.objs.size+2:=by unfold A7;rw[QO,a1]
 have a3:((A7 b1 b2 s.heap l1 l2).push { cls:= .type "tuple",data:= .seq #[.ref s.heap.objs.size,.ref (s.heap.push (eC b1 l1)).objs.size] }).objs.size=s.heap.objs.size+3:=by rw[QO,a2]
 have a4:(Lx b1 b2 s.heap l1 l2).objs.size=s.heap.objs.size+4:=by unfold Lx;rw[QO,a3]
 have I:∀c o,(Lx b1 b2 s.heap l1 l2).get? c=some o->(Iz b1 b2 s.heap l1 l2).get? c=some o:= λ c o e=>zS _ e;have up2:∀c o,(A7 b1 b2 s.heap l1 l2).get? c=some o->(Iz b1 b2 s.heap l1 l2).get? c=some o:= λ c o e=>I c o (zS _ (zS _ e));have up:∀c o,s.heap.get? c=some o->(Iz b1 b2 s.heap l1 l2).get? c=some o:= λ c o e=>up2 c o (zS _ (zS _ e));have g5:(Iz b1 b2 s.heap l1 l2).get? (Lx b1 b2 s.heap l1 l2).objs.size=some _:=wF _ rfl;have g4:(Iz b1 b2 s.heap l1 l2).get? ((A7 b1 b2 s.heap l1 l2).push { cls:= .type "tuple",data:= .seq #[.ref s.heap.objs.size,.ref (s.heap.push (eC b1 l1)).objs.size] }).objs.size=some _:=I _ _ (wF _ rfl);have g3:(Iz b1 b2 s.heap l1 l2).get? (A7 b1 b2 s.heap l1 l2).objs.size=some _:=I _ _ (zS _ (wF _ rfl));have J:=h1.lt;have U:=h2.lt;refine⟨⟨_,g5,rfl⟩,h (Iz b1 b2 s.heap l1 l2) _ (A7 b1 b2 s.heap l1 l2).objs.size ((A7 b1 b2 s.heap l1 l2).push { cls:= .type "tuple",data:= .seq #[.ref s.heap.objs.size,.ref (s.heap.push (eC b1 l1)).objs.size] }).objs.size s.heap.objs.size (s.heap.push (eC b1 l1)).objs.size ?_
  ⟨g5,g3,⟨_,_,g4⟩,mM.new.at λ o e=>up2 _ _ (zS _ e),mM.new.at λ o e=>up2 _ _ e,h1.at λ o e=>up _ _ e,h2.at λ o e=>up _ _ e⟩ up λ c hc=>?_⟩
 .rw[a3,a4,a2,a1];have e1:∀j:Nat,l1≠s.heap.objs.size+j:= λ j z=>fR (QK J (YN _ j)) z;have e2:∀j:Nat,l2≠s.heap.objs.size+j:= λ j z=>fR (QK U (YN _ j)) z;have ne:∀i j:Nat,i≠j->s.heap.objs.size+i≠s.heap.objs.size+j:= λ i j h z=>h (Nat.add_left_cancel z);have C:∀j:Nat,j≠0->s.heap.objs.size+j≠s.heap.objs.size:= λ j h z=>h (Nat.add_left_cancel (m:=j) (k:=0) z);refine⟨?_,?_,?_⟩;. simp only[Q8,wW,ZC,YD,not_or,WX,and_true,not_false_eq_true];exact⟨⟨ne 4 2 (by decide),ne 4 3 (by decide),C 4 (by decide),ne 4 1 (by decide)⟩,⟨ne 2 3 (by decide),C 2 (by decide),ne 2 1 (by decide)⟩,⟨C 3 (by decide),ne 3 1 (by decide)⟩,(C 1 (by decide)).symm⟩
  .simp only[wW,ZC,YD,not_or];exact⟨e1 4,e1 3,fR J,e1 1⟩
  .simp only[wW,ZC,YD,not_or];exact⟨e2 4,e2 3,fR U,e2 1⟩
 .rw[a3,a4,a2,a1]at hc;simp only[wW,ZC,YD]at hc;rcases hc with e|e|e|e|e
  .rw[e];exact YN _ 4
  .rw[e];exact YN _ 2
  .rw[e];exact YN _ 3
  .rw[e];exact wN _
  .rw[e];exact YN _ 1
theorem ux(b:Bool)(l:Addr)(xs:Array Value):Meets (Builtin.«enumerate.__new__» ⟨[.type "enumerate",.ref l],[]⟩) (λ _ R s=>kJ b s.heap l xs/\R (.ok (.ret (.ref (s.heap.push (eC b l)).objs.size)))
  { s with heap:=(s.heap.push (eC b l)).push { cls:= .type "enumerate",data:= .fields #[.none,.bool false,.ref s.heap.objs.size,rawInt 0,.none,.none] } }):=
 .of_wp λ prog w A R s h=>by
  obtain⟨I,g,d,tk,os⟩:=s;obtain⟨J,h⟩:=h;have C:=sub_enumerate;have o:kJ b (Shared.heap ⟨I,g,d,tk,os⟩) l xs:=J;wp_walk;refine wpAny_stack_any λ st=>kT ?_;split
  .rename_i c _ _ _ _ _;cases(c==Value.type "enumerate")
   .wp_walk using jm o;exact⟨_,rfl,h⟩
   .wp_walk using jm o;exact⟨_,rfl,h⟩
  .wp_walk using jm o;exact⟨_,rfl,h⟩
noncomputable abbrev OJ(b:Bool)(e it l:Addr)(xs:Array Value)(k:Nat)(h:Heap):Prop:=(∃old,IsEnum h e it k old)/\mM b h it l k/\kJ b h l xs
theorem Ag(I:kJ b s.heap q xs)
  (h:∀h' e it,e≠it->q≠e->q≠it->OJ b e it q xs 0 h'->(∀c o,s.heap.get? c=some o->h'.get? c=some o)->s.heap.objs.size<=e->s.heap.objs.size<=it->Q (.ref e) { s with heap:=h' }):
  wpAny (model prog w) A (call (.type "enumerate") [.ref q]) Q E s:=by
 refine callType_new F.called_enumerate (by decide) (F.typeCall_enumerate_1 _) (F.newCall_enumerate_1 _) (λ obj=>F.args_object_init_2 obj _) F.entry_enumerate_new (ux b q xs) ⟨I,?_⟩;have a1:(s.heap.push (eC b q)).objs.size=s.heap.objs.size+1:=QO ..;have C:=I.lt;refine⟨⟨_,wF _ rfl,rfl⟩,h _ _ s.heap.objs.size (λ z=>?_) (λ z=>?_) (fR C) ⟨⟨.none,wF _ rfl⟩,mM.new.at λ o e=>zS _ e,I.at λ o e=>zS _ (zS _ e)⟩ (λ c o e=>zS _ (zS _ e)) ?_ (wN _)⟩;. rw[a1]at z;exact Nat.succ_ne_self _ z
 .rw[a1]at z;exact fR (VH C) z
 simp
theorem x9(aa:e≠it)(ae:q≠e)(af:q≠it)(st:OJ b e it q xs k s.heap)(hx:xs[k]?=some v)
  (hQ:∀h',IsEnumOut h' e it (k+1) v s.heap.objs.size->mM b h' it q (k+1)->kJ b h' q xs->IsPair h' s.heap.objs.size (.int k s.toks) v->(∀c o,c≠e->c≠it->s.heap.get? c=some o->h'.get? c=some o)->Q (some (.ref s.heap.objs.size)) { s with heap:=h',toks:=s.toks+1 }):
  wpAny (model prog w) A (pyNext (.ref e)) Q E s:=by
 obtain⟨⟨old,he⟩,hi,hq⟩:=st;have hT:s.TypeIs (.ref e) "enumerate":=⟨_,he,rfl⟩;have ag:e<s.heap.objs.size:=wR he;refine zN (YE (Q6 (name:=Str.ofString "__next__") hT YX (Q5 YX hT F.entry_enumerate_next (?_:wpAny _ _ (field (.ref e) 2 >>= _) _ _ _) (F.args_enumerate_next_1 _))));obtain⟨hp,g,d,tk,os⟩:=s;refine zN (ZK he rfl (x:= .ref it) rfl (zN (kI hi hq hx λ I ah s1=>?_)));have e1:IsEnum I e it k old:=(s1.2 e aa).trans he;refine zN (ZK (s:=⟨I,g,d,tk,os⟩) e1 rfl (x:=rawInt k) rfl (?_:wpAny _ _ (field (.ref e) 4 >>= _) _ _ ⟨I,g,d,tk,os⟩));refine zN (ZK (s:=⟨I,g,d,tk,os⟩) e1 rfl (x:= .none) rfl (?_:wpAny _ _ (mkInt k >>= _) _ _ ⟨I,g,d,tk,os⟩));refine zN (wpAny_mkInt (?_:wpAny _ _ (setField (.ref e) 3 (rawInt (k+1)) >>= _) _ _ ⟨I,g,d,tk+1,os⟩));refine zN (QV (s:=⟨I,g,d,tk+1,os⟩) e1 (by simp) λ h2 e2 s2=>(?_:wpAny _ _ (setField (.ref e) 4 .none >>= _) _ _ ⟨h2,g,d,tk+1,os⟩));refine zN (QV (s:=⟨h2,g,d,tk+1,os⟩) e2 (by simp) λ U e3 s3=>(?_:wpAny _ _ (newTuple [.int k tk,v] >>= _) _ _ ⟨U,g,d,tk+1,os⟩));refine zN (WY ?_);have hsz:U.objs.size=hp.objs.size:=by rw[s3.1,s2.1,s1.1]
 have e4:IsEnum (U.push { cls:= .type "tuple",data:= .seq #[.int k tk,v] }) e it (k+1) old:=zS _ e3;have t4:IsPair (U.push { cls:= .type "tuple",data:= .seq #[.int k tk,v] }) hp.objs.size (.int k tk) v:=by rw[<- hsz];exact wF _ rfl
 have ab:∀c o,c≠e->I.get? c=some o->(U.push { cls:= .type "tuple",data:= .seq #[.int k tk,v] }).get? c=some o:= λ c o J x=>zS _ (s3.extBut c o J (s2.extBut c o J x));rw[hsz];generalize U.push { cls:= .type "tuple",data:= .seq #[.int k tk,v] }=h4 at e4 t4 ab;refine zN ?_;refine zN (ZK (s:=⟨h4,g,d,tk+1,os⟩) e4 rfl (x:= .none) rfl (kT ?_));refine zN (V5 (zN (ZK (s:=⟨h4,g,d,tk + 1,os⟩) e4 rfl (x:=old) rfl ?_)));refine zN (QV (s:=⟨h4,g,d,tk + 1,os⟩) e4 (by simp) λ h5 e5 s5=>(?_:wpAny _ _ (Builtin.SmallTypes.ownedTupleHandOut (.ref e) (.ref hp.objs.size) >>= _) _ _ ⟨h5,g,d,tk + 1,os⟩));replace e5:IsEnum h5 e it (k + 1) v:=e5;refine zN ?_;refine zN (QV (s:=⟨h5,g,d,tk + 1,os⟩) e5 (by simp) λ h6 e6 s6=>?_);refine QV (s:=⟨h6,g,d,tk + 1,os⟩) e6 (by simp) λ h7 e7 s7=>?_;have up:∀c o,c ≠ e->I.get? c=some o->h7.get? c=some o:=λ c o J x=>s7.extBut c o J (s6.extBut c o J (s5.extBut c o J (ab c o J x)));have C:hp.objs.size ≠ e:=VI ag;exact zN (wpAny_letGo (kT ⟨_,rfl,kT (hQ h7 e7 (ah.at λ o x=>up _ _ aa.symm x) (hq.at λ o x=>up _ _ ae (s1.extBut _ _ af x)) (s7.extBut _ _ C (s6.extBut _ _ C (s5.extBut _ _ C t4))) λ c o c1 c2 x=>up c o c1 (s1.extBut _ _ c2 x))⟩))
theorem B1(hh:A.handled=none)(st:OJ b e it q xs k s.heap)(hx:xs[k]?=none)(J:∀h',(∀c o,c≠it->s.heap.get? c=some o->h'.get? c=some o)->Q none { s with heap:=h' }):wpAny (model prog w) A (pyNext (.ref e)) Q E s:=by obtain⟨⟨old,he⟩,U,hq⟩:=st;have I:s.TypeIs (.ref e) "enumerate":=⟨_,he,rfl⟩;refine zN (YE (Q6 (name:=Str.ofString "__next__") I YX (Q5 YX I F.entry_enumerate_next (?_:wpAny _ _ (field (.ref e) 2 >>= _) _ _ _) (F.args_enumerate_next_1 _))));refine zN (ZK he rfl (x:= .ref it) rfl (zN (uQ (by omega) U hq hx λ h' x kp C=>?_)));obtain⟨o,ho,hc⟩:=C;exact zN (YM (T:="StopIteration") (b:=true) ⟨o,ho,hc⟩ isSubtype_stop (kT (J _ kp)))
end
end Jt
namespace L2
open PySem PySem.Spec PyProof.Rows
noncomputable abbrev Key:=Sum Int Str
noncomputable def nG:Key->Value->Bool
 | .inl k,v=>Value.isInt k v
 | .inr x,v=>Value.isStrOf x v
noncomputable def P9(w:World):Key->Int
 | .inl k=>hashInt k
 | .inr x=>hashStr w x
theorem cf:∀{k:Key}{v:Value},nG k v=true->(∃i t,k=Sum.inl i/\v=Value.int i t)\/(∃x t,k=Sum.inr x/\v=Value.str x t)
 | .inl i,v,h=>by obtain⟨t,e⟩:=VX (k:=i) (v:=v) h;grind
 | .inr x,v,h=>by obtain⟨t,e⟩:=Value.isStrOf_shape (x:=x) (v:=v) h;grind
theorem y3(i:Int)(t:Tok):nG (.inl i) (.int i t)=true:=by simp[nG,Value.isInt]
theorem yE(x:Str)(t:Tok):nG (.inr x) (.str x t)=true:=by simp[nG,Value.isStrOf]
theorem Jv(a b:Int):decide ((Sum.inl a:Key)=Sum.inl b)=(a==b):=by grind
theorem Kq(a b:Str):decide ((Sum.inr a:Key)=Sum.inr b)=decide (a=b):=by simp
theorem JA(a:Int)(b:Str):decide ((Sum.inl a:Key)=Sum.inr b)=false:=QR (λ q=>nomatch q)
theorem KC(a:Str)(b:Int):decide ((Sum.inr a:Key)=Sum.inl b)=false:=QR (λ q=>nomatch q)
noncomputable def cC (prog:Program) (w:World):PySem.KeyKind prog w Key where
 is:=nG
 hash:=P9 w
 inj:=fun v a b ha hb=>by
  rcases cf ha with ⟨i,t,rfl,rfl⟩ | ⟨x,t,rfl,rfl⟩
  .rcases cf hb with ⟨j,u,rfl,e⟩ | ⟨y,u,rfl,e⟩
   .injection e with e1 _;rw [e1]
   .exact nomatch e
  .rcases cf hb with ⟨j,u,rfl,e⟩ | ⟨y,u,rfl,e⟩
   .exact nomatch e
   .injection e with e1 _;rw [e1]
 byValue:=fun k v h=>by
  rcases cf h with ⟨i,t,rfl,rfl⟩ | ⟨x,t,rfl,rfl⟩ <;> rfl
 pyHash:=fun hv h=>by
  rcases cf hv with ⟨i,t,rfl,rfl⟩ | ⟨x,t,rfl,rfl⟩
  .exact wpAny_pyHash_int h
  .exact wpAny_pyHash_str h
 eqBool:=fun hu hv h=>by
  rcases cf hu with ⟨i,t,rfl,rfl⟩ | ⟨x,t,rfl,rfl⟩
  .rcases cf hv with ⟨j,u,rfl,rfl⟩ | ⟨y,u,rfl,rfl⟩
   .rw [Jv] at h;exact wpAny_eqBool_int h
   .rw [JA] at h;exact SeqAt.EqAt.int_str i t y u _ _ _ _ h
  .rcases cf hv with ⟨j,u,rfl,rfl⟩ | ⟨y,u,rfl,rfl⟩
   .rw [KC] at h;exact SeqAt.EqAt.str_int x t j u _ _ _ _ h
   .rw [Kq] at h;exact wpAny_eqBool_str h
 «strs»:=fun k x t v h=>by
  rcases cf h with ⟨i,u,rfl,e⟩ | ⟨y,u,rfl,e⟩
  .exact nomatch e
  .injection e with e1 _
   subst e1
   cases v <;> rfl
theorem rV(prog:Program)(w:World)(i:Int)(t:Tok):(cC prog w).is (.inl i) (.int i t)=true:=y3 i t
theorem qT(prog:Program)(w:World)(x:Str)(t:Tok):(cC prog w).is (.inr x) (.str x t)=true:=yE x t
inductive V where
 | non | bl (b:Bool) | int (i:Int) | str (x:Str) | byt (b:Array UInt8) | flt (b:UInt64) | ref (a:Addr) | ty (n:String)
 deriving DecidableEq
noncomputable def RelV:V->Value->Prop
 | .non,u=>u=Value.none
 | .bl b,u=>u=Value.bool b
 | .int i,u=>∃t,u=Value.int i t
 | .str x,u=>∃t,u=Value.str x t
 | .byt b,u=>∃t,u=Value.bytes b t
 | .flt b,u=>∃t,u=Value.float b t
 | .ref a,u=>u=Value.ref a
 | .ty n,u=>u=Value.type n
noncomputable abbrev Vals:List V->List Value->Prop:=Paired RelV
theorem Vals.length(r:Vals xs us):xs.length=us.length:=XF r
theorem Vals.get:∀{xs:List V}{us:List Value}{i:Nat}{x:V},Vals xs us->xs[i]?=some x->∃u,us[i]?=some u/\RelV x u
 |_,_,_,_,.nil,e=>by grind
 |_,_,0,_,.cons r _,e=>by simp_all
 |_,_,i+1,x,.cons _ t,e=>by obtain⟨u,o,C⟩:=Vals.get (i:=i) (x:=x) t (by simp_all);grind
theorem Vals.set(r:RelV x u):∀{xs:List V}{us:List Value}(i:Nat),Vals xs us->Vals (xs.set i x) (us.set i u)
 |_,_,_,.nil=> .nil
 |_,_,0,.cons _ t=> .cons r t
 |_,_,i+1,.cons q t=> .cons q (Vals.set r i t)
theorem Vals.append:∀{xs ys:List V}{us ws:List Value},Vals xs us->Vals ys ws->Vals (xs++ys) (us++ws)
 |_,_,_,_,.nil,s=>s
 |_,_,_,_,.cons r t,s=> .cons r (Vals.append t s)
theorem Vals.take:∀{xs:List V}{us:List Value}(n:Nat),Vals xs us->Vals (xs.take n) (us.take n)
 |_,_,0,_=> .nil
 |_,_,_+1,.nil=> .nil
 |_,_,n+1,.cons r t=> .cons r (Vals.take n t)
theorem Vals.drop:∀{xs:List V}{us:List Value}(n:Nat),Vals xs us->Vals (xs.drop n) (us.drop n)
 |_,_,0,r=>r
 |_,_,_+1,.nil=> .nil
 |_,_,n+1,.cons _ t=>Vals.drop n t
noncomputable def RelO:Option V->Option Value->Prop
 |some v,some u=>RelV v u
 |none,none=>True
 |_,_=>False
noncomputable def KV{o:Type}:List (o×V)->List (o×Value)->Prop:=Paired λ(p:o×V) (q:o×Value)=>p.1=q.1/\RelV p.2 q.2
noncomputable def kV:Key->V
 | .inl i=> .int i
 | .inr x=> .str x
inductive HO where
  | lst (xs:List V)
  | tup (xs:List V)
  | dK (kvs:List (Key × V)) | dT (kvs:List (List Key × V))
  | set (S:Int->Bool) (n:Nat)
  | ins (C dx:Addr) (fs:List (Str × V))
  | own (x:Addr)
  | xd (fs:List (Str × V))
  | met (f x:Addr)
  | rng (lo hi:Int)
  | frz (o:Obj) (u:HO)
  | tbl (ps:Array Value)
  | ext (φ:Heap->Prop)
noncomputable abbrev Hp:=Addr->Option HO
noncomputable def upd(H:Hp)(a:Addr)(o:HO):Hp:= λ b=>if b=a then some o else H b
theorem bf:upd H a o a=some o:=by unfold upd;simp
theorem a_{a b:Addr}{o:HO}(h:b≠a):upd H a o b=H b:=by unfold upd;grind
theorem Gu:upd (upd H a o) a u=upd H a u:=by unfold upd;grind
theorem MU{H:Hp}{a b:Addr}{o u:HO}(h:H a=some o)(h':H b=some u)(d:o≠u):a≠b:=by grind
theorem bz{H:Hp}{a b:Addr}{o:HO}(h:H a=some o)(h':H b=none):a≠b:=by grind
noncomputable def t8(h:Heap)(a:Addr)(items:Array Value):Prop:=IsTup h a items/\∃o,h.get? a=some o/\o.dict=none
theorem t8.new(h:Heap)(items:Array Value):t8 (h.push { cls:= .type "tuple",data:= .seq items }) h.objs.size items:=⟨IsTup.new _ _,_,wF _ rfl,rfl⟩
section
variable (P:Program) (w:World)
noncomputable def b4(H:Hp)(h:Heap)(a:Addr):HO->Prop
 | .lst xs=>xs.length<=sizeLine/\∃(its:List Value) (n:Nat),Vals xs its/\h.get? a=some { cls:= .type "list",data:= .seq its.toArray n }
 | .tup xs=>xs.length<=sizeLine/\∃its:List Value,Vals xs its/\t8 h a its.toArray
 | .dK kvs=>kvs.length<=sizeLine/\(a==sysModules)=false/\∃vs,KV kvs vs/\h.DictOf (cC P w) a vs
 | .dT kvs=>kvs.length<=sizeLine/\(a==sysModules)=false/\∃xs:List (List Key×Addr×Value),
   Paired (λ(p:List Key×V) (q:List Key×Addr×Value)=>p.1=q.1/\H q.2.1=some (.tup (p.1.map kV))/\RelV p.2 q.2.2) kvs xs/\
   ∃o es ep,h.get? a=some o/\o.ExactDict/\o.data= .dict es ep/\es.toList=xs.map (entryOfKey (tupleKind (cC P w)))/\(xs.map (·.1)).Nodup/\ep=es.size
 | .set S n=>h.SetOf (intKind P w) a S n
 | .ins C J fs=>H J=some (.own a)/\fs.length<=1000/\J≠a/\h.get? a=some (PySem.W.instObj C J)/\
   ∃I,h.Ns1 J I/\(∀f,RelO (fs.lookup f) (I f))/\PySem.Within I (fs.map (·.1))
 | .own _=>∃o,h.get? a=some o
 | .xd fs=>∃I,h.Ns1 a I/\∀f,RelO (fs.lookup f) (I f)
 | .rng lo hi=>∃t u v,h.get? a=some { cls:= .type "range",data:= .fields #[.int lo t,.int hi u,.int 1 v] }
 | .frz o u=>h.get? a=some o/\b4 H h a u
 | .tbl qs=>∃ps:Array Value,h.get? a=some { cls:= .none,data:= .fields ps }/\TriplesOk ps.toList/\∀(q:Str)(t0:Tok)(pos:Pos)(cv:Value),qs[0]?=some (.str q t0)->codeAmong pos ps.toList=some cv->
   ∃c' oc u vs t,cv= .ref c'/\H c'=some (.frz oc u)/\oc.data= .fields vs/\vs[1]?=some (.str q t)
 | .met f x=>h.get? a=some (PySem.W.methodObj (.ref f) (.ref x))
 | .ext U=>U h/\(∃o,h.get? a=some o)/\∀h1 h2:Heap,U h1->(∀o,h1.get? a=some o->h2.get? a=some o)->U h2
noncomputable def iC(H:Hp)(h:Heap):Prop:=∀a o,H a=some o->b4 P w H h a o
end
section
variable {P:Program} {w:World} {H H':Hp} {h h':Heap} {a:Addr} {o:HO}
theorem b4.lt(x:b4 P w H h a o):a<h.objs.size:=by cases o with
 |lst xs=>obtain⟨_,_,_,_,e⟩:=x;exact wR e
 |tup xs=>obtain⟨_,_,_,p⟩:=x;exact p.1.lt
 |dK kvs=>obtain⟨_,_,_,_,o,_,_,e,_⟩:=x;exact wR e
 |dT kvs=>obtain⟨_,_,_,_,o,_,_,e,_⟩:=x;exact wR e
 |set S n=>obtain⟨o,_,_,_,e,_⟩:=x;exact wR e
 |ins C dx fs=>obtain⟨_,_,_,e,_⟩:=x;exact wR e
 |own y=>obtain⟨_,e⟩:=x;exact wR e
 |xd fs=>obtain⟨_,⟨_,_,_,e,_⟩,_⟩:=x;exact wR e
 |rng lo hi=>obtain⟨_,_,_,e⟩:=x;exact wR e
 |frz ob u=>obtain⟨e,_⟩:=x;exact wR e
 |tbl ps=>obtain⟨_,e,_⟩:=x;exact wR e
 |met f y=>exact wR (show h.get? a=some _ from x)
 |ext φ=>obtain⟨_,⟨_,e⟩,_⟩:=x;exact wR e
theorem Paired.mapP:∀{C:List B}{I:List A},Paired F C I->(∀a b,F a b->G a b)->Paired G C I
 |_,_,.nil,_=> .nil
 |_,_,.cons r t,f=> .cons (f _ _ r) (Paired.mapP t f)
theorem b4.stay(x:b4 P w H h a o)(k:∀b u,(b=a\/H b=some (.own a))->h.get? b=some u->h'.get? b=some u)
  (ho:∀b,H b=some (.own a)->H' b=some (.own a))(ht:∀b xs,H b=some (.tup xs)->H' b=some (.tup xs))(hf:∀b o u,H b=some (.frz o u)->H' b=some (.frz o u):=by exact fun _ _ _ h=>h):b4 P w H' h' a o:=by induction o with
 |lst xs=>obtain⟨z,its,n,r,e⟩:=x;exact⟨z,its,n,r,k _ _ (.inl rfl) e⟩
 |tup xs=>obtain⟨z,its,r,⟨I,e,c⟩,U,e2,d⟩:=x;exact⟨z,its,r,⟨I,k _ _ (.inl rfl) e,c⟩,U,k _ _ (.inl rfl) e2,d⟩
 |dK kvs=>obtain⟨z,y,vs,r,I,es,J,e,c⟩:=x;exact⟨z,y,vs,r,I,es,J,k _ _ (.inl rfl) e,c⟩
 |dT kvs=>obtain⟨z,y,xs,r,I,es,J,e,c⟩:=x;exact⟨z,y,xs,Paired.mapP r λ p q z=>⟨z.1,ht _ _ z.2.1,z.2.2⟩,I,es,J,k _ _ (.inl rfl) e,c⟩
 |set S n=>obtain⟨I,es,J,t,e,c⟩:=x;exact⟨I,es,J,t,k _ _ (.inl rfl) e,c⟩
 |ins C dx fs=>obtain⟨d,z,ne,e,mA,⟨od,es,J,e2,c⟩,r⟩:=x;exact⟨ho _ d,z,ne,k _ _ (.inl rfl) e,mA,⟨od,es,J,k _ _ (.inr d) e2,c⟩,r⟩
 |own y=>obtain⟨I,e⟩:=x;exact⟨I,k _ _ (.inl rfl) e⟩
 |xd fs=>obtain⟨mA,⟨od,es,J,e,c⟩,r⟩:=x;exact⟨mA,⟨od,es,J,k _ _ (.inl rfl) e,c⟩,r⟩
 |rng lo hi=>obtain⟨t,u,v,e⟩:=x;exact⟨t,u,v,k _ _ (.inl rfl) e⟩
 |frz I u ih=>obtain⟨e,q⟩:=x;exact⟨k _ _ (.inl rfl) e,ih q⟩
 |tbl ps=>obtain⟨qs,e,tr,c⟩:=x;refine⟨qs,k a _ (.inl rfl) e,tr,λ q t0 pos cv h1 h2=>?_⟩;grind
 |met f y=>have e:h.get? a=some (PySem.W.methodObj (.ref f) (.ref y)):=x;show h'.get? a=some (PySem.W.methodObj (.ref f) (.ref y));grind
 |ext φ=>obtain⟨p,⟨o,e⟩,st⟩:=x;exact⟨st _ _ p λ o q=>k _ _ (.inl rfl) q,⟨o,k _ _ (.inl rfl) e⟩,st⟩
theorem iC.lt(x:iC P w H h)(e:H a=some o):a<h.objs.size:=(x a o e).lt
theorem iC.fresh(x:iC P w H h)(e:h.objs.size<=a):H a=none:=by cases q:H a with
 |none=>rfl
 |some u=>exact absurd (QK (x.lt q) e) (QX _)
theorem iC.kept(x:iC P w H h)(k:∀b u,h.get? b=some u->h'.get? b=some u):iC P w H h':= λ a o e=>
 (x a o e).stay (λ b u _ q=>k b u q) (λ _ q=>q) λ _ _ q=>q
theorem iC.laid(x:iC P w H h)(k:∀b u,h.get? b=some u->h'.get? b=some u)(J:h.objs.size<=a)(new:b4 P w (upd H a o) h' a o):iC P w (upd H a o) h':= λ b u e=>by
 have C:=x.fresh J;by_cases I:b=a;. subst I;rw[bf]at e;simp_all
 .rw[a_ I]at e;exact(x b u e).stay (λ c v _ q=>k c v q) (λ c q=>by rw[a_ (bz q C)];exact q) (λ c xs q=>by rw[a_ (bz q C)];exact q) λ c U u q=>by rw[a_ (bz q C)];exact q
end
noncomputable def Rd(H:Hp)(a:Addr)(u:HO):Prop:=H a=some u\/ ∃o,H a=some (.frz o u)
theorem Rd.ok{H:Hp}{h:Heap}{a:Addr}{u:HO}(r:Rd H a u)(x:iC P w H h):b4 P w H h a u:=by
 rcases r with r|⟨o,r⟩
 .exact x a u r
 .obtain⟨_,q⟩:=x a _ r;exact q
noncomputable def L9:Option HO->Prop
 |some (.lst _)=>True
 |some (.dK _)=>True
 |some (.dT _)=>True
 |some (.set _ _)=>True
 |some (.ins _ _ _)=>True
 |some (.ext _)=>True
 |_=>False
section
variable {P:Program} {w:World} {H:Hp} {h h':Heap} {x e:Addr} {o':HO}
theorem iC.write(ok:iC P w H h)(I:L9 (H x))(he:e=x\/H e=some (.own x))(k:∀b u,b≠e->h.get? b=some u->h'.get? b=some u)(ab:∃u,h'.get? e=some u)
  (new:b4 P w (upd H x o') h' x o'):iC P w (upd H x o') h':= λ b u q=>by
 have J:∀c y,H c=some (.own y)->c≠x:= λ c y r z=>by subst z;rw[r]at I;exact I
 have U:∀c xs,H c=some (.tup xs)->c≠x:= λ c xs r z=>by subst z;rw[r]at I;exact I
 have aa:∀c ob u,H c=some (.frz ob u)->c≠x:= λ c ob u r z=>by subst z;rw[r]at I;exact I
 by_cases hb:b=x;. subst hb;rw[bf]at q;cases q;exact new
 .rw[a_ hb]at q;by_cases C:b=e
  .have q':H b=some (.own x):=by
    rcases he with z|z
    .exact absurd (C.trans z) hb
    .rw[C];exact z
   rw[q]at q';cases q';obtain⟨v,hv⟩:=ab;exact⟨v,by rw[C];exact hv⟩
  .refine(ok b u q).stay (λ c v hc r=>k c v ?_ r) (λ c r=>by rw[a_ (J c b r)];exact r) (λ c xs r=>by rw[a_ (U c xs r)];exact r) λ c ob v r=>by rw[a_ (aa c ob v r)];exact r
   grind
end
structure Un (fs ex:List Addr) (H H':Hp) (h h':Heap):Prop where
 keep:∀b o,h.get? b=some o->H b=none->b ∉ fs->b ∉ ex->h'.get? b=some o
 slot:∀b o,h.get? b=some o->H b=none->b ∈ fs->b ∉ ex->∃sl,h'.get? b=some { o with slots:=sl }
 free:∀b o,h.get? b=some o->H b=none->b ∉ ex->H' b=none
 there:∀b o,h.get? b=some o->b ∉ ex->∃o',h'.get? b=some o'
 tups:∀b xs,H b=some (.tup xs)->H' b=some (.tup xs)
 frzs:∀b o u,H b=some (.frz o u)->H' b=some (.frz o u)
 tbls:∀b ps,H b=some (.tbl ps)->∃more,H' b=some (.tbl (ps ++ more))
section
variable {fs ex:List Addr} {H H1:Hp} {h h1 h':Heap} {a x e:Addr} {o:HO}
theorem Un.any(u:Un fs ex H H1 h h1){b:Addr}{C:Obj}(q:h.get? b=some C)(n:H b=none)(hx:b∉ex):∃sl,h1.get? b=some { C with slots:=sl }:=by
 by_cases I:b∈fs;. exact u.slot b C q n I hx
 .exact⟨C.slots,u.keep b C q n I hx⟩
theorem Un.kept(k:∀b u,h.get? b=some u->h'.get? b=some u):Un fs ex H H h h':=
 ⟨λ b C q _ _ _=>k b C q,λ b C q _ _ _=>⟨C.slots,k b C q⟩,λ _ _ _ n _=>n,λ b C q _=>⟨C,k b C q⟩,λ _ _ q=>q,λ _ _ _ q=>q,λ _ ps q=>⟨#[],by grind⟩⟩
theorem Un.refl:Un fs ex H H h h:=Un.kept λ _ _ q=>q
theorem Un.laid(k:∀b u,h.get? b=some u->h'.get? b=some u)(hp:h.objs.size<=a)(C:H a=none):Un fs ex H (upd H a o) h h' where
 keep:= λ b u q _ _ _=>k b u q
 slot:= λ b u q _ _ _=>⟨u.slots,k b u q⟩
 free:= λ b u q n _=>by rw[a_ (fR (QK (wR q) hp))];exact n
 there:= λ b u q _=>⟨u,k b u q⟩
 tups:= λ b xs q=>by rw[a_ (bz q C)];exact q
 frzs:= λ b u xs q=>by rw[a_ (bz q C)];exact q
 tbls:= λ b ps q=>⟨#[],by rw[a_ (bz q C),q];simp⟩
theorem Un.write(C:L9 (H x))(he:e=x\/H e=some (.own x))(k:∀b u,b≠e->h.get? b=some u->h'.get? b=some u)(J:∃u,h'.get? e=some u):Un fs ex H (upd H x o) h h':=by
 have hx:∀b,H b=none->b≠x:= λ b n z=>by subst z;rw[n]at C;exact C
 have I:∀b,H b=none->b≠e:= λ b n z=>by simp_all
 have hm:∀b u,H b=some u-> ¬L9 (some u)->b≠x:= λ b u q nm z=>by subst z;rw[q]at C;exact nm C
 refine⟨λ b u q n _ _=>k b u (I b n) q,λ b u q n _ _=>⟨u.slots,k b u (I b n) q⟩,λ b u q n _=>by rw[a_ (hx b n)];exact n,λ b u q _=>?_,
  λ b xs q=>by rw[a_ (hm b _ q λ z=>z)];exact q,λ b u xs q=>by rw[a_ (hm b _ q λ z=>z)];exact q,λ b ps q=>⟨#[],by rw[a_ (hm b _ q λ z=>z),q];simp⟩⟩;grind
end
noncomputable def Oq(h:Heap)(H:Hp):List Addr:=(List.range h.objs.size).filter λ a=>(H a).isSome
noncomputable def pj(h:Heap)(H:Hp):Heap:=PySem.W.hideAll h (Oq h H)
theorem xE(h:Heap)(H:Hp):(pj h H).objs.size=h.objs.size:=PySem.W.hideAll_size _ _
theorem ze{H:Hp}{b:Addr}{o:Obj}(e:h.get? b=some o)(n:H b=none):(pj h H).get? b=some o:=
 PySem.W.hideAll_get _ e λ hm=>by have q:(H b).isSome=true:=(uP.mp hm).2;grind
theorem GY(e:(pj h H).get? b=some o):h.get? b=some o/\H b=none:=by have C:h.get? b=some o:=PySem.W.of_hideAll (Oq h H) e;refine⟨C,?_⟩;cases q:H b with
 |none=>rfl
 |some x=>have hm:b∈Oq h H:=uP.mpr ⟨wL.mpr (wR C),by simp[q]⟩;have z:(pj h H).get? b=none:=PySem.W.hideAll_none (Oq h H) hm;simp_all
noncomputable def ET(g h:Heap)(L:Addr):List (Addr×Obj):=(List.range h.objs.size).filterMap λ a=>if a=L\/(g.get? a).isSome=true then none else(h.get? a).map λ o=>(a,o)
noncomputable def rest(g h:Heap)(L d:Addr):List (Addr×Obj):=(ET g h L).filter λ p=>decide (p.1≠d)
structure Mod (K:PySem.W.Frag) (mg:Str->Option Value) (base:Heap):Prop where
 kin:K.In base
 glob:base.Ns mainGlobals mg
 blt:∃mb,base.Ns builtinsNs mb/\∀x:Str,x ≠ "__name__" -> mb x=bootBuiltins x
 nolimit:base.NoLimit
structure Cx where
 prog:Program
 w:World
 K:PySem.W.Frag
 mg:Str->Option Value
 base:Heap
 A:Around
 N:List Str
 s₀:Shared
 H₀:Hp
 env:Env
 outer:List Env
 stack:List Env
 ex:List Addr
 fn:Str->Bool
 calm:Bool
 pn:List (Addr × Obj)
 xe:Value->Shared->Prop
def dv:Str:="most_more"
def bR:Str:="most_more.<locals>.<lambda>"
noncomputable def xI(K:PySem.W.Frag)(H:Hp):Prop:=∀c P,PySem.W.tabIn K dv=some (c,P)->∃C t0,H P=some (.tbl C)/\C[0]?=some (.str bR t0)
theorem xI.un{K:PySem.W.Frag}{fs ex:List Addr}{H H':Hp}{h h':Heap}(t:xI K H)(u:Un fs ex H H' h h'):xI K H':= λ c P e=>by obtain⟨C,t0,h1,h2⟩:=t c P e;obtain⟨more,I⟩:=u.tbls P C h1;grind
noncomputable def y8(l:List Env):List Addr:=l.filterMap (·.frame)
noncomputable abbrev Cx.fs(X:Cx):List Addr:=y8 X.outer
noncomputable def Oy(sc:Scope)(x:Str):Prop:=sc.names.lookup x=some .local\/sc.names.lookup x=some .cell\/sc.names.lookup x=some .free
noncomputable def Loc(sc:Scope)(x:Str):Prop:=sc.names.lookup x=some .local\/sc.names.lookup x=some .cell
noncomputable def Look(env:Env)(h:Heap)(m:Str->Option Value)(x:Str)(u:Value):Prop:=
 (env.kindOf x=some .local/\m x=some u)\/((env.kindOf x=some .cell\/env.kindOf x=some .free)/\∃c,env.cells.lookup x=some c/\h.IsCell c (some u))
structure Cx.Ok (X:Cx):Prop where
 mod:Mod X.K X.mg X.base
 kind:X.env.scope.kind=.function
 glob:X.env.globals=mainGlobals
 blt:X.env.builtins=builtinsNs
 above:X.s₀.heap.objs.size ≤ X.env.locals
 inj:∀x y c,X.env.cells.lookup x=some c->X.env.cells.lookup y=some c->x=y
 has:∀x,(X.env.kindOf x=some .cell ∨ X.env.kindOf x=some .free)->∃c,X.env.cells.lookup x=some c
 cab:∀x c,X.fn x=true->X.env.cells.lookup x=some c->X.s₀.heap.objs.size ≤ c
 hd:X.calm=true->X.A.handled=none
 frames:X.A.frames=some X.stack
 stk:X.stack=X.outer ∨ (X.stack=X.env :: X.outer/\X.env.frame=some X.env.locals)
 exf:∀b ∈ X.ex,b ≠ X.env.locals/\∀x c,X.env.cells.lookup x=some c->c ≠ b
 bs:∀b o,X.base.get? b=some o->X.s₀.heap.get? b=some o/\X.H₀ b=none
 bsz:X.base.objs.size ≤ X.s₀.heap.objs.size
 noex:∀b o,X.base.get? b=some o->b ∉ X.ex
 exfs:∀b ∈ X.ex,b ∉ X.fs
 funs:X.s₀.heap.FunFrames X.base X.outer
 frf:∀b ∈ X.fs,X.H₀ b=none
 tb:xI X.K X.H₀
structure Inv (X:Cx) (pins:List (Addr × Obj)) (G:List (Option V)) (H:Hp) (s:Shared):Prop where
 ok:X.Ok
 os:s.os=X.s₀.os
 bare:AllBare s.gens
 base:Un X.fs X.ex X.H₀ H X.s₀.heap s.heap
 loc:∃m,s.heap.Ns X.env.locals m/\∀(i:Nat) (x:Str) (v:V),X.N[i]? = some x->G[i]? = some (some v)->Oy X.env.scope x->∃u,RelV v u/\Look X.env s.heap m x u
 cell:∀x c,X.env.cells.lookup x=some c->∃v,s.heap.IsCell c v
 free:H X.env.locals=none
 freeC:∀x c,X.env.cells.lookup x=some c->H c=none
 pin:∀p ∈ X.pn ++ pins,s.heap.get? p.1=some p.2/\H p.1=none/\p.1 ≠ X.env.locals/\p.1 ∉ X.fs/\∀v,p.2.data ≠ .cell v
 hok:iC X.prog X.w H s.heap
 len:G.length=X.N.length
section
variable {X:Cx} {pins:List (Addr × Obj)} {G:List (Option V)} {H H':Hp} {s:Shared} {h':Heap}
theorem Cx.Ok.nofr(ok:X.Ok){b:Addr}{o:Obj}(e:X.base.get? b=some o):b∉X.fs:= λ C=>by have:=(ok.funs.mem C).1;grind
theorem Inv.bs(I:Inv X pins G H s):∀b o,X.base.get? b=some o->s.heap.get? b=some o/\H b=none:= λ b o e=>
 ⟨I.base.keep b o (I.ok.bs b o e).1 (I.ok.bs b o e).2 (I.ok.nofr e) (I.ok.noex b o e),I.base.free b o (I.ok.bs b o e).1 (I.ok.bs b o e).2 (I.ok.noex b o e)⟩
theorem Inv.bk(I:Inv X pins G H s):∀b o,X.base.get? b=some o->s.heap.get? b=some o:= λ b o e=>(I.bs b o e).1
theorem Inv.tb(I:Inv X pins G H s):xI X.K H:=I.ok.tb.un I.base
theorem Inv.mod(I:Inv X pins G H s):Mod X.K X.mg X.base:=I.ok.mod
theorem Inv.kIn(I:Inv X pins G H s):X.K.In s.heap:=I.ok.mod.kin.keeps I.bk
theorem Inv.nolimit(I:Inv X pins G H s):s.heap.NoLimit:=I.ok.mod.nolimit.keeps I.bk
theorem Inv.lt(I:Inv X pins G H s):X.env.locals<s.heap.objs.size:=let⟨_,C,_⟩:=I.loc;C.lt
theorem Inv.sz(I:Inv X pins G H s):X.s₀.heap.objs.size<=s.heap.objs.size:=Q3 I.ok.above (WW I.lt)
theorem Inv.nofs(I:Inv X pins G H s){a:Addr}(h:s.heap.objs.size<=a):a∉X.fs:= λ C=>by obtain⟨_,o,J,_⟩:=I.ok.funs.mem C;exact absurd (QK (wR J) (Q3 I.sz h)) (QX _)
theorem Inv.cne(I:Inv X pins G H s):∀x c,X.env.cells.lookup x=some c->c≠X.env.locals:= λ x c e z=>by obtain⟨v,o,U,hd⟩:=I.cell x c e;obtain⟨m,⟨o',es,ep,C,J,_⟩,_⟩:=I.loc;grind
theorem Inv.funs(I:Inv X pins G H s):s.heap.FunFrames X.base X.outer:=by
 have all:∀(l:List Env),(∀b∈y8 l,b∈X.fs)->X.s₀.heap.FunFrames X.base l->s.heap.FunFrames X.base l:=by intro l;induction l with
  |nil=>intro _ _;trivial
  |cons env r U=>intro hs hl;obtain⟨hk,⟨L,o,hf,hn,ho,hd⟩,hr⟩:=hl;have C:L∈X.fs:=hs L (by unfold y8;grind);obtain⟨sl,e⟩:=I.base.slot L o ho (I.ok.frf L C) C λ z=>I.ok.exfs L z C;exact⟨hk,⟨L,_,hf,hn,e,hd⟩,U (λ b J=>hs b (by unfold y8;rw[XN,hf];exact uN _ J)) hr⟩
 exact all X.outer (λ _ J=>J) I.ok.funs
theorem Inv.stack(I:Inv X pins G H s):s.heap.FunFrames X.base X.stack:=by
 rcases I.ok.stk with e|⟨e,hf⟩
 .rw[e];exact I.funs
 .rw[e];obtain⟨m,C,_⟩:=I.loc;refine .cons (by rw[I.ok.kind];decide) hf C ?_ I.funs;exact Heap.get?_none_of_le (Q3 I.ok.bsz I.ok.above)
theorem Inv.stkSub(I:Inv X pins G H s):∀b∈y8 X.stack,b∈X.env.locals::X.fs:= λ b C=>by
 rcases I.ok.stk with e|⟨e,hf⟩
 .grind
 .rw[e]at C;unfold y8 at C;rw[XN,hf]at C;exact C
theorem Inv.stkFree(I:Inv X pins G H s):∀b∈y8 X.stack,H b=none:= λ b C=>by
 rcases wW.mp (I.stkSub b C)with e|C
 .rw[e];exact I.free
 .obtain⟨_,o,J,_⟩:=I.ok.funs.mem C;exact I.base.free b o J (I.ok.frf b C) λ z=>I.ok.exfs b z C
theorem Inv.step{g':Array GenState}{t':Nat}{d':Drawn}{ch:List Addr}(I:Inv X pins G H s)
  (C:∀b∈ch,(b∈X.ex\/X.s₀.heap.objs.size<=b)/\b≠X.env.locals/\(∀x c,X.env.cells.lookup x=some c->c≠b)/\∀p∈X.pn++pins,p.1≠b)
  (keep:∀b o,b≠X.env.locals->b∉X.fs->b∉ch->s.heap.get? b=some o->H b=none->h'.get? b=some o)
  (slot:∀b o,b≠X.env.locals->b∈X.fs->b∉ch->s.heap.get? b=some o->H b=none->∃sl,h'.get? b=some { o with slots:=sl })(free:∀b o,b∉ch->s.heap.get? b=some o->H b=none->H' b=none)
  (there:∀b o,b∉ch->s.heap.get? b=some o->∃o',h'.get? b=some o')
  (aa:∀b xs,H b=some (.tup xs)->H' b=some (.tup xs))(ab:∀b o u,H b=some (.frz o u)->H' b=some (.frz o u))(ae:∀b ps,H b=some (.tbl ps)->∃more,H' b=some (.tbl (ps++more)))
  (ns:∀m,s.heap.Ns X.env.locals m->h'.Ns X.env.locals m)(ah:iC X.prog X.w H' h')(hg:AllBare g'):
  Inv X pins G H' { s with heap:=h',gens:=g',drawn:=d',toks:=t' }:=by
 have af:∀b o,X.s₀.heap.get? b=some o->b≠X.env.locals:= λ b o e=>fR (QK (wR e) I.ok.above);have J:∀b o,X.s₀.heap.get? b=some o->b∉X.ex->b∉ch:= λ b o e hx hb=>by
  rcases(C b hb).1 with z|z
  .exact hx z
  .exact absurd (QK (wR e) z) (QX _)
 have cellK:∀x c,X.env.cells.lookup x=some c->∀v,s.heap.IsCell c v->h'.IsCell c v:= λ x c e v ⟨o,ho,hd⟩=>by
  have ag:c∉ch:= λ z=>(C c z).2.2.1 x c e rfl;by_cases hc:c∈X.fs;. obtain⟨sl,q⟩:=slot c o (I.cne x c e) hc ag ho (I.freeC x c e);exact⟨_,q,hd⟩
  .exact⟨o,keep c o (I.cne x c e) hc ag ho (I.freeC x c e),hd⟩
 refine⟨I.ok,I.os,hg,⟨λ b o e n hb hx=>?_,λ b o e n hb hx=>?_,λ b o e n hx=>?_,λ b o e hx=>?_,λ b xs e=>aa b xs (I.base.tups b xs e),λ b o xs e=>ab b o xs (I.base.frzs b o xs e),λ b ps e=>?_⟩,?_,λ x c e=>?_,?_,λ x c e=>?_,λ p hp=>?_,ah,I.len⟩;. exact keep b o (af b o e) hb (J b o e hx) (I.base.keep b o e n hb hx) (I.base.free b o e n hx)
 .obtain⟨sl,U⟩:=I.base.slot b o e n hb hx;obtain⟨ai,e2⟩:=slot b _ (af b o e) hb (J b o e hx) U (I.base.free b o e n hx);grind
 .obtain⟨o',U⟩:=I.base.there b o e hx;exact free b o' (J b o e hx) U (I.base.free b o e n hx)
 .obtain⟨o',U⟩:=I.base.there b o e hx;exact there b o' (J b o e hx) U
 .obtain⟨m1,U⟩:=I.base.tbls b ps e;obtain⟨m2,e2⟩:=ae b _ U;exact⟨m1++m2,by rw[e2,Array.append_assoc]⟩
 .obtain⟨m,hn,hl⟩:=I.loc;refine⟨m,ns m hn,λ i x v U e2 e3=>?_⟩;obtain⟨u,r,l⟩:=hl i x v U e2 e3;refine⟨u,r,?_⟩;rcases l with l|⟨k,c,e,z⟩
  .exact .inl l
  .exact .inr ⟨k,c,e,cellK x c e _ z⟩
 .obtain⟨v,z⟩:=I.cell x c e;exact⟨v,cellK x c e v z⟩
 .obtain⟨m,⟨o,_,_,ho,_⟩,_⟩:=I.loc;exact free _ o (λ z=>(C _ z).2.1 rfl) ho I.free
 .obtain⟨v,o,ho,hd⟩:=I.cell x c e;exact free c o (λ z=>(C c z).2.2.1 x c e rfl) ho (I.freeC x c e)
 .obtain⟨e,n,ne,nf,d⟩:=I.pin p hp;grind
theorem Inv.un(I:Inv X pins G H s)(u:Un X.fs [] H H' s.heap h')(J:iC X.prog X.w H' h'):Inv X pins G H' { s with heap:=h',toks:=t' }:=by obtain⟨m,⟨o,es,ep,ho,r⟩,_⟩:=id I.loc;obtain⟨sl,hL⟩:=u.any ho I.free (by simp);exact I.step (g':=s.gens) (d':=s.drawn) (ch:=[]) (λ _ z=>nomatch z) (λ b o _ U _ e n=>u.keep b o e n U (by simp)) (λ b o _ U _ e n=>u.slot b o e n U (by simp)) (λ b o _ e n=>u.free b o e n (by simp)) (λ b o _ e=>u.there b o e (by simp)) u.tups u.frzs u.tbls (λ m' hm=>by obtain⟨o',aa,ab,C,r'⟩:=hm;rw[ho]at C;cases C;exact⟨_,aa,ab,hL,r'⟩) J I.bare
theorem Inv.call{d':Drawn}{ch:List Addr}(I:Inv X pins G H s)(u:Un (y8 X.stack) ch H H' s.heap h')(aa:iC X.prog X.w H' h')(hg:AllBare g')
  (J:∀b∈ch,(b∈X.ex\/X.s₀.heap.objs.size<=b)/\b≠X.env.locals/\(∀x c,X.env.cells.lookup x=some c->c≠b)/\∀p∈X.pn++pins,p.1≠b):
  Inv X pins G H' { s with heap:=h',gens:=g',drawn:=d',toks:=t' }:=by obtain⟨m,⟨o,es,ep,ho,r⟩,_⟩:=id I.loc;obtain⟨sl,hL⟩:=u.any ho I.free λ z=>(J _ z).2.1 rfl;exact I.step (ch:=ch) J (λ b o hL hb C e n=>u.keep b o e n (λ z=>(wW.mp (I.stkSub b z)).elim hL hb) C) (λ b o _ _ C e n=>u.any e n C) (λ b o C e n=>u.free b o e n C) (λ b o C e=>u.there b o e C) u.tups u.frzs u.tbls (λ m' hm=>by obtain⟨o',ab,ae,U,r'⟩:=hm;rw[ho]at U;cases U;exact⟨_,ab,ae,hL,r'⟩) aa hg
theorem Inv.turned{it:Addr}(I:Inv X pins G H s)(k:∀b o,b≠it->s.heap.get? b=some o->h'.get? b=some o)(hn:H it=none)(J:it≠X.env.locals)
  (h1:it∈X.ex\/X.s₀.heap.objs.size<=it)(h2:∀x c,X.env.cells.lookup x=some c->c≠it)(h3:∀p∈X.pn++pins,p.1≠it):Inv X pins G H { s with heap:=h',toks:=t' }:=by
 refine I.step (g':=s.gens) (d':=s.drawn) (ch:=[it]) (λ b hb=>?_) (λ b o _ _ C e _=>k b o (λ z=>C (by simp[z])) e) (λ b o _ _ C e _=>⟨o.slots,k b o (λ z=>C (by simp[z])) e⟩) (λ _ _ _ _ n=>n)
  (λ b o C e=>⟨o,k b o (λ z=>C (by simp[z])) e⟩) (λ _ _ e=>e) (λ _ _ _ e=>e) (λ b ps e=>⟨#[],by rw[e];simp⟩) (λ m hm=>?_) (λ b u e=>?_) I.bare;. grind
 .obtain⟨o,es,U,ho,r⟩:=hm;exact⟨o,es,U,k _ o (Ne.symm J) ho,r⟩
 .refine(I.hok b u e).stay (λ c v C q=>k c v ?_ q) (λ _ q=>q) λ _ _ q=>q;grind
theorem Inv.tok(I:Inv X pins G H s)(t:Nat):Inv X pins G H { s with toks:=t }:=I.un (h':=s.heap) (t':=t) Un.refl I.hok
theorem Inv.kept(I:Inv X pins G H s)(k:∀b u,s.heap.get? b=some u->h'.get? b=some u):Inv X pins G H { s with heap:=h',toks:=t' }:=I.un (Un.kept k) (I.hok.kept k)
theorem Inv.laid{a:Addr}{o:HO}{t':Nat}(I:Inv X pins G H s)(k:∀b u,s.heap.get? b=some u->h'.get? b=some u)(C:s.heap.objs.size<=a)(new:b4 X.prog X.w (upd H a o) h' a o):
  Inv X pins G (upd H a o) { s with heap:=h',toks:=t' }:=I.un (Un.laid k C (I.hok.fresh C)) (I.hok.laid k C new)
theorem Inv.write(I:Inv X pins G H s)(J:L9 (H x))(he:e=x\/H e=some (.own x))(k:∀b u,b≠e->s.heap.get? b=some u->h'.get? b=some u)(C:∃u,h'.get? e=some u)
  (new:b4 X.prog X.w (upd H x o) h' x o):Inv X pins G (upd H x o) { s with heap:=h',toks:=t' }:=I.un (Un.write J he k C) (I.hok.write J he k C new)
theorem Inv.weak(I:Inv X pins G H s)(U:C.length=G.length)(w:∀(i:Nat) v,C[i]?=some (some v)->G[i]?=some (some v)):Inv X pins C H s:=
 ⟨I.ok,I.os,I.bare,I.base,let⟨m,hn,J⟩:=I.loc;⟨m,hn,λ i x v e1 e2 e3=>J i x v e1 (w i v e2) e3⟩,I.cell,I.free,I.freeC,I.pin,I.hok,U.trans I.len⟩
theorem Inv.pins_of(I:Inv X pins G H s)(h:∀p∈pins',s.heap.get? p.1=some p.2/\H p.1=none/\p.1≠X.env.locals/\p.1∉X.fs/\∀v,p.2.data≠ .cell v):Inv X pins' G H s:=
 ⟨I.ok,I.os,I.bare,I.base,I.loc,I.cell,I.free,I.freeC,λ p C=>(fD.mp C).elim (λ z=>I.pin p (ZL _ z)) (h p),I.hok,I.len⟩
theorem r9{N:List Str}(C:N.Nodup){i j:Nat}{x:Str}(a:N[i]?=some x)(b:N[j]?=some x):i=j:=by obtain⟨h1,I⟩:=wV.mp a;obtain⟨h2,J⟩:=wV.mp b;exact(List.getElem_inj C).mp (I.trans J.symm)
theorem nK{i:Nat}{x:Str}{v:V}{u:Value}{Q:Unit->Shared->Prop}(I:Inv X pins G H s)(hN:X.N.Nodup)(hi:X.N[i]?=some x)(hx:Loc X.env.scope x)(r:RelV v u)
  (h:∀s',Inv X pins (G.set i (some v)) H s'->(∃a,Heap.SameBut a s.heap s'.heap/\(a=X.env.locals\/X.env.cells.lookup x=some a))->Q () s')(hf:X.fn x=true\/X.env.scope.names.lookup x=some .local:=by first|exact .inl rfl|exact .inr rfl|assumption):wpAny M A (storeName X.env x u) Q E s:=by
 obtain⟨m,hn,hl⟩:=id I.loc;have ae:(X.env.scope.kind== .class||(X.env.scope.kind== .module&&X.env.locals !=X.env.globals))=false:=by rw[I.ok.kind];rfl
 have aa:i<G.length:=by rw[I.len];exact(wV.mp hi).1
 have cne:=I.cne;have tracked:∀{a:Addr}{h':Heap},(∃o,s.heap.get? a=some o/\H a=none)->Heap.SameBut a s.heap h'->iC X.prog X.w H h':= λ{a h'} ha hs b ob e=>by refine(I.hok b ob e).stay (λ c w' J q=>(hs.2 c ?_).trans q) (λ _ q=>q) λ _ _ q=>q;grind
 rcases hx with hk|hk
 .refine wpAny_storeName_local hk hn (λ h' aj hs=>?_) ae;obtain⟨oL,_,_,ak,_⟩:=id hn;refine h _ ⟨I.ok,I.os,I.bare,⟨λ b o e n hb hx=>?_,λ b o e n hb hx=>?_,I.base.free,λ b o e hx=>?_,I.base.tups,I.base.frzs,I.base.tbls⟩,⟨_,aj,λ j y v' C U e3=>?_⟩,λ y c e=>?_,I.free,I.freeC,λ p hp=>?_,tracked ⟨oL,ak,I.free⟩ hs,by simpa using I.len⟩ ⟨_,hs,.inl rfl⟩;. exact(hs.2 b (fR (QK (wR e) I.ok.above))).trans (I.base.keep b o e n hb hx)
  .obtain⟨sl,C⟩:=I.base.slot b o e n hb hx;exact⟨sl,(hs.2 b (fR (QK (wR e) I.ok.above))).trans C⟩
  .obtain⟨o',C⟩:=I.base.there b o e hx;exact⟨o',(hs.2 b (fR (QK (wR e) I.ok.above))).trans C⟩
  .by_cases hj:j=i;. subst hj;rw[hi]at C;cases C;rw[ZM aa]at U;cases U;exact⟨u,r,.inl ⟨hk,by simp⟩⟩
   .rw[ZQ (Ne.symm hj)]at U;obtain⟨u',r',q⟩:=hl j y v' C U e3;refine⟨u',r',?_⟩;rcases q with⟨k,e⟩|⟨k,c,e,z⟩
    .refine .inl ⟨k,?_⟩;have:y≠x:= λ e=>hj (r9 hN C (e▸hi));simp[this,e]
    .exact .inr ⟨k,c,e,z.sameBut hs (cne y c e)⟩
  .obtain⟨w',z⟩:=I.cell y c e;exact⟨w',z.sameBut hs (cne y c e)⟩
  .obtain⟨e,n,ne,nf,d⟩:=I.pin p hp;exact⟨(hs.2 p.1 ne).trans e,n,ne,nf,d⟩
 .have ab:X.fn x=true:=by
   rcases hf with z|z
   .exact z
   .rw[z]at hk;cases hk
  obtain⟨c,J⟩:=I.ok.has x (.inl hk);obtain⟨w',z⟩:=I.cell x c J;refine wpAny_storeName_cell I.ok.kind hk J z (λ h' af hs=>?_);obtain⟨oc,ag,ah⟩:=id z;refine h { s with heap:=h' } ⟨I.ok,I.os,I.bare,⟨λ b o e n hb hx=>?_,λ b o e n hb hx=>?_,I.base.free,λ b o e hx=>?_,I.base.tups,I.base.frzs,I.base.tbls⟩,⟨m,hn.sameBut hs (Ne.symm (cne x c J)),λ j y v' C U e3=>?_⟩,λ y c' e=>?_,I.free,I.freeC,λ p hp=>?_,tracked ⟨oc,ag,I.freeC x c J⟩ hs,by simpa using I.len⟩ ⟨c,hs,.inr J⟩;. exact(hs.2 b (fR (QK (wR e) (I.ok.cab x c ab J)))).trans (I.base.keep b o e n hb hx)
  .obtain⟨sl,C⟩:=I.base.slot b o e n hb hx;exact⟨sl,(hs.2 b (fR (QK (wR e) (I.ok.cab x c ab J)))).trans C⟩
  .obtain⟨o',C⟩:=I.base.there b o e hx;exact⟨o',(hs.2 b (fR (QK (wR e) (I.ok.cab x c ab J)))).trans C⟩
  .by_cases hj:j=i;. subst hj;rw[hi]at C;cases C;rw[ZM aa]at U;cases U;exact⟨u,r,.inr ⟨.inl hk,c,J,af⟩⟩
   .rw[ZQ (Ne.symm hj)]at U;obtain⟨u',r',q⟩:=hl j y v' C U e3;refine⟨u',r',?_⟩;rcases q with q|⟨k,c',e,z'⟩
    .exact .inl q
    .refine .inr ⟨k,c',e,z'.sameBut hs ?_⟩;rintro rfl;exact hj (r9 hN C (I.ok.inj _ _ _ e J▸hi))
  .by_cases ai:c'=c;. subst ai;exact⟨_,af⟩
   .obtain⟨w2,z2⟩:=I.cell y c' e;exact⟨w2,z2.sameBut hs ai⟩
  .obtain⟨e,n,ne,nf,d⟩:=I.pin p hp;refine⟨(hs.2 p.1 ?_).trans e,n,ne,nf,d⟩;intro q;rw[q,ag]at e;have q':oc=p.2:=Q9 e;exact d w' (by rw[<- q'];exact ah)
theorem lP{i:Nat}{x:Str}{v:V}{u:Value}{Q:Unit->Shared->Prop}(I:Inv X pins G H s)(C:X.N.Nodup)(J:X.N[i]?=some x)(hx:Loc X.env.scope x)(r:RelV v u)
  (h:∀s',Inv X pins (G.set i (some v)) H s'->Q () s')(hf:X.fn x=true\/X.env.scope.names.lookup x=some .local:=by first | exact .inl rfl | exact .inr rfl | assumption):wpAny M A (storeName X.env x u) Q E s:=
 nK I C J hx r (λ s' U _=>h s' U) hf
theorem Inv.call'{ch:List Addr}(I:Inv X pins G H s)(U:s'.os=s.os)(u:Un (y8 X.stack) ch H H' s.heap s'.heap)(C:iC X.prog X.w H' s'.heap)(hg:AllBare s'.gens)
  (J:∀b∈ch,(b∈X.ex\/X.s₀.heap.objs.size<=b)/\b≠X.env.locals/\(∀x c,X.env.cells.lookup x=some c->c≠b)/\∀p∈X.pn++pins,p.1≠b):Inv X pins G H' s':=by obtain⟨h',g',d',t',o'⟩:=s';have e:o'=s.os:=U;subst e;exact I.call (g':=g') (t':=t') (d':=d') u C hg J
end
noncomputable abbrev XK:=Value->Option Addr->Hp->Prop
noncomputable abbrev St:=List (Option V)
noncomputable abbrev VK:=V->Hp->Prop
noncomputable abbrev TE:=St->Hp->VK->Prop
noncomputable abbrev TT:=St->Hp->(Bool->Hp->Prop)->Prop
noncomputable abbrev TA:=St->Hp->(List V->Hp->Prop)->Prop
structure Ends where
 nx:St->Hp->Prop
 rt:VK
 bk:St->Hp->Prop:=fun _ _=>False
 ct:St->Hp->Prop:=fun _ _=>False
noncomputable abbrev TS:=Ends->St->Hp->Prop
noncomputable def EP(X:Cx)(pins:List (Addr×Obj))(G:St)(Q:VK)(u:Value)(s':Shared):Prop:=∃v H',Inv X pins G H' s'/\RelV v u/\Q v H'
noncomputable def TP(X:Cx)(pins:List (Addr×Obj))(G:St)(Q:Bool->Hp->Prop)(b:Bool)(s':Shared):Prop:=∃H',Inv X pins G H' s'/\Q b H'
noncomputable def AP(X:Cx)(pins:List (Addr×Obj))(G:St)(Q:List V->Hp->Prop)(us:List Value)(s':Shared):Prop:=∃vs H',Inv X pins G H' s'/\Vals vs us/\Q vs H'
noncomputable def SP(X:Cx)(pins:List (Addr×Obj))(D:Ends)(f:Flow)(s':Shared):Prop:=
 match f with
 | .next=>∃C H',Inv X pins C H' s'/\D.nx C H'
 | .brk=>∃C H',Inv X pins C H' s'/\D.bk C H'
 | .cont=>∃C H',Inv X pins C H' s'/\D.ct C H'
 | .ret u=>∃v C H',Inv X pins C H' s'/\RelV v u/\D.rt v H'
noncomputable def PE(X:Cx)(e:Expr)(t:TE):Prop:=
 ∀(pins:List (Addr×Obj))(s:Shared)(G:St)(H:Hp)(Q:VK),Inv X pins G H s->t G H Q->wpAny (model X.prog X.w) X.A (eval e X.env) (EP X pins G Q) X.xe s
noncomputable def PT(X:Cx)(e:Expr)(t:TT):Prop:=
 ∀(pins:List (Addr×Obj))(s:Shared)(G:St)(H:Hp)(Q:Bool->Hp->Prop),Inv X pins G H s->t G H Q->wpAny (model X.prog X.w) X.A (isTrue e X.env (eval e X.env)) (TP X pins G Q) X.xe s
noncomputable def PW(X:Cx)(e:Expr)(t:TT):Prop:=
 ∀(whole:Sem Value)(pins:List (Addr×Obj))(s:Shared)(G:St)(H:Hp)(Q:Bool->Hp->Prop),Inv X pins G H s->t G H Q->wpAny (model X.prog X.w) X.A (isTrue e X.env whole) (TP X pins G Q) X.xe s
theorem PW.pt(h:PW X e t):PT X e t:=h _
noncomputable def PA(X:Cx)(es:List Expr)(t:TA):Prop:=
 ∀(pos:Pos)(pins:List (Addr×Obj))(s:Shared)(G:St)(H:Hp)(Q:List V->Hp->Prop),Inv X pins G H s->t G H Q->wpAny (model X.prog X.w) X.A (spliced (backTo pos (starEach es X.env))) (AP X pins G Q) X.xe s
noncomputable def PS(X:Cx)(st:Stmt)(t:TS):Prop:=
 ∀(pins:List (Addr×Obj))(s:Shared)(G:St)(H:Hp)(D:Ends),Inv X pins G H s->t D G H->wpAny (model X.prog X.w) X.A (exec st X.env) (SP X pins D) X.xe s
noncomputable def tx(X:Cx)(st:List Stmt)(t:TS):Prop:=
 ∀(pins:List (Addr×Obj))(s:Shared)(G:St)(H:Hp)(D:Ends),Inv X pins G H s->t D G H->wpAny (model X.prog X.w) X.A (execs st X.env) (SP X pins D) X.xe s
theorem b9{M:Model}{A:Around}{E:Value->Shared->Prop}{s:Shared}(h:wpAny M A t Q E s)(C:∀a s,Q a s->I a s):wpAny M A t I E s:=gO h C λ _ _ x=>x
section
variable {X:Cx}
noncomputable def Me(i:Nat):TE:= λ G H Q=>∃v,G[i]?=some (some v)/\Q v H
noncomputable def tC(v:V):TE:= λ _ H Q=>Q v H
theorem J7{pos:Pos}(hN:X.N[i]?=some x)(hv:Oy X.env.scope x)(hd:autoParam ((x==("__debug__":Str))=false) aQ1._auto_1)(U:autoParam ((x==("__classdict__":Str))=false) aQ1._auto_1):PE X (.Name x pos) (Me i):=by
 intro pins s G H Q I h;obtain⟨v,e,h⟩:=h;obtain⟨m,hn,hl⟩:=I.loc;obtain⟨u,r,l⟩:=hl i x v hN e hv;have fin:EP X pins G Q u s:=⟨v,H,I,r,h⟩;rcases l with⟨J,hm⟩|⟨J,c,hc,C⟩
 .exact wpAny_Name (wpAny_loadName_local I.ok.kind J hn hm fin) hd
 .rcases J with J|J
  .exact wpAny_Name (wpAny_loadName_cell I.ok.kind J hc C fin) hd
  .exact wpAny_Name (wpAny_loadName_free I.ok.kind J hc C fin U) hd
theorem zh:PE X (.Constant (.int i) j pos) (tC (.int i)):= λ _ _ _ H _ I h=>wpAny_Constant_int ⟨.int i,H,I.tok _,⟨_,rfl⟩,h⟩
theorem Ng:PE X (.Constant (.bool b) j pos) (tC (.bl b)):= λ _ _ _ H _ I h=>Constant_bool ⟨.bl b,H,I,rfl,h⟩
theorem Jn:PE X (.Constant .none j pos) (tC .non):= λ _ _ _ H _ I h=>Constant_none ⟨.non,H,I,rfl,h⟩
noncomputable def Gl(X:Cx)(x:Str):Prop:=X.env.kindOf x=some .globalImplicit
theorem xl{pins:List (Addr×Obj)}{s:Shared}{G:St}{H:Hp}{x:Str}{u:Value}{pos:Pos}{Q:Value->Shared->Prop}(I:Inv X pins G H s)(C:Gl X x)(hm:X.mg x=some u)(h:Q u s)
  (hd:autoParam ((x==("__debug__":Str))=false) aQ1._auto_1):wpAny (model X.prog X.w) X.A (eval (.Name x pos) X.env) Q E s:=
 Calls.Name_function_global I.ok.kind C (Calls.loadGlobal_global (by rw[I.ok.glob];exact I.mod.glob.keeps I.bk) hm h) hd
theorem fv{E:Value->Shared->Prop}{pins:List (Addr×Obj)}{s:Shared}{G:St}{H:Hp}{x:Str}{u:Value}{pos:Pos}{Q:Value->Shared->Prop}(I:Inv X pins G H s)(C:Gl X x)(hm:X.mg x=none)(J:bootBuiltins x=some u)(h:Q u s)
  (U:autoParam (x≠"__name__") aQ1._auto_1)(hd:autoParam ((x==("__debug__":Str))=false) aQ1._auto_1):wpAny (model X.prog X.w) X.A (eval (.Name x pos) X.env) Q E s:=by obtain⟨mb,h1,h2⟩:=I.mod.blt;exact Calls.Name_function_global I.ok.kind C (Calls.loadGlobal_builtin (by rw[I.ok.glob];exact I.mod.glob.keeps I.bk) hm (by rw[I.ok.blt];exact h1.keeps I.bk) ((h2 x U).trans J) h) hd
theorem GC{u:Value}{pos:Pos}(C:Gl X x)(hm:X.mg x=some u)(r:RelV v u)(hd:autoParam ((x==("__debug__":Str))=false) aQ1._auto_1):PE X (.Name x pos) (tC v):=
 λ _ _ _ H _ I h=>xl I C hm ⟨v,H,I,r,h⟩ hd
theorem Gj{u:Value}{pos:Pos}(C:Gl X x)(hm:X.mg x=none)(J:bootBuiltins x=some u)(r:RelV v u)(U:autoParam (x≠"__name__") aQ1._auto_1)(hd:autoParam ((x==("__debug__":Str))=false) aQ1._auto_1):PE X (.Name x pos) (tC v):=
 λ _ _ _ H _ I h=>fv I C hm J ⟨v,H,I,r,h⟩ U hd
variable {a b:Expr} {ta tb:TE} {pos:Pos}
variable {tA tB':TT} {rest:List Expr}
noncomputable def P0(t u:TT):TT:= λ G H Q=>t G H λ c H1=>if c=true then u G H1 Q else Q false H1
noncomputable def Qp(t u:TT):TT:= λ G H Q=>t G H λ c H1=>if c=true then Q true H1 else u G H1 Q
noncomputable def PN(t:TT):TT:= λ G H Q=>t G H λ c H1=>Q (!c) H1
theorem Fb(C:PT X a tA):PW X (.BoolOp .And [a] pos) tA:=by intro wh pins s G H Q I h;refine isTrue_and (b9 (C pins s G H Q I h) λ c s1 e=>?_);cases c with
 |true=>exact isTrue_and_nil e
 |false=>exact e
theorem Ka(C:PT X a tA):PW X (.BoolOp .Or [a] pos) tA:=by intro wh pins s G H Q I h;refine isTrue_or (b9 (C pins s G H Q I h) λ c s1 e=>?_);cases c with
 |false=>exact isTrue_or_nil e
 |true=>exact e
theorem JQ(U:PT X a tA)(hb:PW X (.BoolOp .And (b::rest) pos) tB'):PW X (.BoolOp .And (a::b::rest) pos) (P0 tA tB'):=by intro wh pins s G H Q I h;refine isTrue_and (b9 (U pins s G H _ I h) λ c s1 ⟨H1,C,J⟩=>?_);cases c with
 |true=>exact hb wh pins s1 G H1 Q C J
 |false=>exact⟨H1,C,J⟩
theorem MY(U:PT X a tA)(hb:PW X (.BoolOp .Or (b::rest) pos) tB'):PW X (.BoolOp .Or (a::b::rest) pos) (Qp tA tB'):=by intro wh pins s G H Q I h;refine isTrue_or (b9 (U pins s G H _ I h) λ c s1 ⟨H1,C,J⟩=>?_);cases c with
 |true=>exact⟨H1,C,J⟩
 |false=>exact hb wh pins s1 G H1 Q C J
theorem JD(C:PT X a tA):PT X (.UnaryOp .Not a pos) (PN tA):=by intro pins s G H Q I h;exact isTrue_not (C pins s G H (λ c H1=>Q (!c) H1) I h)
noncomputable def Nj(ta tb:TE):TE:= λ G H Q=>ta G H λ x H1=>∃c,x= .bl c/\if c=true then tb G H1 Q else Q (.bl false) H1
noncomputable def NI(ta:TE):TE:= λ G H Q=>ta G H λ x H1=>∃c,x= .bl c/\Q (.bl (!c)) H1
theorem Jx{t:TE}(h:PE X a t):PE X (.BoolOp op [a] pos) t:= λ pins s G H Q I hw=>BoolOp_one (h pins s G H Q I hw)
theorem KP(U:PE X a ta)(hb:PE X (.BoolOp .And (b::rest) pos) tb):PE X (.BoolOp .And (a::b::rest) pos) (Nj ta tb):=by intro pins s G H Q I h;refine BoolOp_and (b9 (U pins s G H _ I h) λ v s1 ⟨x,H1,J,r1,C⟩=>?_);obtain⟨c,rfl,C⟩:=C;cases r1;refine V1 ?_;cases c with
 |true=>exact hb pins s1 G H1 Q J C
 |false=>exact⟨.bl false,H1,J,rfl,C⟩
theorem Jo(J:PE X a ta):PE X (.UnaryOp .Not a pos) (NI ta):=by intro pins s G H Q I h;refine UnaryOp_ (b9 (J pins s G H _ I h) λ v s1 ⟨x,H1,U,r1,C⟩=>?_);obtain⟨c,rfl,C⟩:=C;cases r1;exact not_of (V1 ⟨.bl (!c),H1,U,rfl,C⟩)
noncomputable def QB(t:TT)(ta tb:TE):TE:= λ G H Q=>t G H λ c H1=>if c=true then ta G H1 Q else tb G H1 Q
theorem Ck(U:PT X c tA)(ha:PE X a ta)(hb:PE X b tb):PE X (.IfExp c a b pos) (QB tA ta tb):=by intro pins s G H Q I h;refine wpAny_IfExp (b9 (U pins s G H _ I h) λ d s1 ⟨H1,C,J⟩=>?_);cases d with
 |true=>exact ha pins s1 G H1 Q C J
 |false=>exact hb pins s1 G H1 Q C J
end
noncomputable def iE(K:PySem.W.Frag)(H:Hp)(a:Addr)(xs:List V):Prop:=
 Rd H a (.lst xs)\/
  ∃(o:Obj) (its:Array Value) (n:Nat),K.lookup a=some o/\o.cls= .type "list"/\o.dict=none/\o.data= .seq its n/\its.size<=sizeLine/\Vals xs its.toList
noncomputable def fQ(K:PySem.W.Frag)(H:Hp)(a:Addr)(xs:List V):Prop:=
 Rd H a (.tup xs)\/
  ∃(o:Obj) (its:Array Value) (n:Nat),K.lookup a=some o/\o.cls= .type "tuple"/\o.data= .seq its n/\its.size<=sizeLine/\Vals xs its.toList
noncomputable def OO:Value->Option V
 | .none=>some .non
 | .bool b=>some (.bl b)
 | .int i _=>some (.int i)
 | .str x _=>some (.str x)
 | .bytes b _=>some (.byt b)
 | .float b _=>some (.flt b)
 | .ref a=>some (.ref a)
 | .type n=>some (.ty n)
 |_=>none
theorem RelV.abs(r:RelV x u):OO u=some x:=by cases x with
 |non=>cases r;rfl
 |bl _=>cases r;rfl
 |int _=>obtain⟨t,rfl⟩:=r;rfl
 |str _=>obtain⟨t,rfl⟩:=r;rfl
 |byt _=>obtain⟨t,rfl⟩:=r;rfl
 |flt _=>obtain⟨t,rfl⟩:=r;rfl
 |ref _=>cases r;rfl
 |ty _=>cases r;rfl
theorem RelV.inj{u:Value}(r:RelV x u)(q:RelV y u):x=y:=Q9 (r.abs.symm.trans q.abs)
theorem Vals.inj:∀{xs ys:List V}{us:List Value},Vals xs us->Vals ys us->xs=ys
 |_,_,_,.nil,.nil=>rfl
 |_,_,_,.cons r t,.cons C t'=>by rw[r.inj C,Vals.inj t t']
section
variable {X:Cx} {pins:List (Addr × Obj)} {G:St} {H:Hp} {s:Shared} {a:Addr} {xs ys:List V}
theorem iE.of{K:PySem.W.Frag}(h:H a=some (.lst xs)):iE K H a xs:= .inl (.inl h)
theorem fQ.of{K:PySem.W.Frag}(h:H a=some (.tup xs)):fQ K H a xs:= .inl (.inl h)
theorem Inv.list(I:Inv X pins G H s)(h:iE X.K H a xs):∃its:List Value,Vals xs its/\PlainL s.heap a its.toArray/\xs.length<=sizeLine:=by
 rcases h with h|⟨o,its,n,C,J,hd,hs,hz,r⟩
 .obtain⟨z,its,n,r,e⟩:=h.ok I.hok;exact⟨its,r,⟨_,n,e,rfl,rfl,rfl⟩,z⟩
 .refine⟨its.toList,r,⟨o,n,I.kIn a o C,J,hd,by simpa using hs⟩,?_⟩;have e:=r.length;simp_all
theorem Inv.tuple(I:Inv X pins G H s)(h:fQ X.K H a xs):∃its:List Value,Vals xs its/\IsTup s.heap a its.toArray/\xs.length<=sizeLine:=by
 rcases h with h|⟨o,its,n,C,J,hs,hz,r⟩
 .obtain⟨z,its,r,p⟩:=h.ok I.hok;exact⟨its,r,p.1,z⟩
 .refine⟨its.toList,r,⟨o,I.kIn a o C,J,n,by simpa using hs⟩,?_⟩;have e:=r.length;simp_all
theorem Inv.list_inj(I:Inv X pins G H s)(h:iE X.K H a xs)(h':iE X.K H a ys):xs=ys:=by
 obtain⟨its,r,⟨o,n,e,_,_,d⟩,_⟩:=I.list h;obtain⟨its',J,⟨o',n',C,_,_,d'⟩,_⟩:=I.list h';rw[e]at C;cases C;rw[d]at d';injection d' with U _;have:its=its':=by simpa using ZO Array.toList U
 subst this;exact r.inj J
theorem Inv.tuple_inj(I:Inv X pins G H s)(h:fQ X.K H a xs)(h':fQ X.K H a ys):xs=ys:=by
 obtain⟨its,r,⟨o,e,_,n,d⟩,_⟩:=I.tuple h;obtain⟨its',J,⟨o',C,_,n',d'⟩,_⟩:=I.tuple h';rw[e]at C;cases C;rw[d]at d';injection d' with U _;have:its=its':=by simpa using ZO Array.toList U
 subst this;exact r.inj J
end
noncomputable abbrev Cx.wish(X:Cx)(E:Value->Shared->Prop):Cx:={ X with xe:=E }
noncomputable abbrev Cx.nox(X:Cx):Cx:=X.wish λ _ _=>False
theorem Cx.Ok.wish{X:Cx}(ok:X.Ok)(E:Value->Shared->Prop):(X.wish E).Ok:=
 ⟨ok.mod,ok.kind,ok.glob,ok.blt,ok.above,ok.inj,ok.has,ok.cab,ok.hd,ok.frames,ok.stk,ok.exf,ok.bs,ok.bsz,ok.noex,ok.exfs,ok.funs,ok.frf,ok.tb⟩
theorem Cx.Ok.unwish{X:Cx}{E:Value->Shared->Prop}(ok:(X.wish E).Ok):X.Ok:=
 ⟨ok.mod,ok.kind,ok.glob,ok.blt,ok.above,ok.inj,ok.has,ok.cab,ok.hd,ok.frames,ok.stk,ok.exf,ok.bs,ok.bsz,ok.noex,ok.exfs,ok.funs,ok.frf,ok.tb⟩
section
variable {X:Cx} {pins:List (Addr × Obj)} {G:St} {H:Hp} {s:Shared} {E:Value->Shared->Prop}
theorem Inv.wish(I:Inv X pins G H s)(E:Value->Shared->Prop):Inv (X.wish E) pins G H s:=⟨I.ok.wish E,I.os,I.bare,I.base,I.loc,I.cell,I.free,I.freeC,I.pin,I.hok,I.len⟩
theorem Inv.unwish(I:Inv (X.wish E) pins G H s):Inv X pins G H s:=⟨I.ok.unwish,I.os,I.bare,I.base,I.loc,I.cell,I.free,I.freeC,I.pin,I.hok,I.len⟩
theorem SP.unwish(h:SP (X.wish E) pins D f s'):SP X pins D f s':=by cases f with
 |next=>obtain⟨C,H',I,q⟩:=h;exact⟨C,H',I.unwish,q⟩
 |brk=>obtain⟨C,H',I,q⟩:=h;exact⟨C,H',I.unwish,q⟩
 |cont=>obtain⟨C,H',I,q⟩:=h;exact⟨C,H',I.unwish,q⟩
 |ret u=>obtain⟨v,C,H',I,r,q⟩:=h;exact⟨v,C,H',I.unwish,r,q⟩
theorem tx.nox{st:List Stmt}{t:TS}(h:tx X.nox st t):tx X st t:= λ pins s G H D I hw=>
 gO (h pins s G H D (I.wish _) hw) (λ _ _ q=>q.unwish) λ _ _ z=>False.elim z
end
section
variable {X:Cx} {st:Stmt} {rest:List Stmt} {t u:TS} {e:Expr} {te:TE} {pos:Pos}
noncomputable def NF:TS:= λ D G H=>D.nx G H
noncomputable def P8(t u:TS):TS:= λ D G H=>t { D with nx:=u D } G H
theorem ES:tx X [] NF:= λ _ _ G H _ I h=>XJ ⟨G,H,I,h⟩
theorem C4(h1:PS X st t)(h2:tx X rest u):tx X (st::rest) (P8 t u):=by intro pins s G H D I h;refine wpAny_execs_cons (b9 (h1 pins s G H { D with nx:=u D } I h) λ f s1 q=>?_);cases f with
 |next=>obtain⟨C,H',J,q⟩:=q;exact h2 pins s1 C H' D J q
 |ret v=>exact q
 |brk=>exact q
 |cont=>exact q
theorem Gx(h1:PS X st t):tx X [st] t:=by intro pins s G H D I h;refine wpAny_execs_cons (b9 (h1 pins s G H D I h) λ f s1 q=>?_);cases f with
 |next=>exact XJ q
 |ret v=>exact q
 |brk=>exact q
 |cont=>exact q
theorem Inv.quiet{G:St}{H:Hp}{s:Shared}(I:Inv X pins G H s):interactive X.env=false:=by simp[interactive,I.ok.kind]
noncomputable def Nc(te:TE):TS:= λ D G H=>te G H λ _ H1=>D.nx G H1
theorem qg(he:PE X e te)(hs:autoParam (swapsWith e none pos.line X.env=pure false) aQ0._auto_1):PS X (.Expr e pos) (Nc te):=by intro pins s G H D I h;exact wpAny_Expr_any (b9 (he pins s G H _ I h) λ v s1 ⟨x,H1,C,U,J⟩=>⟨G,H1,C,J⟩) I.quiet hs
noncomputable def Qa(te:TE):TS:= λ D G H=>te G H D.rt
theorem CN(he:PE X e te):PS X (.Return (some e) pos) (Qa te):=by intro pins s G H D I h;exact wpAny_Return_some (b9 (he pins s G H _ I h) λ v s1 ⟨x,H1,C,J,U⟩=>⟨x,G,H1,C,J,U⟩)
noncomputable def OV(c:TT)(t u:TS):TS:= λ D G H=>c G H λ b H1=>if b=true then t D G H1 else u D G H1
theorem L_{C:TT}(hc:PT X c C)(ha:tx X a t)(hb:tx X b u):PS X (.If c a b pos) (OV C t u):=by intro pins s G H D I h;refine wpAny_If (b9 (hc pins s G H _ I h) λ d s1 ⟨H1,J,U⟩=>?_);cases d with
 |true=>exact ha pins s1 G H1 D J U
 |false=>exact hb pins s1 G H1 D J U
end
noncomputable abbrev TG:=V->St->Hp->(St->Hp->Prop)->Prop
noncomputable abbrev Ho:=List V->St->Hp->(St->Hp->Prop)->Prop
noncomputable def PG(X:Cx)(target:Expr)(t:TG):Prop:=
 ∀(pins:List (Addr×Obj))(s:Shared)(G:St)(H:Hp)(v:V)(u:Value)(Q:St->Hp->Prop),Inv X pins G H s->RelV v u->t v G H Q->
  wpAny (model X.prog X.w) X.A (assign target X.env u) (λ _ s'=>∃C H',Inv X pins C H' s'/\Q C H') X.xe s
noncomputable def JE(X:Cx)(I:List Expr)(t:Ho):Prop:=
 ∀(pins:List (Addr×Obj))(s:Shared)(G:St)(H:Hp)(vs:List V)(us:List Value)(Q:St->Hp->Prop),Inv X pins G H s->Vals vs us->t vs G H Q->
  wpAny (model X.prog X.w) X.A (assignInOrder ((assignEach I X.env).map (·.2)) us) (λ _ s'=>∃C H',Inv X pins C H' s'/\Q C H') X.xe s
noncomputable abbrev JV:=V->V->V->Hp->(Hp->Prop)->Prop
noncomputable def MW(X:Cx)(t:JV):Prop:=
 ∀(pins:List (Addr×Obj))(s:Shared)(G:St)(H:Hp)(o i v:V)(C I u:Value)(Q:Hp->Prop),Inv X pins G H s->RelV o C->RelV i I->RelV v u->t o i v H Q->
  wpAny (model X.prog X.w) X.A (setItem C I u) (λ _ s'=>∃H',Inv X pins G H' s'/\Q H') X.xe s
noncomputable abbrev O3:=V->V->Hp->VK->Prop
noncomputable def Om(X:Cx)(op:Operator)(t:O3):Prop:=
 ∀(pins:List (Addr×Obj))(s:Shared)(G:St)(H:Hp)(x y:V)(v u:Value)(Q:VK),Inv X pins G H s->RelV x v->RelV y u->t x y H Q->
  wpAny (model X.prog X.w) X.A (inplaceOp op v u) (EP X pins G Q) X.xe s
section
variable {X:Cx} {pos:Pos}
noncomputable def qL(i:Nat):TG:= λ v G H Q=>Q (G.set i (some v)) H
theorem F9(C:X.N.Nodup)(J:X.N[i]?=some x)(hx:Loc X.env.scope x)(hf:X.fn x=true\/X.env.scope.names.lookup x=some .local:=by first | exact .inl rfl | exact .inr rfl | assumption):PG X (.Name x pos) (qL i):=by intro pins s G H v u Q I r h;exact wpAny_assign_Name (lP I C J hx r (λ s' U=>⟨_,H,U,h⟩) hf)
noncomputable def PQ:Ho:= λ vs G H Q=>vs=[]/\Q G H
noncomputable def MQ(t:TG)(u:Ho):Ho:= λ vs G H Q=>∃v r,vs=v::r/\t v G H λ C H'=>u r C H' Q
theorem GK:JE X [] PQ:=by intro pins s G H vs us Q I r h;obtain⟨e,h⟩:=h;exact assignInOrder_nil ⟨G,H,I,h⟩
theorem AA{t:TG}{u:Ho}(h1:PG X e t)(h2:JE X es u)
  (hs:autoParam ((assignEach (e::es) X.env).map (·.2)=assign e X.env::(assignEach es X.env).map (·.2)) aQ0._auto_1):JE X (e::es) (MQ t u):=by intro pins s G H vs us Q I r h;obtain⟨v,vr,J,h⟩:=h;subst J;cases r with
 |cons r U=>rw[hs];refine assignInOrder_cons (b9 (h1 pins s G H _ _ _ I r h) λ _ s1 ⟨C,H1,I1,q1⟩=>?_);exact h2 pins s1 C H1 _ _ Q I1 U q1
noncomputable def Px(K:PySem.W.Frag)(n:Nat)(t:Ho):TG:= λ v G H Q=>∃a xs,v= .ref a/\fQ K H a xs/\xs.length=n/\t xs G H Q
theorem Jr{k:Nat}{t:Ho}{n:Nat}(J:X.calm=true)(h:JE X es t)
  (U:autoParam ((assignEach es X.env).length=n) aQ0._auto_1)(C:autoParam ((assignEach es X.env).findIdx? (·.1)=none) aQ0._auto_1):PG X (.Tuple es k pos) (Px X.K n t):=by intro pins s G H v u Q I r hw;obtain⟨a,xs,e1,hq,hl,hw⟩:=hw;subst e1;cases r;obtain⟨its,rv,ht,hz⟩:=I.tuple hq;refine assign_Tuple_tuple (I.ok.hd J) ht (by simp[U,<- hl,rv.length]) C λ h' hx=>?_;have I1:Inv X pins G H { s with heap:=h' }:=I.kept (t':=s.toks) λ b o e=>hx b o (fR (wR e)) e;exact h pins _ G H xs _ Q I1 (by omega) hw
noncomputable def P1(to C:TE)(t:JV):TG:= λ v G H Q=>to G H λ o H1=>C G H1 λ i H2=>t o i v H2 λ I=>Q G I
theorem JH{to U:TE}{t:JV}(ho:PE X o to)(hi:PE X i U)(hs:MW X t)
  (ha:∀v,assign (.Subscript o i pos) X.env v=(do
   let C<- holding [v] (eval o X.env)
   let J<- holding [v,C] (eval i X.env)
   standAt pos
   holding [v,C,J] (setItem C J v)
   release [v,C,J] []):=by intro _;rfl):PG X (.Subscript o i pos) (P1 to U t):=by intro pins s G H v u Q I r h;rw[ha];refine zN (Q1 (b9 (ho pins s G H _ I h) λ C s1 ⟨x,H1,I1,r1,q1⟩=>?_));refine zN (Q1 (b9 (hi pins s1 G H1 _ I1 q1) λ J s2 ⟨y,H2,I2,r2,q2⟩=>?_));refine zN (VE (zN (Q1 (b9 (hs pins s2 G H2 x y v C J u _ I2 r1 r2 r q2) λ _ s3 ⟨H3,I3,q3⟩=>?_))));exact wpAny_release ⟨G,H3,I3,q3⟩
noncomputable def Cq(te:TE)(g:TG):TS:= λ D G H=>te G H λ x H1=>g x G H1 D.nx
theorem Ao{tg e:Expr}{te:TE}{g:TG}(he:PE X e te)(C:PG X tg g)(hs:autoParam (swapsWithSole [tg] e pos.line X.env=pure false) aQ0._auto_1)(hw:autoParam (swappedStores [tg] e X.env=pure none) aQ0._auto_1)
  (h1:autoParam ((assignEach [tg] X.env).map (·.2)=[assign tg X.env]) aQ0._auto_1):PS X (.Assign [tg] e pos) (Cq te g):=by intro pins s G H D I h;refine wpAny_Assign_stores (b9 (he pins s G H _ I h) λ v s1 ⟨x,H1,J,U,q1⟩=>?_) hs hw;rw[h1];exact b9 (C pins s1 G H1 x v _ J U q1) λ _ s2 q=>q
theorem C3(C:X.N.Nodup)(J:X.N[i]?=some x)(hx:Loc X.env.scope x)(he:PE X e te)(hs:autoParam (swapsWith e (some (.Name x pos')) pos.line X.env=pure false) aQ0._auto_1)(hf:X.fn x=true\/X.env.scope.names.lookup x=some .local:=by first | exact .inl rfl | exact .inr rfl | assumption):
  PS X (.Assign [.Name x pos'] e pos) (Cq te (qL i)):=by intro pins s G H D I h;refine wpAny_Assign_Name (b9 (he pins s G H _ I h) λ v s1 ⟨y,H1,U,r1,q1⟩=>?_) hs;exact lP U C J hx r1 (λ s2 I2=>⟨_,H1,I2,q1⟩) hf
noncomputable def PF(i:Nat)(te:TE)(C:O3):TS:= λ D G H=>∃x,G[i]?=some (some x)/\te G H λ y H1=>C x y H1 λ z H2=>D.nx (G.set i (some z)) H2
theorem Ju(hN:X.N.Nodup)(hi:X.N[i]?=some x)(hx:Loc X.env.scope x)(he:PE X e te)(ho:Om X op ti)(hf:X.fn x=true\/X.env.scope.names.lookup x=some .local:=by first|exact .inl rfl|exact .inr rfl|assumption):
  PS X (.AugAssign (.Name x pos') op e pos) (PF i te ti):=by
 intro pins s G H D I h;obtain⟨v,e1,h⟩:=h;obtain⟨m,hn,hl⟩:=I.loc;have dC:Oy X.env.scope x:=by rcases hx with k|k;exact .inl k;exact .inr (.inl k)
 obtain⟨u,r,l⟩:=hl i x v hi e1 dC;refine wpAny_AugAssign_Name ?_;have go:wpAny (model X.prog X.w) X.A (eval e X.env) (λ w U=>wpAny (model X.prog X.w) X.A (inplaceOp op u w) (λ r aa=>wpAny (model X.prog X.w) X.A (storeName X.env x r) (λ _=>SP X pins D .next) X.xe aa) X.xe U) X.xe s:=by refine b9 (he pins s G H _ I h) λ w s1 ⟨y,H1,I1,r1,q1⟩=>?_;refine b9 (ho pins s1 G H1 v y u w _ I1 r r1 q1) λ z s2 ⟨zv,H2,I2,r2,q2⟩=>?_;exact lP I2 hN hi hx r2 (λ s3 I3=>⟨_,H2,I3,q2⟩) hf
 rcases l with⟨C,hm⟩|⟨C,c,hc,J⟩
 .exact wpAny_loadName_local I.ok.kind C hn hm go
 .rcases C with C|C
  .exact wpAny_loadName_cell I.ok.kind C hc J go
  .rcases hx with k|k
   .have:X.env.scope.names.lookup x=some .free:=C;simp_all
   .have:X.env.scope.names.lookup x=some .free:=C;rw[k]at this;cases this
noncomputable def PB(f:Int->Int->Int):O3:= λ x y H Q=>∃i j,x= .int i/\y= .int j/\Q (.int (f i j)) H
theorem JB:Om X .Add (PB fun i j=>i + j):= by
 intro pins s G H x y v u Q I r1 r2 h
 obtain ⟨i,j,e1,e2,q⟩:=h
 subst e1;subst e2
 obtain ⟨t,rfl⟩:=r1
 obtain ⟨t',rfl⟩:=r2
 exact iadd_int ⟨.int _,H,I.tok _,⟨_,rfl⟩,q⟩
end
section
variable {X:Cx} {pos:Pos}
noncomputable def Ks(c:TT)(tb:TS):TS:= λ D G H=>∃W:Nat->St->Hp->Prop,(∃m,W m G H)/\∀m G H,W m G H->
 c G H λ b H1=>if b=true then∃N:St->Hp->Prop,(∀C H',N C H'->∃I,I<m/\W I C H')/\tb { D with nx:=N,ct:=N,bk:=D.nx } G H1 else D.nx G H1
theorem Av{tc:TT}{tb:TS}(hp:PassesOwn (model X.prog X.w) X.A X.env X.xe)(hc:PT X c tc)(hb:tx X body tb):PS X (.While c body [] pos) (Ks tc tb):=by intro pins s G H D I h;obtain⟨W,⟨m0,w0⟩,turn⟩:=h;refine wpAny_While (codeAny_whileLoop (λ n s'=>∃U H',Inv X pins U H' s'/\W n U H') ?_ m0 ⟨G,H,I,w0⟩);rintro n s1 ⟨C,H1,I1,w1⟩;refine YA hp (b9 (hc pins s1 C H1 _ I1 (turn n C H1 w1)) λ b s2 ⟨H2,I2,q2⟩=>?_);cases b with
 |true=>obtain⟨N,hN,q2⟩:=q2;refine YA hp (b9 (hb pins s2 C H2 _ I2 q2) λ f s3 q3=>?_);cases f with
  |next=>obtain⟨J,H3,I3,n3⟩:=q3;grind
  |cont=>obtain⟨J,H3,I3,n3⟩:=q3;obtain⟨m',hm,w3⟩:=hN J H3 n3;exact⟨m',hm,J,H3,I3,w3⟩
  |brk=>exact q3
  |ret v=>exact q3
 |false=>exact XJ ⟨C,H2,I2,q2⟩
end
structure It where
 go:Nat->Hp->Prop
 yld:Nat->Hp->V->Hp->Prop
 stop:Nat->Hp->Prop
noncomputable def dj(X:Cx)(pins:List (Addr×Obj))(H:Hp)(b:Addr):Prop:=
 H b=none/\b≠X.env.locals/\b∉X.fs/\(b∈X.ex\/X.s₀.heap.objs.size<=b)/\(∀x c,X.env.cells.lookup x=some c->c≠b)/\∀p∈X.pn++pins,p.1≠b
theorem Inv.fpOk{G:St}{H H':Hp}{s:Shared}{b:Addr}(I:Inv X pins G H s)(C:s.heap.objs.size<=b)(J:H' b=none):dj X pins H' b:=by
 refine⟨J,VI (QK I.lt C),I.nofs C,.inr (Q3 I.sz C),λ x c e z=>?_,λ p U z=>?_⟩;. obtain⟨v,q⟩:=I.cell x c e;exact absurd (QK q.lt (by simp_all)) (QX _)
 .exact absurd (QK (wR (I.pin p U).1) (by rw[z];exact C)) (QX _)
structure Turn (P:Program) (w:World) (K:PySem.W.Frag) (tg:Expr) (J:It) (fp:List Addr) (it:Addr) (tn:Nat->Heap->Prop):Prop where
 mem:it ∈ fp
 obj:∀i h,tn i h->∀b ∈ fp,∃o,h.get? b=some o/\∀v,o.data ≠ .cell v
 keep:∀i h h',tn i h->(∀b ∈ fp,∀o,h.get? b=some o->h'.get? b=some o)->tn i h'
 item:∀(X:Cx),X.prog=P->X.w=w->X.K=K->X.calm=true->∀(i:Nat) (pins:List (Addr × Obj)) (s:Shared) (G:St) (H:Hp) (E:Value->Shared->Prop),Inv X pins G H s->(∀b ∈ fp,dj X pins H b)->tn i s.heap->J.go i H ->
  wpAny (model P w) X.A (pyNext (.ref it)) (fun r s1=>∃u,r=some u /\
   wpAny (model P w) X.A (letOwnedTupleGo tg (.ref it) u) (fun _ s2=>∃x H',Inv X pins G H' s2/\RelV x u/\J.yld i H x H' /\ tn (i + 1) s2.heap/\∀b ∈ fp,H' b=none) E s1) E s
 done:∀(X:Cx),X.prog=P->X.w=w->X.K=K->X.calm=true->∀(i:Nat) (pins:List (Addr × Obj)) (s:Shared) (G:St) (H:Hp) (E:Value->Shared->Prop),Inv X pins G H s->(∀b ∈ fp,dj X pins H b)->tn i s.heap->J.stop i H ->
  wpAny (model P w) X.A (pyNext (.ref it)) (fun r s1=>r=none/\Inv X pins G H s1) E s
 self:∀(A:Around) (i:Nat) (s:Shared) (Q:Value->Shared->Prop) (E:Value->Shared->Prop),tn i s.heap->Q (.ref it) s->wpAny (model P w) A (pyIter (.ref it)) Q E s
noncomputable abbrev TI:=St->Hp->(It->Hp->Prop)->Prop
noncomputable def Qd(X:Cx)(pins:List (Addr×Obj))(G:St)(tg:Expr)(R:It->Hp->Prop)(C:Value)(s2:Shared):Prop:=
 ∃(it:Addr) (fp:List Addr) (I:Nat->Heap->Prop) (J:It) (H':Hp),C= .ref it/\Inv X pins G H' s2/\Turn X.prog X.w X.K tg J fp it I/\I 0 s2.heap/\(∀b∈fp,dj X pins H' b)/\R J H'
noncomputable def PI(X:Cx)(tg iter:Expr)(C:TI):Prop:=
 ∀(pins:List (Addr×Obj))(s:Shared)(G:St)(H:Hp)(R:It->Hp->Prop),Inv X pins G H s->C G H R->
  wpAny (model X.prog X.w) X.A (eval iter X.env) (λ v s1=>wpAny (model X.prog X.w) X.A (pyIter v) (Qd X pins G tg R) X.xe s1) X.xe s
theorem xB{s:Shared}{tg:Expr}{it:Addr}{u:Value}{o:Obj}{n:String}{vs:Array Value}{Q:Unit->Shared->Prop}(I:s.heap.get? it=some o)(J:o.cls= .type n)(hd:o.data= .fields vs)
  (U:["enumerate","zip","dict_itemiterator","dict_reverseitemiterator","odict_iterator","itertools.zip_longest","itertools.pairwise"].contains n=false)(C:Q () s):wpAny M A (letOwnedTupleGo tg (.ref it) u) Q E s:=by cases tg <;> first
  |exact kT C
  |(cases u <;> first
    |exact kT C
    |(refine zN (wpAny_load I ?_);rw[J,hd];show wpAny M A (if(["enumerate","zip","dict_itemiterator","dict_reverseitemiterator","odict_iterator","itertools.zip_longest","itertools.pairwise"].contains n&&vs[0]?==some (rawInt _))=true then _ else _) Q E s;rw[gL (by grind)];exact kT C))
noncomputable def Ob(K:PySem.W.Frag)(a:Addr):It:=
 ⟨λ i H=>∃xs x,iE K H a xs/\xs[i]?=some x,λ i H x H'=>H'=H/\∀xs,iE K H a xs->xs[i]?=some x,λ i H=>∃xs,iE K H a xs/\xs.length<=i⟩
noncomputable def Pj(K:PySem.W.Frag)(a:Addr):It:=
 ⟨λ i H=>∃xs x,fQ K H a xs/\xs[i]?=some x,λ i H x H'=>H'=H/\∀xs,fQ K H a xs->xs[i]?=some x,λ i H=>∃xs,fQ K H a xs/\xs.length<=i⟩
noncomputable def L3(lo:Int)(n:Nat):It:=⟨λ i _=>i<n,λ i H x H'=>H'=H/\x= .int (lo+i),λ i _=>n<=i⟩
theorem oJ{K:PySem.W.Frag}{tg:Expr}(a it:Addr):Turn P w K tg (Ob K a) [it] it (λ i h=>h.IsListIter it a i) where
 mem:=by simp
 obj:= λ i h st b C=>by
  have e:b=it:=by simpa using C
  subst e;obtain⟨o,e,c,d⟩:=st;exact⟨o,e,λ v z=>by rw[d]at z;cases z⟩
 keep:= λ i h h' st k=>st.at λ o e=>k it (by simp) o e
 item:=by intro X hP hw hK hc i pins s G H E I hf st hg;subst hP hw hK;obtain⟨xs,x,U,hx⟩:=hg;obtain⟨its,rv,p,hz⟩:=I.list U;obtain⟨u,hu,ru⟩:=rv.get hx;obtain⟨f0,f1,f2,f3,f4,f5⟩:=hf it (by simp);refine wpAny_pyNext_list_item st p.isList (x:=u) (by simpa using hu) λ h' J sb=>?_;have I1:Inv X pins G H { s with heap:=h' }:=I.turned (t':=s.toks) (λ b o C e=>(sb.2 b C).trans e) f0 f1 f3 f4 f5;obtain⟨o,e,c,d⟩:=id J;exact⟨u,rfl,xB (s:={ s with heap:=h' }) e c d (by decide) ⟨x,H,I1,ru,⟨rfl,λ ys hy=>by rw[I.list_inj hy U];exact hx⟩,J,λ b C=>(hf b C).1⟩⟩
 done:=by intro X hP hw hK hc i pins s G H E I hf st hg;subst hP hw hK;obtain⟨xs,U,hx⟩:=hg;obtain⟨its,rv,p,hz⟩:=I.list U;obtain⟨f0,f1,f2,f3,f4,f5⟩:=hf it (by simp);have hl:=rv.length;exact wpAny_pyNext_list_end (I.ok.hd hc) st p.isList (by simp;omega) λ h' eb=>⟨rfl,I.turned (t':=s.toks) (λ b o C e=>eb b o C e) f0 f1 f3 f4 f5⟩
 self:= λ _ _ _ _ _ st h=>wpAny_pyIter_listiter st h
theorem u5{K:PySem.W.Frag}{tg:Expr}(a it:Addr):Turn P w K tg (Pj K a) [it] it (λ i h=>h.IsTupleIter it a i) where
 mem:=by simp
 obj:= λ i h st b C=>by
  have e:b=it:=by simpa using C
  subst e;obtain⟨o,e,c,d⟩:=st;exact⟨o,e,λ v z=>by rw[d]at z;cases z⟩
 keep:= λ i h h' st k=>st.at λ o e=>k it (by simp) o e
 item:=by intro X hP hw hK hc i pins s G H E I hf st hg;subst hP hw hK;obtain⟨xs,x,U,hx⟩:=hg;obtain⟨its,rv,p,hz⟩:=I.tuple U;obtain⟨u,hu,ru⟩:=rv.get hx;obtain⟨f0,f1,f2,f3,f4,f5⟩:=hf it (by simp);refine wpAny_pyNext_tuple_item st (show s.heap.IsTuple a its.toArray from p) (x:=u) (by simpa using hu) λ h' J sb=>?_;have I1:Inv X pins G H { s with heap:=h' }:=I.turned (t':=s.toks) (λ b o C e=>(sb.2 b C).trans e) f0 f1 f3 f4 f5;obtain⟨o,e,c,d⟩:=id J;exact⟨u,rfl,xB (s:={ s with heap:=h' }) e c d (by decide) ⟨x,H,I1,ru,⟨rfl,λ ys hy=>by rw[I.tuple_inj hy U];exact hx⟩,J,λ b C=>(hf b C).1⟩⟩
 done:=by intro X hP hw hK hc i pins s G H E I hf st hg;subst hP hw hK;obtain⟨xs,U,hx⟩:=hg;obtain⟨its,rv,p,hz⟩:=I.tuple U;obtain⟨f0,f1,f2,f3,f4,f5⟩:=hf it (by simp);have hl:=rv.length;exact wpAny_pyNext_tuple_end (I.ok.hd hc) st (show s.heap.IsTuple a its.toArray from p) (by simp;omega) λ h' eb=>⟨rfl,I.turned (t':=s.toks) (λ b o C e=>eb b o C e) f0 f1 f3 f4 f5⟩
 self:= λ _ _ _ _ _ st h=>wpAny_pyIter_tupleiter st h
theorem tI{K:PySem.W.Frag}{tg:Expr}(it:Addr)(lo:Int)(n:Nat):Turn P w K tg (L3 lo n) [it] it (λ i h=>IsRangeIter h it (lo+i*1) (n-i) 1) where
 mem:=by simp
 obj:= λ i h st b C=>by
  have e:b=it:=by simpa using C
  subst e;exact⟨_,st,λ v z=>by have z':Data.fields _=Data.cell v:=z;cases z'⟩
 keep:= λ i h h' st k=>k it (by simp) _ st
 item:=by intro X hP hw hK U i pins s G H E I hf st hg;subst hP hw hK;obtain⟨f0,f1,f2,f3,f4,f5⟩:=hf it (by simp);have W:=Walks.range (prog:=X.prog) (w:=X.w) (I.ok.hd U) it lo 1 n;refine W.item i s _ _ hg st λ v h' tk hv J kk=>?_;obtain⟨t,rfl⟩:=hv;have I1:Inv X pins G H { s with heap:=h',toks:=tk }:=I.turned (λ b o C e=>kk b o (by simpa using C) e) f0 f1 f3 f4 f5;refine⟨_,rfl,xB (s:={ s with heap:=h',toks:=tk }) (n:="range_iterator") J rfl rfl (by decide) ⟨.int (lo+i),H,I1,⟨t,?_⟩,⟨rfl,rfl⟩,J,λ b C=>(hf b C).1⟩⟩;simp
 done:=by intro X hP hw hK U i pins s G H E I hf st hg;obtain⟨f0,f1,f2,f3,f4,f5⟩:=hf it (by simp);exact wpAny_pyNext_range_end (I.ok.hd U) st (by have:n<=i:=hg;omega) λ h' eb=>⟨rfl,I.turned (t':=s.toks) (λ b o C e=>eb b o C e) f0 f1 f3 f4 f5⟩
 self:= λ _ _ _ _ _ st h=>wpAny_pyIter_rangeiter st h
section
variable {X:Cx} {tg:Expr}
noncomputable def N5(K:PySem.W.Frag)(C:TE):TI:= λ G H R=>C G H λ x H1=>∃a,x= .ref a/\(∃xs,iE K H1 a xs)/\R (Ob K a) H1
theorem Gy(J:PE X l U):PI X tg l (N5 X.K U):=by
 intro pins s G H R I h;refine b9 (J pins s G H _ I h) λ v s1 ⟨x,H1,C,r1,q1⟩=>?_;obtain⟨a,e,⟨xs,hq⟩,q⟩:=q1;subst e;cases r1;obtain⟨its,rv,p,hz⟩:=C.list hq;refine VY p.isList ?_;refine⟨s1.heap.objs.size,[s1.heap.objs.size],_,_,H1,rfl,C.kept (t':=s1.toks) λ b o e=>zS _ e,oJ a _,⟨_,wF _ rfl,rfl,rfl⟩,λ b hb=>?_,q⟩;have e:b=s1.heap.objs.size:=by simp_all
 subst e;exact C.fpOk (wN _) (C.hok.fresh (wN _))
theorem rb{G:St}{H:Hp}{s:Shared}{R:It->Hp->Prop}{E:Value->Shared->Prop}{lo C:Int}{t u v:Tok}{tk:Nat}(I:Inv X pins G H s)(h1: -(2^62)<=lo)(h2:lo<2^62)(U: -(2^62)<=C)(h4:C<2^62)
  (q:R (L3 lo (C-lo).toNat) H):wpAny (model X.prog X.w) X.A (pyIter (.ref s.heap.objs.size)) (Qd X pins G tg R) E { s with heap:=s.heap.push { cls:= .type "range",data:= .fields #[.int lo t,.int C u,.int 1 v] },toks:=tk }:=by
 refine wpAny_pyIter_range (IsRange.new ..) (small_one h1 h2 U h4) ?_;have J:Inv X pins G H { s with heap:=s.heap.push { cls:= .type "range",data:= .fields #[.int lo t,.int C u,.int 1 v] },toks:=tk }:=I.kept λ b o e=>zS _ e;refine⟨(s.heap.push { cls:= .type "range",data:= .fields #[.int lo t,.int C u,.int 1 v] }).objs.size,[(s.heap.push { cls:= .type "range",data:= .fields #[.int lo t,.int C u,.int 1 v] }).objs.size],_,_,H,rfl,
  J.kept (t':=tk) λ b o e=>zS _ e,tI _ lo (C-lo).toNat,?_,λ b hb=>?_,q⟩
 .have e1:lo+((0:Nat):Int)*1=lo:=by simp
  have e2:(((C-lo).toNat:Nat):Int) -((0:Nat):Int)=Builtin.Range.rangeSize lo C 1:=by rw[rangeSize_one];omega
  rw[e1,e2];exact wF _ rfl
 .have e:b=(s.heap.push { cls:= .type "range",data:= .fields #[.int lo t,.int C u,.int 1 v] }).objs.size:=by simpa using hb
  subst e;exact J.fpOk (wN _) (J.hok.fresh (wN _))
noncomputable def N0(ta:TA):TI:= λ G H R=>ta G H λ vs H1=>∃j:Int,vs=[.int j]/\ -(2^62)<=j/\j<2^62/\R (L3 0 j.toNat) H1
noncomputable def Mh(ta:TA):TI:= λ G H R=>ta G H λ vs H1=>∃i j:Int,vs=[.int i,.int j]/\(-(2^62)<=i/\i<2^62/\ -(2^62)<=j/\j<2^62)/\R (L3 i (j-i).toNat) H1
theorem xW {a:Expr} {ta:TA} {p pos:Pos} (hg:Gl X "range") (hm:X.mg "range" = none) (ha:PA X [a] ta) (hs:autoParam (starEach [a] X.env=[(false,eval a X.env)]) aQ0._auto_1):PI X tg (.Call (.Name "range" p) [a] [] pos) (N0 ta):= by
 intro pins s G H R I h
 refine Call_ (fv I hg hm boot_range (ZN (b9 (ha pos pins s G H _ I h) fun us s1 ⟨vs,H1,I1,r1,q1⟩=>?_) hs rfl))
 obtain ⟨j,e,q1,q2,q⟩:=q1
 subst e
 cases r1 with
 | cons r rr=>
  cases rr
  obtain ⟨t,rfl⟩:=r
  exact call_range_1 (rb I1 (by omega) (by omega) q1 q2 (by simpa using q))
theorem y0 {a b:Expr} {ta:TA} {p pos:Pos} (hg:Gl X "range") (hm:X.mg "range" = none) (ha:PA X [a,b] ta) (hs:autoParam (starEach [a,b] X.env=[(false,eval a X.env),(false,eval b X.env)]) aQ0._auto_1) (hs2:autoParam (starEach [b] X.env=[(false,eval b X.env)]) aQ0._auto_1) :
  PI X tg (.Call (.Name "range" p) [a,b] [] pos) (Mh ta):= by
 intro pins s G H R I h
 refine Call_ (fv I hg hm boot_range (ZN (b9 (ha pos pins s G H _ I h) fun us s1 ⟨vs,H1,I1,r1,q1⟩=>?_) (by rw [hs,hs2]) (by rw [hs2];rfl)))
 obtain ⟨i,j,e,⟨q1,q2,q3,q4⟩,q⟩:=q1
 subst e
 cases r1 with
 | cons r rr=>
  cases rr with
  | cons r' rr=>
   cases rr
   obtain ⟨t,rfl⟩:=r
   obtain ⟨t',rfl⟩:=r'
   exact call_range_2 (rb I1 q1 q2 q3 q4 q)
noncomputable def O4(wi:TI)(g:TG)(tb:TS):TS:= λ D G H=>wi G H λ J H1=>∃W:Nat->Nat->St->Hp->Prop,(∃m,W 0 m G H1)/\∀i m G H,W i m G H->
 (J.stop i H/\D.nx G H)\/(J.go i H/\∃N:St->Hp->Prop,(∀C H',N C H'->∃U,U<m/\W (i+1) U C H')/\∀x H',J.yld i H x H'->g x G H' λ I H2=>tb { D with nx:=N,ct:=N,bk:=D.nx } I H2)
noncomputable def iX(fp:List Addr)(h:Heap):List (Addr×Obj):=fp.filterMap λ b=>(h.get? b).map λ o=>(b,o)
theorem cq{b:Addr}{o:Obj}(C:b∈fp)(e:h.get? b=some o):(b,o)∈iX fp h:=YS.mpr ⟨b,C,by grind⟩
theorem xT(C:p∈iX fp h):p.1∈fp/\h.get? p.1=some p.2:=by obtain⟨b,I,e⟩:=YS.mp C;cases q:h.get? b with
 |none=>grind
 |some o=>grind
theorem Inv.pinned{G:St}{H:Hp}{s:Shared}{fp:List Addr}(I:Inv X pins G H s)(hf:∀b∈fp,dj X pins H b)(U:∀b∈fp,∃o,s.heap.get? b=some o/\∀v,o.data≠ .cell v):Inv X (pins++iX fp s.heap) G H s:=
 I.pins_of λ p C=>(fD.mp C).elim (λ z=>I.pin p (xZ _ z)) λ z=>by obtain⟨J,e⟩:=xT z;obtain⟨f0,f1,f2,_⟩:=hf p.1 J;grind
theorem Inv.unpinned{G:St}{H:Hp}{s:Shared}(I:Inv X (pins++pl) G H s):Inv X pins G H s:=I.pins_of λ p C=>I.pin p (xZ _ (ZL _ C))
theorem JY{wi:TI}{g:TG}{tb:TS}{pos:Pos}(hp:PassesOwn (model X.prog X.w) X.A X.env X.xe)(hc:X.calm=true)(hi:PI X tg iter wi)(hg:PG X tg g)(U:tx X body tb)
  (hs:∀x,foldedSetIterable iter X.env x=pure x:=by intro _;rfl):PS X (.For tg iter body [] pos) (O4 wi g tb):=by
 intro pins s G H D I h;refine wpAny_For (b9 (hi pins s G H _ I h) λ v s1 h1=>b9 h1 λ aq s2 h2=>?_) hs;obtain⟨it,fp,tn,J,H2,e,I2,T,ai,f2,W,⟨m0,w0⟩,turn⟩:=h2;subst e
 have aa:∀{H':Hp},(∀b∈fp,H' b=none)->∀b∈fp,dj X pins H' b:= λ hn b U=>⟨hn b U,(f2 b U).2⟩;refine codeAny_forLoop_any (λ n s'=>∃i ab H',Inv X pins ab H' s'/\tn i s'.heap/\(∀b∈fp,H' b=none)/\W i n ab H') ?_ m0 ⟨0,G,H2,I2,ai,λ b U=>(f2 b U).1,w0⟩;rintro n s3 ⟨i,ae,H3,I3,ag,ah,w3⟩;rcases turn i n ae H3 w3 with⟨stop,qn⟩|⟨go,N,hN,step⟩
 .refine YA hp (b9 (T.done X rfl rfl rfl hc i pins s3 ae H3 X.xe I3 (aa ah) ag stop) λ r s4 ⟨hr,I4⟩=>?_);subst hr;exact XJ ⟨ae,H3,I4,qn⟩
 .refine YA hp (b9 (T.item X rfl rfl rfl hc i pins s3 ae H3 X.xe I3 (aa ah) ag go) λ r s4 ⟨u,hr,h4⟩=>?_);subst hr;refine YA hp (b9 h4 λ _ s5 ⟨x,H5,I5,r5,y5,af,aj⟩=>?_);have ak:=I5.pinned (aa aj) (T.obj _ _ af);refine YA hp (b9 (hg _ s5 ae H5 x u _ ak r5 (step x H5 y5)) λ _ s6 ⟨ao,H6,I6,q6⟩=>?_);refine YA hp (b9 (U _ s6 ao H6 _ I6 q6) λ f s7 q7=>?_);have again:∀{C:St}{H7:Hp},Inv X (pins++iX fp s5.heap) C H7 s7->N C H7->∃m,m<n/\∃i ab H',Inv X pins ab H' s7/\tn i s7.heap/\(∀b∈fp,H' b=none)/\W i m ab H':= λ{C H7} I7 n7=>by obtain⟨m',hm,w7⟩:=hN C H7 n7;refine⟨m',hm,i+1,C,H7,I7.unpinned,T.keep _ _ _ af λ b U o e=>(I7.pin (b,o) (xZ _ (xZ _ (cq U e)))).1,λ b U=>?_,w7⟩;obtain⟨o,e,d⟩:=T.obj _ _ af b U;exact(I7.pin (b,o) (xZ _ (xZ _ (cq U e)))).2.1
  cases f with
  |next=>obtain⟨C,H7,I7,n7⟩:=q7;exact again I7 n7
  |cont=>obtain⟨C,H7,I7,n7⟩:=q7;exact again I7 n7
  |brk=>obtain⟨C,H7,I7,q7⟩:=q7;exact⟨C,H7,I7.unpinned,q7⟩
  |ret v=>obtain⟨x7,C,H7,I7,r7,q7⟩:=q7;exact⟨x7,C,H7,I7.unpinned,r7,q7⟩
end
noncomputable abbrev R2:=V->V->Hp->VK->Prop
noncomputable def ij(X:Cx)(f:Value->Value->Sem Value)(r:R2):Prop:=
 ∀(pins:List (Addr×Obj))(s:Shared)(G:St)(H:Hp)(x y:V)(v u:Value)(Q:VK),Inv X pins G H s->RelV x v->RelV y u->r x y H Q->
  wpAny (model X.prog X.w) X.A (f v u) (EP X pins G Q) X.xe s
noncomputable def OW(X:Cx)(f:Value->Sem Value)(r:V->Hp->VK->Prop):Prop:=
 ∀(pins:List (Addr×Obj))(s:Shared)(G:St)(H:Hp)(x:V)(v:Value)(Q:VK),Inv X pins G H s->RelV x v->r x H Q->
  wpAny (model X.prog X.w) X.A (f v) (EP X pins G Q) X.xe s
noncomputable def c6(X:Cx)(f:Value)(r:List V->Hp->VK->Prop):Prop:=
 ∀(pins:List (Addr×Obj))(s:Shared)(G:St)(H:Hp)(xs:List V)(us:List Value)(Q:VK),Inv X pins G H s->Vals xs us->r xs H Q->
  wpAny (model X.prog X.w) X.A (call f us) (EP X pins G Q) X.xe s
noncomputable def OX(X:Cx)(r:V->Hp->(Bool->Hp->Prop)->Prop):Prop:=
 ∀(pins:List (Addr×Obj))(s:Shared)(G:St)(H:Hp)(x:V)(v:Value)(Q:Bool->Hp->Prop),Inv X pins G H s->RelV x v->r x H Q->
  wpAny (model X.prog X.w) X.A (truthy v) (TP X pins G Q) X.xe s
noncomputable def HK(r:R2)(ta tb:TE):TE:= λ G H Q=>ta G H λ x H1=>tb G H1 λ y H2=>r x y H2 Q
noncomputable def QA(r:V->Hp->VK->Prop)(ta:TE):TE:= λ G H Q=>ta G H λ x H1=>r x H1 Q
noncomputable def rI(C:Int->Int->Prop)(g:Int->Int->V):R2:= λ x y H Q=>∃i j,x= .int i/\y= .int j/\C i j/\Q (g i j) H
noncomputable def y_(g:Int->Int->V):R2:= λ x y H Q=>∃i j,x= .int i/\y= .int j/\Q (g i j) H
noncomputable def rU(g:Int->V):V->Hp->VK->Prop:= λ x H Q=>∃i,x= .int i/\Q (g i) H
section
variable {X:Cx} {a b:Expr} {ta tb:TE} {pos:Pos}
theorem J5(U:PE X a ta)(hb:PE X b tb){pins:List (Addr×Obj)}{s:Shared}{G:St}{H:Hp}{R:V->V->Hp->Prop}(I:Inv X pins G H s)
  (h:ta G H λ x H1=>tb G H1 λ y H2=>R x y H2){Q:Value->Shared->Prop}{f:Value->Value->Sem Value}
  (hf:∀v u s2 x y H2,Inv X pins G H2 s2->RelV x v->RelV y u->R x y H2->wpAny (model X.prog X.w) X.A (f v u) Q X.xe s2):
  wpAny (model X.prog X.w) X.A (eval a X.env) (λ v C=>wpAny (model X.prog X.w) X.A (eval b X.env) (λ u J=>wpAny (model X.prog X.w) X.A (f v u) Q X.xe J) X.xe C) X.xe s:=by refine b9 (U pins s G H _ I h) λ v s1 ⟨x,H1,I1,r1,q1⟩=>?_;refine b9 (hb pins s1 G H1 _ I1 q1) λ u s2 ⟨y,H2,I2,r2,q2⟩=>?_;grind
theorem Ht(C:ij X (binaryOp op) r)(J:PE X a ta)(U:PE X b tb):PE X (.BinOp a op b pos) (HK r ta tb):=by intro pins s G H Q I h;exact wpAny_BinOp (J5 J U I h λ v u s2 x y H2 I2 rx ry q=>C pins s2 G H2 x y v u Q I2 rx ry q)
theorem Nv(C:OW X (unaryOp op) r)(J:PE X a ta):PE X (.UnaryOp op a pos) (QA r ta):=by intro pins s G H Q I h;exact UnaryOp_ (b9 (J pins s G H _ I h) λ v s1 ⟨x,H1,U,r1,q1⟩=>C pins s1 G H1 x v Q U r1 q1)
theorem O2{C:Int->Int->Prop}{g:Int->Int->Int}
  (rule:∀(i j:Int)(t u:Tok)(s:Shared)(Q:Value->Shared->Prop)(E:Value->Shared->Prop),C i j->Q (.int (g i j) s.toks) { s with toks:=s.toks+1 }->wpAny (model X.prog X.w) X.A (f (.int i t) (.int j u)) Q E s):
  ij X f (rI C λ i j=> .int (g i j)):=by intro pins s G H x y v u Q I J U h;obtain⟨i,j,rfl,rfl,hc,q⟩:=h;obtain⟨t,rfl⟩:=J;obtain⟨t',rfl⟩:=U;exact rule i j t t' s _ _ hc ⟨.int (g i j),H,I.tok _,⟨_,rfl⟩,q⟩
theorem Ni{g:Int->Int->Int}
  (rule:∀(i j:Int)(t u:Tok)(s:Shared)(Q:Value->Shared->Prop)(E:Value->Shared->Prop),Q (.int (g i j) s.toks) { s with toks:=s.toks+1 }->wpAny (model X.prog X.w) X.A (f (.int i t) (.int j u)) Q E s):
  ij X f (y_ λ i j=> .int (g i j)):=by intro pins s G H x y v u Q I C J h;obtain⟨i,j,rfl,rfl,q⟩:=h;obtain⟨t,rfl⟩:=C;obtain⟨t',rfl⟩:=J;exact rule i j t t' s _ _ ⟨.int (g i j),H,I.tok _,⟨_,rfl⟩,q⟩
theorem Ek{g:Int->Int->Bool}
  (rule:∀(i j:Int)(t u:Tok)(s:Shared)(Q:Value->Shared->Prop)(E:Value->Shared->Prop),Q (.bool (g i j)) s->wpAny (model X.prog X.w) X.A (f (.int i t) (.int j u)) Q E s):
  ij X f (y_ λ i j=> .bl (g i j)):=by intro pins s G H x y v u Q I C J h;obtain⟨i,j,rfl,rfl,q⟩:=h;obtain⟨t,rfl⟩:=C;obtain⟨t',rfl⟩:=J;exact rule i j t t' s _ _ ⟨.bl (g i j),H,I,rfl,q⟩
noncomputable def OU(i j:Int):Prop:=0<j/\j<1073741824
noncomputable def Ke(i j:Int):Prop:=(-(2^64)<i/\i<2^64)\/(-(2^64)<j/\j<2^64)
theorem Ke.ok(h:Ke i j):IntMulOk i j:=by
 rcases h with⟨h1,h2⟩|⟨h1,h2⟩
 .exact .of_left (intBits_le_64 h1 h2)
 .exact .of_right (intBits_le_64 h1 h2)
theorem Kv:ij X (binaryOp .Add) (y_ fun i j=>.int (i + j)):=Ni fun _ _ _ _ _ _ _ q=>add_int q
theorem Jh:ij X (binaryOp .Sub) (y_ fun i j=>.int (i - j)):=Ni fun _ _ _ _ _ _ _ q=>sub_int q
theorem K0:ij X (binaryOp .Mult) (rI Ke fun i j=>.int (i * j)):=O2 fun _ _ _ _ _ _ _ hc q=>mul_int q hc.ok
theorem Gi:ij X (binaryOp .FloorDiv) (rI OU fun i j=>.int (i / j)):=O2 fun i j _ _ _ _ _ hc q=>by
 have h1:(0:Int) < j:=hc.1
 have h2:j < 1073741824:=hc.2
 exact floordiv_int (by omega) (by grind) (.inl (PyProof.noPylong_small (by omega)))
theorem KJ:ij X (binaryOp .Mod) (rI (fun _ j=>0 < j) fun i j=>.int (i % j)):=O2 fun i j _ _ _ _ _ hc q=>by
 have h1:(0:Int) < j:=hc
 exact mod_int' (by omega) (by grind)
theorem Qy{g:Int->Int}
  (rule:∀(i:Int)(t:Tok)(s:Shared)(Q:Value->Shared->Prop)(E:Value->Shared->Prop),Q (.int (g i) s.toks) { s with toks:=s.toks+1 }->wpAny (model X.prog X.w) X.A (f (.int i t)) Q E s):
  OW X f (rU λ i=> .int (g i)):=by intro pins s G H x v Q I C h;obtain⟨i,rfl,q⟩:=h;obtain⟨t,rfl⟩:=C;exact rule i t s _ _ ⟨.int (g i),H,I.tok _,⟨_,rfl⟩,q⟩
theorem K9:OW X (unaryOp .USub) (rU fun i=>.int (-i)):=Qy fun _ _ _ _ _ q=>neg_int q
end
noncomputable def mN:V->V->Bool
 | .non,.non=>true| .non,.int _=>true| .int _,.non=>true| .non,.bl _=>true| .bl _,.non=>true| .non,.str _=>true| .str _,.non=>true
 | .int _,.int _=>true| .bl _,.bl _=>true| .str _,.str _=>true| .byt _,.byt _=>true
 | .int _,.str _=>true| .str _,.int _=>true| .bl _,.str _=>true| .str _,.bl _=>true
 |_,_=>false
noncomputable def OZ:R2:= λ x y H Q=>mN x y=true/\Q (.bl (decide (x=y))) H
noncomputable def O9:R2:= λ x y H Q=>mN x y=true/\Q (.bl (!decide (x=y))) H
theorem wx:decide (V.int i=V.int j)=(i==j):=by grind
theorem zE:decide (V.bl i=V.bl j)=(i==j):=by grind
theorem xC:decide (V.str i=V.str j)=(i==j):=by grind
theorem xi:decide (V.byt i=V.byt j)=(i.toList==j.toList):=by rw[Z0];simp
section
variable {X:Cx} {a b c:Expr} {ta tb tc:TE} {pos:Pos}
theorem bG{G:St}{H:Hp}{s:Shared}{Q:VK}{k C:Bool}(I:Inv X pins G H s)(q:Q (.bl k) H)(e:k=C):EP X pins G Q (.bool C) s:=by subst e;exact⟨.bl k,H,I,rfl,q⟩
theorem Dw:ij X (compareOp .Eq) OZ:= by
 intro pins s G H x y v u Q I rx ry h
 obtain ⟨hs,q⟩:=h
 cases x with
 | non=>
  cases rx
  cases y with
  | non=>cases ry;exact PySem.EqNone.eq_none_none (bG I q (by simp))
  | bl j=>cases ry;exact PySem.EqNone.eq_none_bool (bG I q (by simp))
  | int j=>obtain ⟨t',rfl⟩:=ry;exact PySem.EqNone.eq_none_int (bG I q (by simp))
  | str j=>obtain ⟨t',rfl⟩:=ry;exact PySem.EqNone.eq_none_str (bG I q (by simp))
  | _=>exact absurd (show false=true from hs) uS
 | bl i=>
  cases rx
  cases y with
  | non=>cases ry;exact PySem.EqNone.eq_bool_none (bG I q (by simp))
  | bl j=>cases ry;exact eq_bool (bG I q zE)
  | str j=>obtain ⟨t',rfl⟩:=ry;exact PySem.EqMixed.eq_bool_str (bG I q (by simp))
  | _=>exact absurd (show false=true from hs) uS
 | int i=>
  obtain ⟨t,rfl⟩:=rx
  cases y with
  | non=>cases ry;exact PySem.EqNone.eq_int_none (bG I q (by simp))
  | int j=>obtain ⟨t',rfl⟩:=ry;exact eq_int (bG I q wx)
  | str j=>obtain ⟨t',rfl⟩:=ry;exact PySem.EqMixed.eq_int_str (bG I q (by simp))
  | _=>exact absurd (show false=true from hs) uS
 | str i=>
  obtain ⟨t,rfl⟩:=rx
  cases y with
  | non=>cases ry;exact PySem.EqNone.eq_str_none (bG I q (by simp))
  | bl j=>cases ry;exact PySem.EqMixed.eq_str_bool (bG I q (by simp))
  | int j=>obtain ⟨t',rfl⟩:=ry;exact PySem.EqMixed.eq_str_int (bG I q (by simp))
  | str j=>obtain ⟨t',rfl⟩:=ry;exact eq_str (bG I q xC)
  | _=>exact absurd (show false=true from hs) uS
 | byt i=>
  obtain ⟨t,rfl⟩:=rx
  cases y with
  | byt j=>obtain ⟨t',rfl⟩:=ry;exact PySem.W.eq_bytes (bG I q xi)
  | _=>exact absurd (show false=true from hs) uS
 | _=>cases y <;> exact absurd (show false=true from hs) uS
theorem Ja:ij X (compareOp .NotEq) O9:= by
 intro pins s G H x y v u Q I rx ry h
 obtain ⟨hs,q⟩:=h
 cases x with
 | non=>
  cases rx
  cases y with
  | non=>cases ry;exact PySem.EqNone.ne_none_none (bG I q (by simp))
  | bl j=>cases ry;exact PySem.EqNone.ne_none_bool (bG I q (by simp))
  | int j=>obtain ⟨t',rfl⟩:=ry;exact PySem.EqNone.ne_none_int (bG I q (by simp))
  | str j=>obtain ⟨t',rfl⟩:=ry;exact PySem.EqNone.ne_none_str (bG I q (by simp))
  | _=>exact absurd (show false=true from hs) uS
 | bl i=>
  cases rx
  cases y with
  | non=>cases ry;exact PySem.EqNone.ne_bool_none (bG I q (by simp))
  | bl j=>cases ry;exact ne_bool (bG I q (ZO not zE))
  | str j=>obtain ⟨t',rfl⟩:=ry;exact PySem.EqMixed.ne_bool_str (bG I q (by simp))
  | _=>exact absurd (show false=true from hs) uS
 | int i=>
  obtain ⟨t,rfl⟩:=rx
  cases y with
  | non=>cases ry;exact PySem.EqNone.ne_int_none (bG I q (by simp))
  | int j=>obtain ⟨t',rfl⟩:=ry;exact ne_int (bG I q (ZO not wx))
  | str j=>obtain ⟨t',rfl⟩:=ry;exact PySem.EqMixed.ne_int_str (bG I q (by simp))
  | _=>exact absurd (show false=true from hs) uS
 | str i=>
  obtain ⟨t,rfl⟩:=rx
  cases y with
  | non=>cases ry;exact PySem.EqNone.ne_str_none (bG I q (by simp))
  | bl j=>cases ry;exact PySem.EqMixed.ne_str_bool (bG I q (by simp))
  | int j=>obtain ⟨t',rfl⟩:=ry;exact PySem.EqMixed.ne_str_int (bG I q (by simp))
  | str j=>obtain ⟨t',rfl⟩:=ry;exact ne_str (bG I q (ZO not xC))
  | _=>exact absurd (show false=true from hs) uS
 | byt i=>
  obtain ⟨t,rfl⟩:=rx
  cases y with
  | byt j=>obtain ⟨t',rfl⟩:=ry;exact PySem.W.ne_bytes (bG I q (ZO not xi))
  | _=>exact absurd (show false=true from hs) uS
 | _=>cases y <;> exact absurd (show false=true from hs) uS
theorem w9:ij X (compareOp .Lt) (y_ fun i j=>.bl (decide (i < j))):=Ek fun _ _ _ _ _ _ _ q=>lt_int q
theorem M4:ij X (compareOp .LtE) (y_ fun i j=>.bl (decide (i ≤ j))):=Ek fun _ _ _ _ _ _ _ q=>le_int q
theorem NC:ij X (compareOp .Gt) (y_ fun i j=>.bl (decide (j < i))):=Ek fun _ _ _ _ _ _ _ q=>gt_int q
theorem M6:ij X (compareOp .GtE) (y_ fun i j=>.bl (decide (j ≤ i))):=Ek fun _ _ _ _ _ _ _ q=>ge_int q
theorem JC:ij X (compareOp .Is) (λ x y H Q=>y= .non/\Q (.bl (decide (x= .non))) H):=by intro pins s G H x y v u Q I C J h;obtain⟨rfl,q⟩:=h;cases J;refine is_none_gen (bG I q ?_);cases x <;> first
  |rfl
  |(obtain⟨t,rfl⟩:=C;rfl)
theorem FU:ij X (compareOp .IsNot) (λ x y H Q=>y= .non/\Q (.bl (!decide (x= .non))) H):=by intro pins s G H x y v u Q I C J h;obtain⟨rfl,q⟩:=h;cases J;refine isnot_none_gen (bG I q ?_);cases x <;> first
  |rfl
  |(obtain⟨t,rfl⟩:=C;rfl)
theorem tP(b:Expr){op:CmpOp}(h:autoParam (op≠ .In) aQ1._auto_1)(h2:autoParam (op≠ .NotIn) aQ1._auto_1):behindInMarks op b=false:=by
 have C:(op==CmpOp.In)=false:=by simp_all
 have I:(op==CmpOp.NotIn)=false:=by simp_all
 cases b <;> simp[behindInMarks,C,I]
theorem D1(C:ij X (compareOp op) r)(J:PE X a ta)(U:PE X b tb)(hm:behindInMarks op b=false):PE X (.Compare a [op] [b] pos) (HK r ta tb):=by intro pins s G H Q I h;exact wpAny_Compare1 (J5 J U I h λ v u s2 x y H2 I2 rx ry q=>C pins s2 G H2 x y v u Q I2 rx ry q) hm
noncomputable def HA(t:TE):TT:= λ G H Q=>t G H λ x H'=>∃k,x= .bl k/\Q k H'
theorem vE(C:ij X (compareOp op) r)(J:PE X a ta)(U:PE X b tb)(hm:behindInMarks op b=false):PT X (.Compare a [op] [b] pos) (HA (HK r ta tb)):=by
 intro pins s G H Q I h;refine wpAny_isTrue_Compare1 (b9 (J pins s G H _ I h) λ v s1 ⟨x,H1,I1,r1,q1⟩=>b9 (U pins s1 G H1 _ I1 q1) λ u s2 ⟨y,H2,I2,r2,q2⟩=>
  b9 (C pins s2 G H2 x y v u _ I2 r1 r2 q2) λ c s3 ⟨z,H3,I3,r3,k,e,q3⟩=>?_) hm;subst e;cases r3;exact V1 ⟨H3,I3,q3⟩
noncomputable def JO(r I:R2)(ta tb tc:TE):TE:= λ G H Q=>ta G H λ x H1=>tb G H1 λ y H2=>r x y H2 λ z C=>∃k,z= .bl k/\
 (if k=true then tc G C λ J U=>I y J U Q else Q (.bl false) C)
theorem zQ{r U:R2}(ho:ij X (compareOp op) r)(J:ij X (compareOp C) U)(ha:PE X a ta)(hb:PE X b tb)(hc:PE X c tc)
  (hm:autoParam (lastMarks [op,C] [b,c]=false) aQ4._auto_1):PE X (.Compare a [op,C] [b,c] pos) (JO r U ta tb tc):=by
 intro pins s G H Q I h;refine Compare_chain (b9 (ha pins s G H _ I h) λ v s1 ⟨x,H1,I1,r1,q1⟩=>chain_link (b9 (hb pins s1 G H1 _ I1 q1) λ u s2 ⟨y,H2,I2,r2,q2⟩=>
  b9 (ho pins s2 G H2 x y v u _ I2 r1 r2 q2) λ d s3 ⟨z,H3,I3,r3,k,e,q3⟩=>?_)) hm;subst e;cases r3;refine V1 ?_;cases k with
 |false=>exact ite_ff ⟨.bl false,H3,I3,rfl,q3⟩
 |true=>exact ite_tt (chain_last (b9 (hc pins s3 G H3 _ I3 q3) λ w' s4 ⟨z',H4,I4,r4,q4⟩=>J pins s4 G H4 y z' u w' Q I4 r2 r4 q4))
noncomputable def JL(K:PySem.W.Frag)(x:V)(H:Hp)(k:Bool):Prop:=
 match x with
 | .non=>k=false
 | .bl b=>k=b
 | .int i=>k=(i !=0)
 | .str y=>y.length<=sizeLine/\k=((y.length:Int)!=0)
 | .byt y=>y.size<=sizeLine/\k=((y.size:Int)!=0)
 | .ref p=>(∃xs,iE K H p xs/\k= !xs.isEmpty)\/(∃xs,fQ K H p xs/\k= !xs.isEmpty)\/ ∃kvs,H p=some (.dK kvs)/\k= !kvs.isEmpty
 |_=>False
theorem uI(r:KV kvs vs):(!vs.isEmpty)= !kvs.isEmpty:=by cases r <;> rfl
theorem my(r:Vals xs its):(!its.toArray.isEmpty)= !xs.isEmpty:=by cases r <;> simp
theorem jC:sizeLine<2^63:=by decide
theorem CP:OX X (fun x H Q=>∃k,JL X.K x H k/\Q k H):= by
 intro pins s G H x v Q I rx h
 obtain ⟨k,e,q⟩:=h
 have hl:=jC
 have hs:sizeLine=16777216:=ZW
 cases x with
 | non=>
  cases rx
  have e':k=false:=e
  subst e'
  exact truthy_none ⟨H,I,q⟩
 | bl b=>
  cases rx
  have e':k=b:=e
  subst e'
  exact V1 ⟨H,I,q⟩
 | int i=>
  obtain ⟨t,rfl⟩:=rx
  have e':k=(i != 0):=e
  subst e'
  exact PySem.P.truthy_int ⟨H,I,q⟩
 | str y=>
  obtain ⟨t,rfl⟩:=rx
  obtain ⟨hy,e'⟩:y.length ≤ sizeLine/\k=((y.length:Int) != 0):=e
  subst e'
  exact PySem.P.truthy_str (by omega) ⟨H,I.tok _,q⟩
 | byt y=>
  obtain ⟨t,rfl⟩:=rx
  obtain ⟨hy,e'⟩:y.size ≤ sizeLine/\k=((y.size:Int) != 0):=e
  subst e'
  exact PySem.W.truthy_bytes (by omega) ⟨H,I.tok _,q⟩
 | ref p=>
  cases rx
  have e':(∃xs,iE X.K H p xs/\k = !xs.isEmpty) ∨ (∃xs,fQ X.K H p xs/\k = !xs.isEmpty) ∨ ∃kvs,H p=some (.dK kvs)/\k = !kvs.isEmpty:=e
  rcases e' with ⟨xs,hx,e'⟩ | ⟨xs,hx,e'⟩ | ⟨kvs,hx,e'⟩
  .subst e'
   obtain ⟨its,r,pl,hz⟩:=I.list hx
   have hlen:=r.length
   exact wpAny_truthy_list pl.isList (by simp only [xS];omega) ⟨H,I.tok _,by rw [my r];exact q⟩
  .subst e'
   obtain ⟨its,r,pl,hz⟩:=I.tuple hx
   have hlen:=r.length
   exact truthy_tuple pl (by simp only [xS];omega) ⟨H,I.tok _,by rw [my r];exact q⟩
  .subst e'
   obtain ⟨hz,hS,vs,r,m⟩:kvs.length ≤ sizeLine/\(p == sysModules)=false/\∃vs,KV kvs vs/\s.heap.DictOf (cC X.prog X.w) p vs:=I.hok p _ hx
   have hlen:kvs.length=vs.length:=XF r
   exact wpAny_truthy_dict hS m (by omega) ⟨H,I.tok _,by rw [uI r];exact q⟩
 | _=>exact (show False from e).elim
theorem Cv(C:PE X a ta)(he:∀whole,isTrue a X.env whole=(do let v<- whole;standAt a.pos;holding [v] (truthy v))):
  PT X a (λ G H Q=>ta G H λ x H'=>∃k,JL X.K x H' k/\Q k H'):=by intro pins s G H Q I h;exact isTrue_plain (b9 (C pins s G H _ I h) λ v s1 ⟨x,H1,J,U,q1⟩=>CP pins s1 G H1 x v Q J U q1) (he _)
theorem vals1(r:Vals [x] us):∃u,us=[u]/\RelV x u:=by cases r with
 |cons I C=>cases C;grind
theorem vals2(r:Vals [x,y] us):∃u C,us=[u,C]/\RelV x u/\RelV y C:=by cases r with
 |cons U I=>cases I with
  |cons r3 J=>cases J;grind
theorem yq(J:X.calm=true):c6 X (.builtin "max") (λ xs H Q=>∃i j,xs=[.int i,.int j]/\Q (.int (if j>i then j else i)) H):=by
 intro pins s G H xs us Q I r h;obtain⟨i,j,rfl,q⟩:=h;obtain⟨u,U,rfl,⟨t,rfl⟩,⟨t',rfl⟩⟩:=vals2 r;refine max_two_ints (I.ok.hd J) λ h' tk k=>⟨_,H,I.kept k,?_,q⟩;by_cases C:j>i;. rw[gA C,gA C];exact⟨_,rfl⟩
 .rw[gL C,gL C];exact⟨_,rfl⟩
theorem xJ(J:X.calm=true):c6 X (.builtin "min") (λ xs H Q=>∃i j,xs=[.int i,.int j]/\Q (.int (if j<i then j else i)) H):=by
 intro pins s G H xs us Q I r h;obtain⟨i,j,rfl,q⟩:=h;obtain⟨u,U,rfl,⟨t,rfl⟩,⟨t',rfl⟩⟩:=vals2 r;refine min_two_ints (I.ok.hd J) λ h' tk k=>⟨_,H,I.kept k,?_,q⟩;by_cases C:j<i;. rw[gA C,gA C];exact⟨_,rfl⟩
 .rw[gL C,gL C];exact⟨_,rfl⟩
end
theorem RelO.some_of(r:RelO (some v) o):∃u,o=some u/\RelV v u:=by cases o with
 |none=>exact(show False from r).elim
 |some u=>exact⟨u,rfl,r⟩
structure Nd (K:PySem.W.Frag) (C:Addr) (f:Str) (v:V) (u:Value):Prop where
 at_:PySem.W.findIn K (.ref C) f=some (some u)
 rel:RelV v u
 get:PySem.W.specialIn K u "__get__" = some none
 cp:PySem.W.copiedNames.contains f=false
structure cb (k:Nat) (A:Around):Prop where
 hd:A.handled=none
 dp:A.depth + 3 * k + 5 < recursionLimit
 un:A.units + 16 * k + 200 < cLine
 gd:A.guards=some []
theorem cb.mono{j k:Nat}{A:Around}(r:cb k A)(h:j<=k):cb j A:=⟨r.hd,by have:=r.dp;omega,by have:=r.un;omega,r.gd⟩
theorem cb.deeper(r:cb (k+1) A)(env:Env):cb k (A.deeper env):=
 ⟨r.hd,by have:=r.dp;show A.depth+1+3*k+5<_;omega,by have:=r.un;show A.units+3+16*k+200<_;omega,r.gd⟩
theorem cb.depth(r:cb k A):A.depth<recursionLimit:=by have:=r.dp;omega
noncomputable def O7:TA:= λ _ H Q=>Q [] H
noncomputable def Mb(ta:TE)(I:TA):TA:= λ G H Q=>ta G H λ x H1=>I G H1 λ xs H2=>Q (x::xs) H2
section
variable {X:Cx} {e:Expr} {es:List Expr} {te:TE} {t:TA} {pos:Pos}
theorem dF:PA X [] O7:= λ _ _ _ _ H Q I h=>Calls.spliced_nil ⟨[],H,I,.nil,h⟩
theorem cN(J:PE X e te)(U:PA X es t)(hs:autoParam (starEach (e::es) X.env=(false,eval e X.env)::starEach es X.env) aQ0._auto_1):PA X (e::es) (Mb te t):=by intro pos pins s G H Q I h;rw[hs];show wpAny _ _ (spliced ((false,eval e X.env)::backTo pos (starEach es X.env))) _ _ s;refine Calls.spliced_cons (b9 (J pins s G H _ I h) λ u s1 ⟨x,H1,I1,r1,q1⟩=>?_);exact b9 (U pos pins s1 G H1 _ I1 q1) λ us s2 ⟨xs,H2,I2,r2,q2⟩=>⟨x::xs,H2,I2,.cons r1 r2,q2⟩
noncomputable def OH(t:TA):TE:= λ G H Q=>t G H λ xs H1=>xs.length<=sizeLine/\∀p,H1 p=none->Q (.ref p) (upd H1 p (.tup xs))
noncomputable def O8(t:TA):TE:= λ G H Q=>t G H λ xs H1=>xs.length<=sizeLine/\∀p,H1 p=none->Q (.ref p) (upd H1 p (.lst xs))
theorem KG(h:PA X es t):PE X (.Tuple es x1 pos) (OH t):=by intro pins s G H Q I U;refine wpAny_Tuple_spliced (b9 (h pos pins s G H _ I U) λ us s1 ⟨xs,H1,J,r,z,q⟩=>⟨by rw[<- r.length];exact z,?_⟩);have hf:H1 s1.heap.objs.size=none:=J.hok.fresh (wN _);refine⟨.ref s1.heap.objs.size,upd H1 s1.heap.objs.size (.tup xs),J.laid (t':=s1.toks) (λ b u e=>zS _ e) (wN _) ?_,rfl,q _ hf⟩;exact⟨z,us,r,⟨_,wF _ rfl,rfl,_,rfl⟩,_,wF _ rfl,rfl⟩
theorem JT(h:PA X es t):PE X (.List es pos) (O8 t):=by intro pins s G H Q I U;refine wpAny_List_spliced (b9 (h pos pins s G H _ I U) λ us s1 ⟨xs,H1,J,r,z,q⟩=>⟨by rw[<- r.length];exact z,?_⟩);have hf:H1 s1.heap.objs.size=none:=J.hok.fresh (wN _);refine⟨.ref s1.heap.objs.size,upd H1 s1.heap.objs.size (.lst xs),J.laid (t':=s1.toks) (λ b u e=>zS _ e) (wN _) ?_,rfl,q _ hf⟩;exact⟨z,us,0,r,wF _ rfl⟩
end
noncomputable abbrev Sp:=List V->Hp->VK->XK->Prop
noncomputable abbrev zV:=List Env->Hp->Shared->XK->Value->Shared->Prop
structure Ea (P:Program) (w:World) (K:PySem.W.Frag) (mg:Str->Option Value) (base:Heap) (A:Around) (outer:List Env) (s:Shared) (H:Hp):Prop where
 frames:A.frames=some outer
 mod:Mod K mg base
 bs:∀b o,base.get? b=some o->s.heap.get? b=some o/\H b=none
 bsz:base.objs.size ≤ s.heap.objs.size
 funs:s.heap.FunFrames base outer
 frf:∀b ∈ y8 outer,H b=none
 hok:iC P w H s.heap
 bare:AllBare s.gens
 tb:xI K H
noncomputable def CE(outer:List Env)(P:Program)(w:World)(H:Hp)(s:Shared)(Q:VK)(u:Value)(s':Shared):Prop:=
 ∃v H',s'.os=s.os/\AllBare s'.gens/\Un (y8 outer) [] H H' s.heap s'.heap/\iC P w H' s'.heap/\RelV v u/\Q v H'
noncomputable def CR(CX:zV)(outer:List Env)(P:Program)(w:World)(H:Hp)(s:Shared)(Q:VK)(E:XK)(r:Result)(s':Shared):Prop:=
 match r with
 | .ok (.ret u)=>CE outer P w H s Q u s'
 | .ok _=>False
 | .error e=>CX outer H s E e s'
structure dX (P:Program) (w:World) (K:PySem.W.Frag) (mg:Str->Option Value) (base:Heap) (CX:zV) (k:Nat) (f:Addr) (fd:FuncData) (ps:List Str) (sp:Sp):Prop where
 len:∀vs H Q E,sp vs H Q E->vs.length=ps.length
 run:∀(A:Around) (outer:List Env) (s:Shared) (H:Hp) (args:Args) (us:List Value) (vs:List V) (Q:VK) (E:XK),cb k A->Ea P w K mg base A outer s H->BindsTo s fd args (ps.zip us)->Vals vs us->sp vs H Q E ->
  codeAny (model P w) A (.call (.ref f) args) (CR CX outer P w H s Q E) s
theorem dX.mono{K:PySem.W.Frag}{I:Str->Option Value}{base:Heap}{CX:zV}{j k:Nat}{f:Addr}{fd:FuncData}{ps:List Str}{sp:Sp}(F:dX P w K I base CX j f fd ps sp)(h:j<=k):
  dX P w K I base CX k f fd ps sp:=⟨F.len,λ A outer s H args us vs Q E J=>F.run A outer s H args us vs Q E (J.mono h)⟩
theorem dX.imp{K:PySem.W.Frag}{J:Str->Option Value}{base:Heap}{CX:zV}{k:Nat}{f:Addr}{fd:FuncData}{ps:List Str}{sp I:Sp}(F:dX P w K J base CX k f fd ps sp)
  (h:∀vs H Q E,I vs H Q E->sp vs H Q E):dX P w K J base CX k f fd ps I:=
 ⟨λ vs H Q E q=>F.len vs H Q E (h _ _ _ _ q),λ A outer s H args us vs Q E U he hb hv hs=>F.run A outer s H args us vs Q E U he hb hv (h _ _ _ _ hs)⟩
section
variable {X:Cx} {pins:List (Addr × Obj)} {G:St} {H:Hp} {s s':Shared}
theorem Inv.env0(I:Inv X pins G H s):Ea X.prog X.w X.K X.mg X.base X.A X.stack s H:=
 ⟨I.ok.frames,I.ok.mod,I.bs,Q3 I.ok.bsz I.sz,I.stack,I.stkFree,I.hok,I.bare,I.tb⟩
theorem Inv.after(I:Inv X pins G H s)(h:CE X.stack X.prog X.w H s Q u s'):EP X pins G Q u s':=by obtain⟨v,H',os,bare,un,J,r,q⟩:=h;obtain⟨hh,g,d,t,U⟩:=s';obtain rfl:U=s.os:=os;exact⟨v,H',I.call (h':=hh) (g':=g) (d':=d) (t':=t) (ch:=[]) un J bare (λ b z=>absurd z (by simp)),r,q⟩
end
noncomputable def NZ(sp:Sp)(I:List V)(E:XK)(t:TA):TE:= λ G H Q=>t G H λ vs H1=>sp (vs++I) H1 Q E
noncomputable def Binds(K:PySem.W.Frag)(fd:FuncData)(ps:List Str)(ds:List Value):Prop:=
 ∀(s:Shared)(us:List Value),K.In s.heap->(us++ds).length=ps.length->BindsTo s fd ⟨us,[]⟩ (ps.zip (us++ds))
theorem Binds.all{K:PySem.W.Frag}{fd:FuncData}{ps:List Str}(h:∀us:List Value,us.length=ps.length->bindArgs fd ⟨us,[]⟩=pure (ps.zip us)):Binds K fd ps []:= λ s us _ I=>by rw[ZU]at I|-;exact .of_eq (h us I)
noncomputable def Passes(CX:zV)(X:Cx)(E:XK):Prop:=∀(pins:List (Addr×Obj))(G:St)(H:Hp)(s:Shared)(e:Value)(s':Shared),Inv X pins G H s->CX X.stack H s E e s'->X.xe e s'
section
variable {X:Cx} {CX:zV} {k:Nat} {f C:Addr} {fd:FuncData} {ps:List Str} {sp:Sp} {dvs:List V} {ds:List Value} {E:XK} {x:Str} {p pos:Pos} {e:Expr} {es:List Expr} {t:TA}
theorem Jc{G:St}{H:Hp}{s:Shared}{Q:VK}{us:List Value}{vs:List V}(F:dX X.prog X.w X.K X.mg X.base CX k f fd ps sp)(hr:cb k X.A)(hb:Binds X.K fd ps ds)(hd:Vals dvs ds)(hx:Passes CX X E)
  (I:Inv X pins G H s)(r:Vals vs us)(h:sp (vs++dvs) H Q E):wpAny (model X.prog X.w) X.A (call (.ref f) us) (EP X pins G Q) X.xe s:=by
 have U:Vals (vs++dvs) (us++ds):=r.append hd;have hl:(us++ds).length=ps.length:=by rw[<- U.length];exact F.len _ _ _ _ h
 refine wpAny_call (VS (F.run X.A X.stack s H ⟨us,[]⟩ (us++ds) (vs++dvs) Q E hr I.env0 (hb s us I.kIn hl) U h) λ r s' J=>?_);cases r with
 |error e=>exact hx pins G H s e s' I J
 |ok fl=>cases fl with
  |ret u=>exact I.after J
  |next=>exact False.elim J
  |brk=>exact False.elim J
  |cont=>exact False.elim J
theorem pg(F:dX X.prog X.w X.K X.mg X.base CX k f fd ps sp)(hr:cb k X.A)(hg:Gl X x)(hm:X.mg x=some (.ref f))(hk:PySem.W.keepIn X.K (.ref f)=true)(hb:Binds X.K fd ps ds)(hd:Vals dvs ds)(hx:Passes CX X E)
  (ha:PA X (e::es) t)(J:autoParam ((x==("__debug__":Str))=false) aQ1._auto_1)(he:autoParam (starEach (e::es) X.env=(false,eval e X.env)::starEach es X.env) aQ0._auto_1)(U:autoParam ((backTo pos (starEach es X.env)).any (·.1)=false) aQ0._auto_1):
  PE X (.Call (.Name x p) (e::es) [] pos) (NZ sp dvs E t):=by intro pins s G H Q I h;refine WR (xl I hg hm ?_ J);refine PySem.W.callWith_K (h₀:=X.base) I.ok.mod.kin hk (b9 (ha pos pins s G H _ I h) λ us s1 ⟨vs,H1,I1,r,q⟩=>⟨I1.kIn,?_⟩) he U;exact Jc F hr hb hd hx I1 r q
structure Mk (K:PySem.W.Frag) (C f:Addr):Prop where
 makes:PySem.W.makesIn K C=true
 init:PySem.W.findIn K (.ref C) "__init__" = some (some (.ref f))
 fn:PySem.W.isFn K (.ref f)=true
 kp:PySem.W.keepIn K (.ref C)=true
end
structure cg (N P:List Str) (sc:Scope):Prop where
 kind:sc.kind=.function
 co:sc.isCoroutine=false
 gen:sc.isGenerator=false
 nd:N.Nodup
 pre:N.take P.length=P
 par:∀x ∈ P,sc.names.lookup x=some .local ∨ sc.names.lookup x=some .cell
 nofree:∀y ∈ sc.names,y.2 ≠ .free
theorem nu{kindOf:Str->Option NameKind}{x:Str}:∀{binds:List (Str×Value)}{m:Str->Option Value},(∀v,(x,v)∉binds)->bindL kindOf binds m x=m x
 |[],_,_=>rfl
 |(n,v)::r,m,h=>by
  unfold bindL;rw[nu λ w hw=>h w (uN _ hw)];split;. grind
  rfl
theorem ot{kindOf:Str->Option NameKind}{x:Str}:∀{binds:List (Str×Value)}{m:Str->Option Value},(∀v,(x,v)∉binds)->bindC kindOf binds m x=m x
 |[],_,_=>rfl
 |(n,v)::r,m,h=>by
  unfold bindC;rw[ot λ w hw=>h w (uN _ hw)];split;. rfl
  grind
theorem oi{kindOf:Str->Option NameKind}{x:Str}{v:Value}:∀{P:List Str}{vs:List Value}{i:Nat}{m:Str->Option Value},P.Nodup->P[i]?=some x->vs[i]?=some v->kindOf x=some .local->
  bindL kindOf (P.zip vs) m x=some v
 |[],_,_,_,_,h,_,_=>by simp at h
 |_::_,[],_,_,_,_,h,_=>by simp at h
 |p::P,w::vs,0,m,nd,h1,h2,I=>by simp at h1 h2;subst h1 h2;show bindL kindOf ((p,w)::P.zip vs) m p=_;unfold bindL;rw[nu λ v J=>(Q8.mp nd).1 (List.of_mem_zip J).1,gA I];simp
 |p::P,w::vs,i+1,m,nd,h1,h2,I=>by show bindL kindOf ((p,w)::P.zip vs) m x=_;exact oi (i:=i) (Q8.mp nd).2 (by simp_all) (by simp_all) I
theorem oB{kindOf:Str->Option NameKind}{x:Str}{v:Value}:∀{P:List Str}{vs:List Value}{i:Nat}{m:Str->Option Value},P.Nodup->P[i]?=some x->vs[i]?=some v->kindOf x≠some .local->
  bindC kindOf (P.zip vs) m x=some v
 |[],_,_,_,_,h,_,_=>by simp at h
 |_::_,[],_,_,_,_,h,_=>by simp at h
 |p::P,w::vs,0,m,nd,h1,h2,I=>by simp at h1 h2;subst h1 h2;show bindC kindOf ((p,w)::P.zip vs) m p=_;unfold bindC;rw[ot λ v J=>(Q8.mp nd).1 (List.of_mem_zip J).1,gL I];simp
 |p::P,w::vs,i+1,m,nd,h1,h2,I=>by show bindC kindOf ((p,w)::P.zip vs) m x=_;exact oB (i:=i) (Q8.mp nd).2 (by simp_all) (by simp_all) I
noncomputable def start(N:List Str)(vs:List V):St:=vs.map some++List.replicate (N.length-vs.length) none
noncomputable def fU(CX:zV)(P:Program)(w:World)(K:PySem.W.Frag)(mg:Str->Option Value)(base:Heap)(N:List Str)(qual:Str)(scope:Scope)(f:Addr)(cd:Value)(A:Around)(outer:List Env)(s:Shared)(H:Hp)(E:XK):Cx where
 prog:=P
 w:=w
 K:=K
 mg:=mg
 base:=base
 A:=A.deeper (envOfC qual scope s.heap.objs.size f cd)
 N:=N
 s₀:=s
 H₀:=H
 env:=envOfC qual scope s.heap.objs.size f cd
 outer:=outer
 stack:=envOfC qual scope s.heap.objs.size f cd::outer
 ex:=[]
 calm:=true
 fn:= λ _=>true
 pn:=[]
 xe:= λ e s'=>wpAny (model P w) (A.deeper (envOfC qual scope s.heap.objs.size f cd)) (leaving (envOfC qual scope s.heap.objs.size f cd) e) (λ _ I=>CX outer H s E e I) (λ e' I=>CX outer H s E e' I) s'
theorem sL{sc:Scope}{n:Nat}{x:Str}(h:sc.names.lookup x=some .cell):∃c,(cellsFrom n sc.names []).lookup x=some c:=by have q:=W2 sc.names n [] (.inl h);exact YF.mp q
theorem yy{P:Program}{w:World}{K:PySem.W.Frag}{mg:Str->Option Value}{base:Heap}{N ps:List Str}{qual:Str}{scope:Scope}{f:Addr}{cd:Value}{A:Around}{outer:List Env}{s s1:Shared}{H:Hp}{E:XK}{us:List Value}{vs:List V}
  (S:cg N ps scope)(hd:A.handled=none)(I:Ea P w K mg base A outer s H)(hl:vs.length=ps.length)(r:Vals vs us)
  (x:InCallC s s.heap.objs.size (bindL (envOfC qual scope s.heap.objs.size f cd).kindOf (ps.zip us) λ _=>none) (cellsFrom (s.heap.objs.size+1) scope.names []) (bindC (envOfC qual scope s.heap.objs.size f cd).kindOf (ps.zip us) λ _=>none) s1):
  Inv (fU CX P w K mg base N qual scope f cd A outer s H E) [] (start N vs) H s1:=by
 have ab:ps.length<=N.length:=by have:=ZO List.length S.pre;rw[VB]at this;omega
 obtain⟨h1,tk,rfl,hk⟩:=x.done;have J:∀b:Addr,b∉(fU CX P w K mg base N qual scope f cd A outer s H E).ex:= λ b z=>absurd (show b∈([]:List Addr)from z) (by simp);refine⟨⟨I.mod,S.kind,rfl,rfl,wN _,λ y z c h1 h2=>?_,λ y U=>?_,λ y c _ h=>?_,λ _=>hd,Around.frames_deeper I.frames,.inr ⟨rfl,rfl⟩,λ b z=>absurd z (J b),I.bs,I.bsz,λ b _ _=>J b,λ b z=>absurd z (J b),I.funs,I.frf,I.tb⟩,
  rfl,I.bare,Un.kept hk,⟨_,x.toInCall.ns,λ i y v h1 h2 h3=>?_⟩,λ y c h=>⟨_,x.cell y c h⟩,I.hok.fresh (wN _),λ y c h=>?_,λ p hp=>absurd (show p∈([]:List (Addr×Obj))from hp) (by simp),I.hok.kept hk,?_⟩;. exact name_of_addr x.apart (YK h1) (YK h2)
 .rcases U with U|U
  .exact sL U
  .exact absurd rfl (S.nofree _ (YK U))
 .exact WW (x.above y c (YK h))
 .have hi:i<vs.length:=by unfold start at h2;grind
  have ha:vs[i]?=some v:=by unfold start at h2;rw[QL (by simpa using hi),QS]at h2;cases e:vs[i]? with
   |none=>rw[e]at h2;cases h2
   |some a=>rw[e]at h2;cases h2;rfl
  obtain⟨u,hu,rv⟩:=r.get ha;have hp:ps[i]?=some y:=by rw[<- S.pre,YG (by omega)];exact h1
  have aa:ps.Nodup:=by rw[<- S.pre];exact S.nd.sublist (List.take_sublist _ _)
  refine⟨u,rv,?_⟩;rcases S.par y (Y5 hp)with k|k
  .exact .inl ⟨k,oi aa hp hu k⟩
  .obtain⟨c,e⟩:=sL (n:=s.heap.objs.size+1) k;refine .inr ⟨.inl k,c,e,?_⟩;have q:=x.cell y c e;rw[oB aa hp hu (by show scope.names.lookup y≠_;rw[k];decide)]at q;exact q
 .exact I.hok.fresh (WW (x.above y c (YK h)))
 .unfold start;show _=N.length;rw[gE,uL,VQ];omega
theorem HU{K:PySem.W.Frag}{mg:Str->Option Value}{base:Heap}{k:Nat}{f:Addr}{name qual:Str}{params:Arguments}{body:List Stmt}{scope:Scope}{dV kV doc pm cdv ct oc:Value}{an od:Option Addr}
  {af:Array (Option Value)}{N ps:List Str}{sp:Sp}(lk:K.lookup f=some ⟨oc,od,.func (PySem.W.fnOf name qual params body scope dV kV doc pm an cdv ct),af⟩)(ag:PySem.W.codeIn K cdv qual=true)(S:cg N ps scope)
  (len:∀vs H Q E,sp vs H Q E->vs.length=ps.length)
  (aa:∀(A:Around)(outer:List Env)(s:Shared)(H:Hp)(vs:List V)(Q:VK)(E:XK),cb k (A.deeper (envOfC qual scope s.heap.objs.size f cdv))->sp vs H Q E->
   ∃t,tx (fU CX P w K mg base N qual scope f cdv A outer s H E) body t/\t { nx:= λ _ H'=>Q .non H',rt:=Q } (start N vs) H):
  dX P w K mg base CX (k+1) f (PySem.W.fnOf name qual params body scope dV kV doc pm an cdv ct) ps sp:=by
 refine⟨len,λ A outer s H args us vs Q E hr e0 hb r ae=>?_⟩;have hl:=len _ _ _ _ ae;have KX:K.In s.heap:=e0.mod.kin.keeps λ b o e=>(e0.bs b o e).1;have lim:s.heap.NoLimit:=e0.mod.nolimit.keeps λ b o e=>(e0.bs b o e).1;have ab:∀y∈ps.zip us,scope.names.lookup y.1=some .local\/(scope.names.lookup y.1=some .cell/\((cellsFrom (s.heap.objs.size+1) scope.names []).lookup y.1).isSome=true):= λ⟨n,v⟩ hy=>by
  rcases S.par n (List.of_mem_zip hy).1 with q|q
  .exact .inl q
  .exact .inr ⟨q,W2 _ _ _ (.inl q)⟩
 refine codeAny_call_function hr.depth (KX _ _ lk) rfl S.co S.gen rfl (PySem.W.codeRec_of KX ag) (hb _ _ _ _ ?_);refine wpAny_newFunctionEnv_cells S.kind ab λ env he s1 x=>?_;subst he;refine⟨lim.keeps x.toInCall.keep,codeAny_func ?_⟩;obtain⟨t,ht,hq⟩:=aa A outer s H vs Q E (hr.deeper _) ae;have I:Inv (fU CX P w K mg base N qual scope f cdv A outer s H E) [] (start N vs) H s1:=yy S hr.hd e0 hl r x;refine gO (ht [] s1 (start N vs) H _ I hq) (λ fl s' hs=>?_) λ e s' hs=>hs;have fin:∀{U:St}{H':Hp}{v:V}{u:Value},Inv (fU CX P w K mg base N qual scope f cdv A outer s H E) [] U H' s'->RelV v u->Q v H'->CE outer P w H s Q u s':=
  λ{U H' v u} J rv q=>⟨v,H',J.os,J.bare,J.base,J.hok,rv,q⟩;cases fl with
 |ret u=>obtain⟨v,U,H',J,rv,q⟩:=hs;exact fin J rv q
 |next=>obtain⟨U,H',J,q⟩:=hs;exact fin (v:=V.non) (u:=Value.none) J rfl q
 |brk=>obtain⟨_,_,_,q⟩:=hs;simp_all
 |cont=>obtain⟨_,_,_,q⟩:=hs;simp_all
section
variable {X:Cx} {x:Str} {p pos:Pos} {e:Expr} {es:List Expr} {t:TA} {id T:String} {r:List V->Hp->VK->Prop}
noncomputable def Pl(r:List V->Hp->VK->Prop)(t:TA):TE:= λ G H Q=>t G H λ vs H1=>r vs H1 Q
theorem eT(hc:c6 X (.builtin id) r)(hg:Gl X x)(hm:X.mg x=none)(hv:bootBuiltins x=some (.builtin id))(ha:PA X (e::es) t)(hn:autoParam (x≠"__name__") aQ1._auto_1)(J:autoParam ((x==("__debug__":Str))=false) aQ1._auto_1)
  (he:autoParam (starEach (e::es) X.env=(false,eval e X.env)::starEach es X.env) aQ0._auto_1)(U:autoParam ((backTo pos (starEach es X.env)).any (·.1)=false) aQ0._auto_1):PE X (.Call (.Name x p) (e::es) [] pos) (Pl r t):=by intro pins s G H Q I h;refine WR (fv I hg hm hv ?_ hn J);exact PyProof.Rows.callWith_builtin1 (b9 (ha pos pins s G H _ I h) λ us s1 ⟨vs,H1,I1,r1,q1⟩=>hc pins s1 G H1 vs us Q I1 r1 q1) he U
theorem d_(hc:c6 X (.type T) r)(hg:Gl X x)(hm:X.mg x=none)(hv:bootBuiltins x=some (.type T))(ha:PA X (e::es) t)(hn:autoParam (x≠"__name__") aQ1._auto_1)(J:autoParam ((x==("__debug__":Str))=false) aQ1._auto_1)
  (he:autoParam (starEach (e::es) X.env=(false,eval e X.env)::starEach es X.env) aQ0._auto_1)(U:autoParam ((backTo pos (starEach es X.env)).any (·.1)=false) aQ0._auto_1):PE X (.Call (.Name x p) (e::es) [] pos) (Pl r t):=by intro pins s G H Q I h;refine WR (fv I hg hm hv ?_ hn J);exact ZN (b9 (ha pos pins s G H _ I h) λ us s1 ⟨vs,H1,I1,r1,q1⟩=>hc pins s1 G H1 vs us Q I1 r1 q1) he U
end
end L2
namespace HT
open PySem PyProof.Rows
section
variable {prog:Program} {w:World} {A:Around} {E:Value->Shared->Prop} {s:Shared}
theorem cat_tup(ht:IsTup s.heap t vs.toArray)(hb:IsTup s.heap b ws.toArray)(hv:vs≠[])
  (h1:ws=[]->Q (.ref t) s)(h2:ws≠[]->Q (.ref s.heap.objs.size) { s with heap:=s.heap.push { cls:= .type "tuple",data:= .seq (vs++ws).toArray } })
  (hsz:vs.length+ws.length<=sizeLine):wpAny (model prog w) A (binaryOp .Add (.ref t) (.ref b)) Q E s:=by
 obtain⟨⟨cls,dd,data,sl⟩,ho,hc,n,hd⟩:=id ht;obtain⟨⟨ab,J,data2,U⟩,I,aa,n2,hd2⟩:=id hb;simp at hc hd aa hd2;subst hc hd aa hd2;by_cases hw:ws=[]
 .exact concat_meets ⟨_,ho,rfl⟩ ⟨_,I,rfl⟩ noFill_tuple_add seq_tuple_add W3 WU (WE _ _)
   (tuple_addW1 t b vs.toArray ws.toArray n n2 dd J sl U (by simpa using hv) (by simp[hw])) ⟨ho,I,h1 hw⟩
 .refine concat_meets ⟨_,ho,rfl⟩ ⟨_,I,rfl⟩ noFill_tuple_add seq_tuple_add W3 WU (WE _ _)
   (tuple_addW2 t b vs.toArray ws.toArray n n2 dd J sl U (by simpa using hv) (by simpa using hw) (by omega)) ⟨ho,I,?_⟩;grind
noncomputable def sIx(n d:Nat):Option Int->Nat
 |none=>d
 |some v=>if v<0 then(v+(n:Int)).toNat else min v.toNat n
theorem vy(v:Int)(n d:Nat):(if v<0 then max (v+n) 0 else min v n)=((sIx n d (some v):Nat):Int):=by show(if v<0 then max (v+n) 0 else min v n)=(((if v<0 then(v+n).toNat else min v.toNat n):Nat):Int);grind
theorem vj(lo I:Option Int)(n:Nat):Builtin.Slice.sliceAdjust lo I 1 n=(((sIx n 0 lo:Nat):Int),((sIx n n I:Nat):Int)):=by
 refine Prod.ext ?_ ?_;. cases lo with
  |none=>rfl
  |some v=>exact vy v n 0
 .cases I with
  |none=>rfl
  |some v=>exact vy v n n
theorem t_(i j:Nat):Builtin.Slice.slicePlaces i j 1=j-i:=by unfold Builtin.Slice.slicePlaces;omega
theorem kK {v:Value} {o:Option Int} {Q:Option Int->Shared->Prop} (p:IsPart v o) (h:Q o s):wpAny (model prog w) A (Builtin.Slice.slicePartIndex v) Q E s:= by
 cases p with
 | none=>exact slicePart_none h
 | int i t=>exact slicePart_int h
theorem sliceApplied_gen{lo I:Option Int}{n:Nat}{Q:Int×Int×Nat->Shared->Prop}(hs:s.heap.IsSliceOf sl vl vu .none)(pl:IsPart vl lo)(pu:IsPart vu I)
  (h:Q (((sIx n 0 lo:Nat):Int),1,sIx n n I-sIx n 0 lo) s):wpAny (model prog w) A (Builtin.Slice.sliceApplied (.ref sl) (pure n)) Q E s:=by obtain⟨os,J,aa,U⟩:=id hs;refine zN (zN (ZK J U (x:=vl) rfl (zN (ZK J U (x:=vu) rfl (zN (ZK J U (x:= .none) rfl (kT ?_)))))));refine zN (slicePart_none ?_);refine zN (kK pl (zN (kK pu (zN (kT ?_)))));show wpAny _ _ (match Builtin.Slice.sliceAdjust lo I 1 n with|(lo,I)=>pure (lo,(1:Int),Builtin.Slice.slicePlaces lo I 1)) _ _ s;rw[vj lo I n];show wpAny _ _ (pure (((sIx n 0 lo:Nat):Int),1,Builtin.Slice.slicePlaces ((sIx n 0 lo:Nat):Int) ((sIx n n I:Nat):Int) 1)) _ _ s;rw[t_];exact kT h
theorem zg(xs:Array Value)(i k:Nat):((List.range k).filterMap λ(m:Nat)=>xs[((i:Int)+m*1).toNat]?).toArray=((xs.toList.drop i).take k).toArray:=by
 have e:(λ(m:Nat)=>xs[((i:Int)+m*1).toNat]?)= λ m=>xs[i+m]?:=by
  funext m;have:((i:Int)+m*1).toNat=i+m:=by omega
  rw[this]
 have:=pick_run xs i k;have I:((λ x=>xs[x]?)∘ λ x=>i+x)= λ m=>xs[i+m]?:=rfl;simp_all
theorem getItem_tuple_cut{items:Array Value}{vl vu:Value}{lo J:Option Int}{Q:Value->Shared->Prop}(U:IsTup s.heap t items)(hs:s.heap.IsSliceOf sl vl vu .none)(pl:IsPart vl lo)(pu:IsPart vu J)
  (hw: ¬(sIx items.size 0 lo=0/\sIx items.size items.size J=items.size))
  (h:Q (.ref s.heap.objs.size) { s with heap:=s.heap.push { cls:= .type "tuple",data:= .seq ((items.toList.drop (sIx items.size 0 lo)).take (sIx items.size items.size J-sIx items.size 0 lo)).toArray } })
  (hsz:items.size<=sizeLine):wpAny (model prog w) A (getItem (.ref t) (.ref sl)) Q E s:=by
 have I:sizeOk (.seq ((items.toList.drop (sIx items.size 0 lo)).take (sIx items.size items.size J-sIx items.size 0 lo)).toArray):=by show((items.toList.drop (sIx items.size 0 lo)).take (sIx items.size items.size J-sIx items.size 0 lo)).toArray.size<=sizeLine;rw[xS,VB,List.length_drop,YI];omega
 obtain⟨os,aa,ab,ag⟩:=id hs;have ae:s.TypeIs (.ref sl) "slice":=⟨os,aa,ab⟩;unfold getItem;try with_reducible refine Q1 ?_
 refine zN (wpAny_sequenceKey U.typeIs (by decide) ?_);refine zN (Q6 (name:=Str.ofString "__getitem__") U.typeIs VP
  (Q5 VP U.typeIs entry_tuple_getitem ?_ (args_tuple_getitem _ _)));show wpAny _ _ (Builtin.Tuple.tupleItemsOf (.ref t) >>= _) _ _ s;refine zN (tupleItemsOf_ U ?_);refine zN (WZ ae ?_);refine zN (sliceApplied_gen hs pl pu ?_);have af: ¬((((sIx items.size 0 lo:Nat):Int)==0&&(1:Int)==1&&(sIx items.size items.size J-sIx items.size 0 lo)==items.size)=true):=by grind
 show wpAny _ _ (if(((sIx items.size 0 lo:Nat):Int)==0&&1==1&&(sIx items.size items.size J-sIx items.size 0 lo)==items.size)=true then _ else _) _ _ s;rw[gL af,zg];first
  |exact zN (m:=Builtin.Tuple.tupleExact _) (QZ (kT ⟨_,rfl,kT h⟩) I)
  |exact zN (m:=Builtin.Tuple.tupleExact _) (QZ (zN (kT (kT ⟨_,rfl,kT h⟩))) I)
  |exact zN (zN (m:=Builtin.Tuple.tupleExact _) (QZ (kT (kT ⟨_,rfl,kT h⟩)) I))
  |exact zN (zN (m:=Builtin.Tuple.tupleExact _) (QZ (kT ⟨_,rfl,kT h⟩) I))
end
end HT
namespace L2
open PySem PySem.Spec PyProof.Rows
noncomputable abbrev TO:=St->Hp->(Option Int->Hp->Prop)->Prop
noncomputable def PO(X:Cx)(e:Option Expr)(t:TO):Prop:=
 ∀(pins:List (Addr×Obj))(s:Shared)(G:St)(H:Hp)(Q:Option Int->Hp->Prop),Inv X pins G H s->t G H Q->
  wpAny (model X.prog X.w) X.A (evalPart e X.env) (λ u s'=>∃o H',Inv X pins G H' s'/\IsPart u o/\Q o H') X.xe s
noncomputable def E1:TO:= λ _ H Q=>Q none H
noncomputable def MC(t:TE):TO:= λ G H Q=>t G H λ x H1=>∃i,x= .int i/\Q (some i) H1
theorem intsAre_of:∀{us:List Value},Vals (ns.map V.int) us->IntsAre us ns:=by induction ns with
 |nil=>intro us r;cases r;exact .nil
 |cons n ns I=>intro us r;cases r with
  |cons J U=>obtain⟨t,e⟩:=J;subst e;exact .cons n t (I U)
section
variable {X:Cx} {e:Expr} {te:TE} {lo hi:Option Expr} {tl th:TO} {pos p2:Pos}
theorem Fs:PO X none E1:=by intro pins s G H Q I h;exact kT ⟨none,H,I,.none,h⟩
theorem Gw(h:PE X e te):PO X (some e) (MC te):=by intro pins s G H Q I hw;refine b9 (h pins s G H _ I hw) λ u s1 ⟨x,H1,J,U,q1⟩=>?_;obtain⟨i,rfl,q⟩:=q1;obtain⟨t,rfl⟩:=U;exact⟨some i,H1,J,.int i t,q⟩
noncomputable def I_(X:Cx)(r:V->Option Int->Option Int->Hp->VK->Prop):Prop:=
 ∀(pins:List (Addr×Obj))(s:Shared)(G:St)(H:Hp)(x:V)(v I J:Value)(lo hi:Option Int)(sl:Addr)(Q:VK),Inv X pins G H s->RelV x v->s.heap.IsSliceOf sl I J .none->IsPart I lo->IsPart J hi->r x lo hi H Q->
  ∃T id,typeLookup (.type T) "__getitem__"=pure (some (.builtin id))/\s.TypeIs v T/\wpAny (model X.prog X.w) X.A (getItem v (.ref sl)) (EP X pins G Q) X.xe s
theorem I_.or(h:I_ X r)(h':I_ X r'):I_ X (λ x lo hi H Q=>r x lo hi H Q\/r' x lo hi H Q):=by
 intro pins s G H x v J U lo hi sl Q I rx hs pl pu q;rcases q with q|q
 .exact h pins s G H x v J U lo hi sl Q I rx hs pl pu q
 .exact h' pins s G H x v J U lo hi sl Q I rx hs pl pu q
noncomputable def Qx(r:V->Option Int->Option Int->Hp->VK->Prop)(te:TE)(tl th:TO):TE:= λ G H Q=>te G H λ x H1=>tl G H1 λ l H2=>th G H2 λ u I=>r x l u I Q
theorem zI(hr:I_ X r)(he:PE X e te)(hl:PO X lo tl)(hu:PO X hi th):PE X (.Subscript e (.Slice lo hi none p2) pos) (Qx r te tl th):=by intro pins s G H Q I h;refine Subscript_ (b9 (he pins s G H _ I h) λ v s1 ⟨x,H1,I1,r1,q1⟩=>?_);refine wpAny_Slice (b9 (hl pins s1 G H1 _ I1 q1) λ J s2 ⟨l,H2,I2,pl,q2⟩=>b9 (hu pins s2 G H2 _ I2 q2) λ U s3 ⟨u,H3,I3,pu,q3⟩=>?_);refine kT ?_;have I4:Inv X pins G H3 { s3 with heap:=s3.heap.push { cls:= .type "slice",data:= .fields #[J,U,.none] } }:=I3.kept (t':=s3.toks) λ b ob q=>zS _ q;obtain⟨T,id,hT,ht,hg⟩:=hr pins { s3 with heap:=s3.heap.push { cls:= .type "slice",data:= .fields #[J,U,.none] } } G H3 x v J U l u s3.heap.objs.size Q I4 r1 (Heap.IsSliceOf.new ..) pl pu q3;exact tail_any (ops:=[.ref s3.heap.objs.size,v]) ht hT hg (by rfl)
noncomputable def pS(xs:List V)(lo hi:Option Int):List V:=(xs.drop (HT.sIx xs.length 0 lo)).take (HT.sIx xs.length xs.length hi-HT.sIx xs.length 0 lo)
theorem j5(xs:List V)(lo hi:Option Int):(pS xs lo hi).length<=xs.length:=by unfold pS;grind
noncomputable def PZ(K:PySem.W.Frag):V->Option Int->Option Int->Hp->VK->Prop:= λ x lo hi H Q=>∃a xs,x= .ref a/\fQ K H a xs/\
 ¬(HT.sIx xs.length 0 lo=0/\HT.sIx xs.length xs.length hi=xs.length)/\∀p,H p=none->Q (.ref p) (upd H p (.tup (pS xs lo hi)))
theorem Ki:I_ X (PZ X.K):=by intro pins s G H x v vl vu lo hi sl Q I rx hs pl pu h;obtain⟨a,xs,rfl,hx,hw,q⟩:=h;cases rx;obtain⟨its,r,U,hz⟩:=I.tuple hx;have hlen:its.toArray.size=xs.length:=r.length.symm;refine⟨"tuple",_,PyProof.Rows.slot_tuple_getitem.lookup,U.typeIs,?_⟩;refine HT.getItem_tuple_cut U hs pl pu (by grind) ?_ (by rw[hlen];exact hz);rw[hlen];refine⟨.ref s.heap.objs.size,_,I.laid (t':=s.toks) (o:= .tup (pS xs lo hi)) (λ b ob q=>zS _ q) (wN _) ?_,rfl,q _ (I.hok.fresh (wN _))⟩;exact⟨Q3 (j5 xs lo hi) hz,_,(r.drop (HT.sIx xs.length 0 lo)).take (HT.sIx xs.length xs.length hi-HT.sIx xs.length 0 lo),t8.new _ _⟩
noncomputable def zW(K:PySem.W.Frag):R2:= λ x y H Q=>∃a b xs ys,x= .ref a/\y= .ref b/\fQ K H a xs/\fQ K H b ys/\xs≠[]/\xs.length+ys.length<=sizeLine/\
 (ys=[]->Q (.ref a) H)/\(ys≠[]->∀p,H p=none->Q (.ref p) (upd H p (.tup (xs++ys))))
theorem Vals.nil_iff(r:Vals xs us):us=[]↔xs=[]:=by cases r with
 |nil=>simp
 |cons _ _=>simp
theorem FZ:ij X (binaryOp .Add) (zW X.K):=by intro pins s G H x y v u Q I rx ry h;obtain⟨a,b,xs,ys,rfl,rfl,ha,hb,hx,hz,q1,q2⟩:=h;cases rx;cases ry;obtain⟨its,U,p1,_⟩:=I.tuple ha;obtain⟨aa,J,p2,_⟩:=I.tuple hb;refine HT.cat_tup p1 p2 (λ z=>hx (U.nil_iff.mp z)) (λ z=>⟨.ref a,H,I,rfl,q1 (J.nil_iff.mp z)⟩) (λ z=>?_) (by rw[<- U.length,<- J.length];omega);refine⟨.ref s.heap.objs.size,_,I.laid (t':=s.toks) (o:= .tup (xs++ys)) (λ b ob q=>zS _ q) (wN _) ?_,rfl,q2 (λ w=>z (J.nil_iff.mpr w)) _ (I.hok.fresh (wN _))⟩;exact⟨by rw[gE];exact hz,_,U.append J,t8.new _ _⟩
end
noncomputable def vv(n:Nat)(i:Int):Option Nat:=if 0<=i then(if i<n then some i.toNat else none)else if-(n:Int)<=i then some (i+n).toNat else none
noncomputable def jS{B:Type}(xs:List B)(i:Int):Option B:=(vv xs.length i).bind λ j=>xs[j]?
theorem wO(h:vv n i=some j):seqIndex? i n=some j/\j<n/\ -n<=i/\i<n:=by
 unfold vv at h;by_cases h0:0<=i
 .rw[gA h0]at h;by_cases h1:i<n
  .rw[gA h1]at h;have e:i.toNat=j:=Q9 h;exact⟨by rw[seqIndex_of h0 h1,e],by omega,by omega,h1⟩
  .rw[gL h1]at h;cases h
 .rw[gL h0]at h;by_cases h1: -n<=i;. rw[gA h1]at h;have e:(i+n).toNat=j:=Q9 h;exact⟨by rw[seqIndex_neg (by omega) h1,e],by omega,h1,by omega⟩
  simp_all
theorem oV(h:jS xs i=some v):∃j,seqIndex? i xs.length=some j/\xs[j]?=some v/\j<xs.length/\ -xs.length<=i/\i<xs.length:=by unfold jS at h;cases e:vv xs.length i with
 |none=>rw[e]at h;cases h
 |some j=>obtain⟨h1,h2,I,J⟩:=wO e;grind
theorem fj{j:Nat}{v:B}(h:xs[j]?=some v):jS xs j=some v:=by
 have I:j<xs.length:=(wV.mp h).1;have e:vv xs.length j=some j:=by unfold vv;rw[gA (by omega),gA (by omega)];simp
 unfold jS;grind
noncomputable def h_(b:Expr):Prop:=∀o i,subscripted b false o i=operate [o,i] (getItem o i)
noncomputable def xh(X:Cx)(r:R2):Prop:=
 ∀(value slice:Expr)(pins:List (Addr×Obj))(s:Shared)(G:St)(H:Hp)(x y:V)(v u:Value)(Q:VK),Inv X pins G H s->RelV x v->RelV y u->r x y H Q->
  subscripted slice false v u=operate [v,u] (getItem v u)->wpAny (model X.prog X.w) X.A (subscriptTail value slice v u) (EP X pins G Q) X.xe s
noncomputable def QD(X:Cx)(id:String)(r:V->List V->Hp->VK->Prop):Prop:=
 ∀(pins:List (Addr×Obj))(s:Shared)(G:St)(H:Hp)(x:V)(xs:List V)(v:Value)(us:List Value)(Q:VK),Inv X pins G H s->RelV x v->Vals xs us->r x xs H Q->
  wpAny (model X.prog X.w) X.A (call (.builtin id) (v::us)) (EP X pins G Q) X.xe s
section
variable {X:Cx} {a b:Expr} {ta tb:TE} {pos:Pos}
theorem xh.or(h:xh X r)(h':xh X r'):xh X (λ x y H Q=>r x y H Q\/r' x y H Q):=by
 intro value slice pins s G H x y v u Q I J U q hs;rcases q with q|q
 .exact h value slice pins s G H x y v u Q I J U q hs
 .exact h' value slice pins s G H x y v u Q I J U q hs
theorem IX(J:xh X r)(U:PE X a ta)(hb:PE X b tb)(hs:h_ b):PE X (.Subscript a b pos) (HK r ta tb):=by intro pins s G H Q I h;exact Subscript_ (J5 U hb I h λ v u s2 x y H2 I2 rx ry q=>J a b pins s2 G H2 x y v u Q I2 rx ry q (hs _ _))
noncomputable def M3(K:PySem.W.Frag):R2:= λ x y H Q=>∃p xs i v,x= .ref p/\y= .int i/\iE K H p xs/\jS xs i=some v/\Q v H
noncomputable def ML(K:PySem.W.Frag):R2:= λ x y H Q=>∃p xs i v,x= .ref p/\y= .int i/\fQ K H p xs/\jS xs i=some v/\Q v H
noncomputable def LA:R2:= λ x y H Q=>∃z i c,x= .str z/\y= .int i/\z.length<=sizeLine/\jS z.cps.toList i=some c/\Q (.str ⟨#[c]⟩) H
theorem wM:xh X (M3 X.K):=by
 intro value slice pins s G H x y v u Q I rx ry h hs;obtain⟨p,xs,i,z,rfl,rfl,hq,he,q⟩:=h;cases rx;obtain⟨t,rfl⟩:=ry;obtain⟨its,r,pl,hz⟩:=I.list hq;obtain⟨j,h1,h2,h3,h4,h5⟩:=oV he;obtain⟨w,ew,J⟩:=r.get h2;have hl:=r.length;have hn:=jC;have fin:EP X pins G Q w s:=⟨z,H,I,J,q⟩;by_cases h0:0<=i
 .have U:i.toNat=j:=by
   rw[seqIndex_of h0 h5]at h1;exact Q9 h1
  exact item_listR pl.isList h0 (by omega) (by rw[U];simpa using ew) fin hs
 .have U:(i+its.toArray.size).toNat=j:=by rw[seqIndex_neg (by omega) h4]at h1;rw[xS,<- hl];exact Q9 h1
  exact subscriptTail_builtinR (x:=w) pl.isList.typeIs slot_list_getitem.lookup
   (wpAny_getItem_list_neg (Q:= λ r s'=>r=w/\EP X pins G Q r s') pl.isList (by omega) (by rw[xS] <;> omega) (by omega) (by rw[U];simpa using ew) ⟨rfl,fin⟩) hs
theorem JU:xh X (ML X.K):=by
 intro value slice pins s G H x y v u Q I U ry h hs;obtain⟨p,xs,i,z,rfl,rfl,hq,he,q⟩:=h;cases U;obtain⟨t,rfl⟩:=ry;obtain⟨its,r,pl,hz⟩:=I.tuple hq;obtain⟨j,h1,h2,h3,h4,h5⟩:=oV he;obtain⟨w,ew,J⟩:=r.get h2;have hl:=r.length;have hn:=jC;have fin:EP X pins G Q w s:=⟨z,H,I,J,q⟩;exact subscriptTail_builtinR (x:=w) pl.typeIs slot_tuple_getitem.lookup
  (getItem_tuple (j:=j) (Q:= λ r s'=>r=w/\EP X pins G Q r s') pl (by omega) (by omega) (by simp_all) (by simpa using ew) ⟨rfl,fin⟩) hs
theorem Ky:xh X LA:= by
 intro value slice pins s G H x y v u Q I rx ry h hs
 obtain ⟨z,i,c,rfl,rfl,hz,he,q⟩:=h
 obtain ⟨t,rfl⟩:=rx
 obtain ⟨t',rfl⟩:=ry
 obtain ⟨j,h1,h2,h3,h4,h5⟩:=oV he
 have hl:z.cps.toList.length=z.length:=by simp [Str.length]
 rw [hl] at h1 h4 h5
 have hn:=jC
 exact tail_any (typeIs_str s z t) slot_str_getitem.lookup (getItem_str (c:=c) (by
  grind) (by rw [h1];simpa using h2) ⟨.str ⟨#[c]⟩,H,I.tok _,⟨_,rfl⟩,q⟩) hs
noncomputable def Pa(K:PySem.W.Frag):R2:= λ x y H Q=>M3 K x y H Q\/ML K x y H Q\/LA x y H Q
theorem tF:xh X (Pa X.K):=wM.or (JU.or Ky)
theorem t9(its:List Value)(n j:Nat)(u:Value):Obj.mapSeq (·.setIfInBounds j u) { cls:= .type "list",data:= .seq its.toArray n }={ cls:= .type "list",data:= .seq (its.set j u).toArray n }:=by simp[Obj.mapSeq]
theorem Inv.lst{pins:List (Addr×Obj)}{G:St}{H:Hp}{s:Shared}{p:Addr}{xs:List V}(I:Inv X pins G H s)(h:H p=some (.lst xs)):
  ∃(its:List Value) (n:Nat),Vals xs its/\s.heap.get? p=some { cls:= .type "list",data:= .seq its.toArray n }/\xs.length<=sizeLine:=by obtain⟨z,its,n,r,e⟩:=I.hok p _ h;grind
theorem Inv.lstUpd{G:St}{H:Hp}{s:Shared}{p:Addr}{xs ys:List V}{its its':List Value}{n J:Nat}{f:Obj->Obj}(I:Inv X pins G H s)(h:H p=some (.lst xs))
  (U:s.heap.get? p=some { cls:= .type "list",data:= .seq its.toArray n })(hf:f { cls:= .type "list",data:= .seq its.toArray n }={ cls:= .type "list",data:= .seq its'.toArray J })(r:Vals ys its')(hz:ys.length<=sizeLine)(t:Nat):
  Inv X pins G (upd H p (.lst ys)) { s with heap:=s.heap.update p f,toks:=t }:=by
 have e:(s.heap.update p f).get? p=some { cls:= .type "list",data:= .seq its'.toArray J }:=by rw[ZJ f U (by rw[hf] <;> rfl),hf]
 refine I.write (x:=p) (e:=p) (by rw[h];trivial) (.inl rfl) (λ b u hb q=>(VL _ _ (Ne.symm hb)).trans q) ⟨_,e⟩ ?_;exact⟨hz,its',J,r,e⟩
noncomputable def NJ:V->V->V->Hp->(Hp->Prop)->Prop:= λ o i v H Q=>∃p xs k j,o= .ref p/\i= .int k/\H p=some (.lst xs)/\vv xs.length k=some j/\Q (upd H p (.lst (xs.set j v)))
theorem set_list:MW X NJ:=by
 intro pins s G H o i v ov iv u Q I ro ri rv h;obtain⟨p,xs,k,j,rfl,rfl,hp,hj,q⟩:=h;cases ro;obtain⟨t,rfl⟩:=ri;obtain⟨its,n,r,J,hz⟩:=I.lst hp;obtain⟨h1,h2,h3,h4⟩:=wO hj;have hl:=r.length;have hn:=jC;have I':Inv X pins G (upd H p (.lst (xs.set j v))) { s with heap:=s.heap.update p (Obj.mapSeq (·.setIfInBounds j u)) }:=
  I.lstUpd hp J (t9 its n j u) (r.set rv j) (by rw[List.length_set];exact hz) s.toks;by_cases h0:0<=k
 .have U:k.toNat=j:=by rw[seqIndex_of h0 h4]at h1;exact Q9 h1
  exact PySem.W.ki_setAt J h0 (by omega) (by rw[xS,<- hl];exact h4) (by rw[U];exact⟨_,I',q⟩)
 .have U:(k+its.toArray.size).toNat=j:=by rw[seqIndex_neg (by omega) h3]at h1;simp_all
  exact PySem.W.ki_setBack J (by omega) (by rw[xS,<- hl];exact h3) (by omega) (by rw[U];exact⟨_,I',q⟩)
theorem pE(lo hi:Option Int)(n:Nat):(sliceBounds lo hi none n).1=((HT.sIx n 0 lo:Nat):Int)/\(sliceBounds lo hi none n).2.1=((HT.sIx n n hi:Nat):Int)/\(sliceBounds lo hi none n).2.2=1:=by
 refine⟨?_,?_,rfl⟩;. cases lo with
  |none=>simp[sliceBounds,HT.sIx]
  |some i=>simp only[sliceBounds,HT.sIx];grind
 .cases hi with
  |none=>simp[sliceBounds,HT.sIx]
  |some i=>simp only[sliceBounds,HT.sIx];grind
theorem mR(its:List Value)(lo hi:Option Int):slicePick its.toArray lo hi none=((its.drop (HT.sIx its.length 0 lo)).take (HT.sIx its.length its.length hi-HT.sIx its.length 0 lo)).toArray:=by obtain⟨h1,h2,J⟩:=pE lo hi its.toArray.size;unfold slicePick;rw[h1,h2,J];simp only[sliceRange_one,pick_run] <;> rfl
noncomputable def O1(K:PySem.W.Frag):V->Option Int->Option Int->Hp->VK->Prop:= λ x lo hi H Q=>∃a xs,x= .ref a/\iE K H a xs/\∀p,H p=none->Q (.ref p) (upd H p (.lst (pS xs lo hi)))
theorem E2:I_ X (O1 X.K):=by intro pins s G H x v vl vu lo hi sl Q I rx hs pl pu h;obtain⟨a,xs,rfl,hx,q⟩:=h;cases rx;obtain⟨its,r,J,hz⟩:=I.list hx;have hlen:=r.length;refine⟨"list",_,slot_list_getitem.lookup,J.isList.typeIs,?_⟩;refine wpAny_getItem_list_slice J.isList hs pl pu .none (by simp) ?_ (by simp_all);rw[mR,<- hlen];refine⟨.ref s.heap.objs.size,_,I.laid (t':=s.toks) (o:= .lst (pS xs lo hi)) (λ b ob q=>zS _ q) (wN _) ?_,rfl,q _ (I.hok.fresh (wN _))⟩;exact⟨Q3 (j5 xs lo hi) hz,_,0,(r.drop (HT.sIx xs.length 0 lo)).take (HT.sIx xs.length xs.length hi-HT.sIx xs.length 0 lo),wF _ rfl⟩
noncomputable def gc:V->Bool
 | .non=>true
 | .bl _=>true
 | .int _=>true
 | .str _=>true
 |_=>false
noncomputable def yZ:V->V->Bool
 | .non,.non=>true
 | .bl a,.bl b=>a==b
 | .bl a,.int b=>(if a then 1 else 0)==b
 | .int a,.bl b=>a==(if b then 1 else 0)
 | .int a,.int b=>a==b
 | .str a,.str b=>a==b
 |_,_=>false
theorem zf {A:Around} {s:Shared} {y x:V} {u v:Value} (ry:RelV y u) (rx:RelV x v) (fy:gc y=true) (fx:gc x=true):SeqAt.EqAt A s u v (yZ y x):= by
 cases y with
 | non=>
  cases ry
  cases x with
  | non=>cases rx;exact SeqAt.EqAt.same _
  | bl b=>cases rx;exact SeqAt.EqAt.none_bool b
  | int b=>obtain ⟨t,rfl⟩:=rx;exact SeqAt.EqAt.none_int b t
  | str b=>obtain ⟨t,rfl⟩:=rx;exact SeqAt.EqAt.none_str b t
  | _=>exact absurd (show false=true from fx) uS
 | bl a=>
  cases ry
  cases x with
  | non=>cases rx;exact SeqAt.EqAt.bool_none a
  | bl b=>cases rx;exact SeqAt.EqAt.bool_bool a b
  | int b=>obtain ⟨t,rfl⟩:=rx;exact SeqAt.EqAt.bool_int a b t
  | str b=>obtain ⟨t,rfl⟩:=rx;exact SeqAt.EqAt.bool_str a b t
  | _=>exact absurd (show false=true from fx) uS
 | int a=>
  obtain ⟨t',rfl⟩:=ry
  cases x with
  | non=>cases rx;exact SeqAt.EqAt.int_none a t'
  | bl b=>cases rx;exact SeqAt.EqAt.int_bool a t' b
  | int b=>obtain ⟨t,rfl⟩:=rx;exact SeqAt.EqAt.int_int a t' b t
  | str b=>obtain ⟨t,rfl⟩:=rx;exact SeqAt.EqAt.int_str a t' b t
  | _=>exact absurd (show false=true from fx) uS
 | str a=>
  obtain ⟨t',rfl⟩:=ry
  cases x with
  | non=>cases rx;exact SeqAt.EqAt.str_none a t'
  | bl b=>cases rx;exact SeqAt.EqAt.str_bool a t' b
  | int b=>obtain ⟨t,rfl⟩:=rx;exact SeqAt.EqAt.str_int a t' b t
  | str b=>obtain ⟨t,rfl⟩:=rx;exact SeqAt.EqAt.str_str a t' b t
  | _=>exact absurd (show false=true from fx) uS
 | _=>exact absurd (show false=true from fy) uS
noncomputable def uf(x:V)(u:Value):Bool:=match u with
 | .none=>yZ .non x
 | .bool b=>yZ (.bl b) x
 | .int i _=>yZ (.int i) x
 | .str z _=>yZ (.str z) x
 |_=>false
theorem AK{x y:V}{u:Value}(r:RelV y u)(f:gc y=true):uf x u=yZ y x:=by cases y with
 |non=>cases r;rfl
 |bl b=>cases r;rfl
 |int i=>obtain⟨t,rfl⟩:=r;rfl
 |str z=>obtain⟨t,rfl⟩:=r;rfl
 |_=>exact absurd (show false=true from f) uS
theorem i9:∀{xs:List V}{us:List Value},Vals xs us->xs.all gc=true->us.any (uf x)=xs.any λ y=>yZ y x
 |_,_,.nil,_=>rfl
 |y::xs,u::us,.cons r t,f=>by rw[WG,Z3]at f;rw[XG,XG,AK r f.1,i9 t f.2]
theorem gX{x:V}{v:Value}(J:RelV x v)(fx:gc x=true):∀{xs:List V}{us:List Value},Vals xs us->xs.all gc=true->∀u∈us,SeqAt.EqAt A s u v (uf x u)
 |_,_,.nil,_=> λ u I=>by grind
 |y::xs,u::us,.cons r t,f=> λ U I=>by
  rw[WG,Z3]at f;rcases wW.mp I with rfl|I
  .rw[AK r f.1];exact zf r J f.1 fx
  .exact gX J fx t f.2 U I
noncomputable def Lu(x:V)(xs:List V):Bool:=xs.any λ y=>yZ y x
noncomputable def Pb(K:PySem.W.Frag)(neg:Bool):R2:= λ x y H Q=>∃p xs,y= .ref p/\(iE K H p xs\/fQ K H p xs)/\gc x=true/\xs.all gc=true/\Q (.bl (if neg then !Lu x xs else Lu x xs)) H
theorem ox:ij X (compareOp .In) (Pb X.K false):=by
 intro pins s G H x y v u Q I U ry h;obtain⟨p,xs,rfl,J,fx,fs,q⟩:=h;cases ry;rcases J with J|J
 .obtain⟨its,r,pl,hz⟩:=I.list J;refine SeqAt.in_listAt (uf x) pl.isList (λ w hw=>gX U fx r fs w (by simpa using hw)) ⟨.bl _,H,I,rfl,?_⟩;rw[show its.toArray.any (uf x)=its.any (uf x)by simp,i9 r fs];exact q
 .obtain⟨its,r,pl,hz⟩:=I.tuple J;refine SeqAt.in_tupleAt (uf x) pl (λ w hw=>gX U fx r fs w (by simpa using hw)) ⟨.bl _,H,I,rfl,?_⟩;rw[show its.toArray.any (uf x)=its.any (uf x)by simp,i9 r fs];exact q
theorem p3:ij X (compareOp .NotIn) (Pb X.K true):=by
 intro pins s G H x y v u Q I U ry h;obtain⟨p,xs,rfl,J,fx,fs,q⟩:=h;cases ry;rcases J with J|J
 .obtain⟨its,r,pl,hz⟩:=I.list J;refine SeqAt.notIn_listAt (uf x) pl.isList (λ w hw=>gX U fx r fs w (by simpa using hw)) ⟨.bl _,H,I,rfl,?_⟩;rw[show its.toArray.any (uf x)=its.any (uf x)by simp,i9 r fs];exact q
 .obtain⟨its,r,pl,hz⟩:=I.tuple J;refine SeqAt.notIn_tupleAt (uf x) pl (λ w hw=>gX U fx r fs w (by simpa using hw)) ⟨.bl _,H,I,rfl,?_⟩;rw[show its.toArray.any (uf x)=its.any (uf x)by simp,i9 r fs];exact q
theorem jh:c6 X (.builtin "len") (λ xs H Q=>∃p ys,xs=[.ref p]/\(iE X.K H p ys\/fQ X.K H p ys)/\Q (.int ys.length) H):=by
 intro pins s G H xs us Q I r h;obtain⟨p,ys,rfl,J,q⟩:=h;obtain⟨u,rfl,rx⟩:=vals1 r;cases rx;have hn:=jC;rcases J with J|J
 .obtain⟨its,U,pl,hz⟩:=I.list J;have hlen:=U.length;exact Calls.call_len_list pl.isList (by simp <;> omega) ⟨.int ys.length,H,I.tok _,⟨s.toks+1,by rw[xS,hlen]⟩,q⟩
 .obtain⟨its,U,pl,hz⟩:=I.tuple J;have hlen:=U.length;exact len_tuple pl (by simp <;> omega) ⟨.int ys.length,H,I.tok _,⟨s.toks+1,by rw[xS,hlen]⟩,q⟩
theorem iz:c6 X (.type "tuple") (λ xs H Q=>∃p ys,xs=[.ref p]/\((iE X.K H p ys/\∀l,H l=none->Q (.ref l) (upd H l (.tup ys)))\/(fQ X.K H p ys/\Q (.ref p) H))):=by
 intro pins s G H xs us Q I r h;obtain⟨p,ys,rfl,h⟩:=h;obtain⟨u,rfl,rx⟩:=vals1 r;cases rx;rcases h with⟨J,q⟩|⟨J,q⟩
 .obtain⟨its,U,pl,hz⟩:=I.list J;have hlen:=U.length;refine call_tuple_list pl.isList (λ h' kp=>?_) (by simp_all);have I1:Inv X pins G H { s with heap:=h' }:=I.kept (t':=s.toks) kp;have I2:Inv X pins G (upd H h'.objs.size (.tup ys)) { s with heap:=h'.push { cls:= .type "tuple",data:= .seq its.toArray } }:=
   I1.laid (t':=s.toks) (λ b o e=>zS _ e) (wN _) (show b4 X.prog X.w _ _ _ (.tup ys)from⟨hz,its,U,t8.new _ _⟩);exact⟨.ref h'.objs.size,_,I2,rfl,q _ (I1.hok.fresh (wN _))⟩
 .obtain⟨its,U,pl,hz⟩:=I.tuple J;exact call_tuple_same pl ⟨.ref p,H,I,rfl,q⟩
noncomputable def Qj(K:PySem.W.Frag)(T:String)(x:V)(H:Hp):Prop:=match x with
 | .str _=>T="str"
 | .int _=>T="int"
 | .ref p=>(T="list"/\∃xs,iE K H p xs)\/(T="tuple"/\∃o,K.lookup p=some o/\o.cls= .type "tuple"/\o.dict=none)\/
   (T="dict"/\((∃kvs,H p=some (.dK kvs))\/ ∃kvs,H p=some (.dT kvs)))\/(T="set"/\∃S n,H p=some (.set S n))
 |_=>False
theorem Js{G:St}{H:Hp}{s:Shared}{T:String}{x:V}{v:Value}(I:Inv X pins G H s)(r:RelV x v)(ty:Qj X.K T x H):
  s.TypeIs v T/\∀a,v= .ref a->∃ob,s.heap.get? a=some ob/\ob.dict=none:=by cases x with
 |str z=>obtain⟨t,rfl⟩:=r;cases(show T="str" from ty);exact⟨typeIs_str s z t,λ _ e=>nomatch e⟩
 |int i=>obtain⟨t,rfl⟩:=r;cases(show T="int" from ty);exact⟨typeIs_int s i t,λ _ e=>nomatch e⟩
 |ref p=>
  cases r;rcases ty with⟨rfl,xs,hq⟩|⟨rfl,o,J,hc,hd⟩|⟨rfl,J⟩|⟨rfl,S,n,J⟩
  .obtain⟨its,_,pl,_⟩:=I.list hq;refine⟨pl.isList.typeIs,λ a e=>?_⟩;obtain⟨o,n,e,c,hd,_⟩:=pl;simp_all
  .refine⟨⟨o,I.kIn p o J,hc⟩,λ a e=>?_⟩;cases e;exact⟨o,I.kIn _ o J,hd⟩
  .have z:∃o,s.heap.get? p=some o/\o.ExactDict:=by
    rcases J with⟨kvs,J⟩|⟨kvs,J⟩
    .obtain⟨_,_,_,_,o,_,_,e,ex,_⟩:=I.hok p _ J;exact⟨o,e,ex⟩
    .obtain⟨_,_,_,_,o,_,_,e,ex,_⟩:=I.hok p _ J;exact⟨o,e,ex⟩
   obtain⟨o,e,ex⟩:=z;refine⟨⟨o,e,ex.1⟩,λ a U=>?_⟩;cases U;exact⟨o,e,ex.2.1⟩
  .obtain⟨o,_,_,_,e,ex,_⟩:=I.hok p _ J;refine⟨⟨o,e,ex.1⟩,λ a U=>?_⟩;cases U;exact⟨o,e,ex.2.1⟩
 |_=>exact False.elim ty
noncomputable def QC(K:PySem.W.Frag)(T:String)(r:V->List V->Hp->VK->Prop)(to:TE)(t:TA):TE:= λ G H Q=>to G H λ x H1=>Qj K T x H1/\t G H1 λ xs H2=>r x xs H2 Q
variable {o e:Expr} {es:List Expr} {to:TE} {t:TA} {name:Str} {apos cpos:Pos} {T id:String} {r:V->List V->Hp->VK->Prop}
theorem B2(pa:PlainAttrs T)(slot:Slot T name id)(ae:typeOf (.builtin id)=pure (.type "method_descriptor"))(hm:QD X id r)(ho:PE X o to)(ha:PA X (e::es) t)
  (J:autoParam (attributeBase o name X.env (eval o X.env)=eval o X.env) aQ0._auto_1)
  (aa:((backTo cpos (starEach (e::es) X.env)).all (λ x=> !x.1)&&(backToKw cpos (keywordEach [] X.env)).all (λ x=>x.1.isSome)
   &&decide ((e::es).length+([]:List Keyword).length+(if([]:List Keyword).isEmpty then 0 else 1)<30))=true:=by rfl)
  (U:autoParam ((apos.endLine==cpos.line)=true) aQ0._auto_1)(hs:autoParam (starEach (e::es) X.env=(false,eval e X.env)::starEach es X.env) aQ0._auto_1)(ab:autoParam ((backTo cpos (starEach es X.env)).any (·.1)=false) aQ0._auto_1):
  PE X (.Call (.Attribute o name apos) (e::es) [] cpos) (QC X.K T r to t):=by intro pins s G H Q I h;refine wpAny_Call_method_late J aa U rfl (b9 (ho pins s G H _ I h) λ v s1 ⟨x,H1,I1,r1,ty,q1⟩=>?_);obtain⟨h1,h2⟩:=Js I1 r1 ty;refine⟨T,id,pa,slot,ae,h1,h2,?_⟩;have hA:=ha cpos pins s1 G H1 _ I1 q1;rw[hs]at hA|-;refine Calls.callWith_builtin (by grind) (Calls.evalArgs_plain ?_);exact b9 hA λ us s2 ⟨vs,H2,I2,r2,q2⟩=>hm pins s2 G H2 x vs v us Q I2 r1 r2 q2
end
noncomputable def NQ(X:Cx)(id:String)(r:V->List V->Hp->VK->Prop):Prop:=
 ∀(pins:List (Addr×Obj))(s:Shared)(G:St)(H:Hp)(x:V)(xs:List V)(v:Value)(us:List Value)(Q:VK),Inv X pins G H s->RelV x v->Vals xs us->r x xs H Q->
  wpAny (model X.prog X.w) X.A (call (.builtin id) (v::us)) (EP X pins G Q) X.xe s
theorem Vals.one:∀{x:V}{us:List Value},Vals [x] us->∃u,us=[u]/\RelV x u
 |_,_,.cons r .nil=>⟨_,rfl,r⟩
theorem Vals.two{x y:V}{us:List Value}(h:Vals [x,y] us):∃u v,us=[u,v]/\RelV x u/\RelV y v:=by cases h with|cons r t=>cases t with|cons q t=>cases t;exact⟨_,_,rfl,r,q⟩
theorem Vals.eraseIdx:∀{xs:List V}{us:List Value}(i:Nat),Vals xs us->Vals (xs.eraseIdx i) (us.eraseIdx i)
 |_,_,_,.nil=> .nil
 |_,_,0,.cons _ t=>t
 |_,_,i+1,.cons r t=> .cons r (Vals.eraseIdx i t)
section
variable {X:Cx} {pins:List (Addr × Obj)} {G:St} {H:Hp} {s:Shared} {l:Addr} {xs ys:List V}
theorem Inv.lset{its its':List Value}{n:Nat}{f:Array Value->Array Value}{t':Nat}(I:Inv X pins G H s)(J:H l=some (.lst xs))
  (e:s.heap.get? l=some { cls:= .type "list",data:= .seq its.toArray n })(hf:f its.toArray=its'.toArray)(U:Vals ys its')(hz:ys.length<=sizeLine):
  Inv X pins G (upd H l (.lst ys)) { s with heap:=s.heap.update l (Obj.mapSeq f),toks:=t' }:=by have q:=PySem.IsL.update e f;rw[hf]at q;refine I.write (x:=l) (e:=l) (by rw[J];exact trivial) (.inl rfl) (λ b' u hb hu=>(VL s.heap (Obj.mapSeq f) (Ne.symm hb)).trans hu) ⟨_,q⟩ ?_;exact⟨hz,its',_,U,q⟩
theorem Inv.lnew(I:Inv X pins G H s)(J:Vals ys its)(hz:ys.length<=sizeLine):
  Inv X pins G (upd H s.heap.objs.size (.lst ys)) { s with heap:=s.heap.push { cls:= .type "list",data:= .seq its.toArray },toks:=t' }:=
 I.laid (λ _ _ q=>zS _ q) (wN _) ⟨hz,its,0,J,wF _ rfl⟩
theorem Inv.fresh(I:Inv X pins G H s):H s.heap.objs.size=none:=I.hok.fresh (wN _)
theorem Inv.lstM(I:Inv X pins G H s)(J:H l=some (.lst xs)):xs.length<=sizeLine/\∃(its:List Value) (n:Nat),Vals xs its/\xs.length=its.length/\s.heap.get? l=some { cls:= .type "list",data:= .seq its.toArray n }:=by obtain⟨z,its,n,r,e⟩:=I.hok l _ J;exact⟨z,its,n,r,r.length,e⟩
end
section
variable {X:Cx}
noncomputable def EF:V->List V->Hp->VK->Prop:= λ x vs H Q=>∃l xs y,x= .ref l/\vs=[y]/\H l=some (.lst xs)/\xs.length<sizeLine/\Q .non (upd H l (.lst (xs++[y])))
theorem nU:NQ X "list.append" EF:=by intro pins s G H x vs v us Q I U rv h;obtain⟨l,xs,y,rfl,rfl,J,hz,q⟩:=h;cases U;obtain⟨u,rfl,ru⟩:=rv.one;obtain⟨z,its,n,r,hl,e⟩:=I.lstM J;refine call_meets F.slot_list_append ⟨_,e,rfl⟩ F.entry_list_append (F.args_list_append_2 _ _) (PySem.list_append l its.toArray n u (by rw[xS];omega)) ⟨e,?_⟩;refine⟨.non,_,I.lset (its':=its++[u]) J e (by simp) (r.append (.cons ru .nil)) ?_,rfl,q⟩;grind
noncomputable def Jd:V->List V->Hp->VK->Prop:= λ x vs H Q=>∃l xs i k y,x= .ref l/\vs=[.int i]/\H l=some (.lst xs)/\ -(2^63)<=i/\i<2^63/\seqIndex? i xs.length=some k/\xs[k]?=some y/\Q y (upd H l (.lst (xs.eraseIdx k)))
theorem BB:NQ X "list.pop" Jd:=by
 intro pins s G H x vs v us Q I rx rv h;obtain⟨l,xs,i,k,y,rfl,rfl,U,h1,h2,hk,hy,q⟩:=h;cases rx;obtain⟨u,rfl,ru⟩:=rv.one;obtain⟨t,rfl⟩:=ru;obtain⟨z,its,n,r,hl,e⟩:=I.lstM U;obtain⟨w,hw,J⟩:=r.get hy;refine call_meets F.slot_list_pop ⟨_,e,rfl⟩ F.entry_list_pop (F.args_list_pop_2 _ _)
  (MeetsSeq.list_pop_at l its.toArray n i t k w (fitsIndex_both h1 h2) (by rw[xS,<- hl];exact hk) (by rw[<- QW];exact hw) (by rw[xS];omega)) ⟨e,?_⟩;refine⟨y,_,I.lset (its':=its.eraseIdx k) U e ?_ (r.eraseIdx k) ?_,J,q⟩;. rw[List.eraseIdxIfInBounds_toArray]
 grind
end
section
set_option maxRecDepth 100000 in
end
end L2
namespace Att
open PySem PySem.W PySem.Calls PyProof.Rows
theorem j7:∀(ns:List Int)(vs:List Value),WellAll P h vs (ns.map WData.int)->IntsAre vs ns:=by intro ns;induction ns with
 |nil=>intro vs w;cases w;exact .nil
 |cons n ns I=>intro vs w;cases w with
  |cons a b=>cases a;exact .cons _ _ (I _ b)
theorem script_of{l:OpenLaw}{n:Nat}(hn:l.most=some n){P:Params}{h:Heap}{args:List WData}{vals:List Value}
  (I:l.row.toRowW.claim.pre args=true)(aa:WellAll P h vals args):
  ∃a vs ns,vals=[Value.ref a]/\args=[WData.list (ns.map WData.int)]/\h.get? a=some { cls:= .type "list",data:= .seq vs.toArray }/\IntsAre vs ns/\ns.length<=n:=by
 have ab:WShape.hasAll [] args [.list .int]=true:=(pre_splitW I).1;have hc:l.pre.holds [] { args:=args }=true:=(pre_splitW I).2;obtain⟨d,r,rfl,h1,h2⟩:=hasAllW_cons ab;obtain rfl:=hasAllW_nil h2;obtain⟨xs,rfl,h3⟩:=hasW_list h1;obtain⟨ns,rfl⟩:=items_int h3;have hlen:ns.length<=n:=by
  have U:(WTm.not (.lt (.lit (.int n)) (.len (.arg 0)))).holds [] { args:=[.list (ns.map .int)] }=true:=by have U:=(holds_andW hc).1;rw[hn]at U;exact U
  have h5:=condW_of U (w_not (w_lt w_lit (w_len_list (w_arg rfl))));simp_all
 cases aa with
 |cons w1 w2=>cases w2;cases w1 with
  |list ho J=>exact⟨_,_,ns,rfl,rfl,ho,j7 ns _ J,hlen⟩
theorem post_true(l:OpenLaw)(args:List WData):l.row.toRowW.claim.post args (.bool true) args=true:=
 postW_of (r:=l.row.toRowW) (X:=(true==true))
  (show WShape.has [] (.bool true) .bool=true by rfl)
  (show(WTm.eq .res (.lit (.bool true))).value [] { args:=args,res:=some (.bool true),after:=args }=some (.bool (true==true))from w_eq_bool (w_res rfl) w_lit) rfl
end Att
namespace L2
open PySem PySem.Spec PyProof.Rows
theorem ia:∀{vs:List Value}{ns:List Int},IntsAre vs ns->Vals (ns.map V.int) vs
 |_,_,.nil=> .nil
 |_,_,.cons n t h=> .cons ⟨t,rfl⟩ (ia h)
noncomputable def d6(s:Stmt):Arguments:=match s with
 | .FunctionDef _ a _ _ _ _ _ _ _ _=>a
 |_=>{ posonlyargs:=[],args:=[],vararg:=none,kwonlyargs:=[],kw_defaults:=[],kwarg:=none,defaults:=[] }
noncomputable def bQ(s:Stmt):List Stmt:=match s with
 | .FunctionDef _ _ b _ _ _ _ _ _ _=>b
 |_=>[]
noncomputable def aX(s:Stmt):Scope:=match s with
 | .FunctionDef _ _ _ _ _ _ sc _ _ _=>sc
 |_=>{ kind:= .function,names:=[],isGenerator:=false,isCoroutine:=false }
noncomputable abbrev eZ:zV:= λ _ _ _ _ _ _=>False
noncomputable abbrev E0:XK:= λ _ _ _=>False
theorem zx:Passes eZ X E0:= λ _ _ _ _ _ _ _ h=>h.elim
structure DD (K:PySem.W.Frag) (x qual:Str) (st:Stmt) (f:Addr) (fd:FuncData):Prop where
 ex:∃(oc:Value) (od:Option Addr) (kV doc pm:Value) (an:Option Addr) (cdv ct:Value) (osl:Array (Option Value)),
  fd=PySem.W.fnOf x qual (d6 st) (bQ st) (aX st) .none kV doc pm an cdv ct/\K.lookup f=some ⟨oc,od,.func fd,osl⟩/\PySem.W.codeIn K cdv qual=true
 kp:PySem.W.keepIn K (.ref f)=true
section
variable {P:Program} {w:World} {K:PySem.W.Frag} {mg:Str->Option Value} {base:Heap}
theorem DD.ok{st:Stmt}{f:Addr}{fd:FuncData}{N ps:List Str}{k:Nat}{sp:Sp}(F:DD K x qual st f fd)(S:cg N ps (aX st))(len:∀vs H Q E,sp vs H Q E->vs.length=ps.length)
  (I:∀(cdv:Value)(A:Around)(outer:List Env)(s:Shared)(H:Hp)(vs:List V)(Q:VK)(E:XK),cb k (A.deeper (envOfC qual (aX st) s.heap.objs.size f cdv))->sp vs H Q E->
   ∃t,tx (fU eZ P w K mg base N qual (aX st) f cdv A outer s H E).nox (bQ st) t/\t { nx:= λ _ H'=>Q .non H',rt:=Q } (start N vs) H):dX P w K mg base eZ (k+1) f fd ps sp:=by obtain⟨oc,od,kV,doc,pm,an,cdv,ct,aa,rfl,lk,J⟩:=F.ex;refine HU lk J S len λ A outer s H vs Q E hr U=>?_;obtain⟨t,h,q⟩:=I cdv A outer s H vs Q E hr U;exact⟨t,h.nox,q⟩
theorem DD.binds{st:Stmt}{f:Addr}{fd:FuncData}{ps:List Str}(F:DD K x qual st f fd)
  (h:∀(kV doc pm:Value)(an:Option Addr)(cdv I:Value)(us:List Value),us.length=ps.length->bindArgs (PySem.W.fnOf x qual (d6 st) (bQ st) (aX st) .none kV doc pm an cdv I) ⟨us,[]⟩=pure (ps.zip us)):Binds K fd ps []:=by obtain⟨oc,od,kV,doc,pm,an,cdv,I,J,rfl,lk,U⟩:=F.ex;exact .all (h kV doc pm an cdv I)
theorem B9{st:Stmt}{f:Addr}{U:Value}{od an:Option Addr}{I:Array (Option Value)}{kV doc pm cdv J:Value}(l:K.lookup f=some ⟨U,od,.func (PySem.W.fnOf x qual (d6 st) (bQ st) (aX st) .none kV doc pm an cdv J),I⟩)
  (c:PySem.W.codeIn K cdv qual=true)(k:PySem.W.keepIn K (.ref f)=true):DD K x qual st f (PySem.W.fnOf x qual (d6 st) (bQ st) (aX st) .none kV doc pm an cdv J):=⟨⟨U,od,kV,doc,pm,an,cdv,J,I,rfl,l,c⟩,k⟩
end
theorem Kk{A B:Prop}(h:B):if false=true then A else B:=by grind
theorem JN{A B:Prop}(h:A):if true=true then A else B:=by grind
noncomputable def Cc(H H':Hp):Prop:=∀b o,H b=some o->H' b=some o
end L2
namespace L2
open PySem
theorem p6{elt target iter:Expr}{ifs:List Expr}{scope:Scope}{pos:Pos}{it acc:Value}{env:Env}(I:Nat->Shared->Prop)
  (turn:∀n s,I n s->wpAny (model prog w) A (pyNext it) (λ r s1=>match r with
   |none=>R (.ok .next) s1
   |some v=>wpAny (model prog w) A (letOwnedTupleGo target it v) (λ _ s2=>wpAny (model prog w) A (assign target env v) (λ _ s3=>
     wpAny (model prog w) A (forIn ifs true λ c r=>if r=true then do let ok<- isTrue c env (eval c env);pure (ForInStep.yield ok)else pure (ForInStep.yield r)) (λ ok s4=>
      if ok=true then wpAny (model prog w) A (eval elt env) (λ x s5=>
       wpAny (model prog w) A (call (.builtin "list.append") [acc,x]) (λ _ s6=>∃m,m<n/\I m s6) (λ _ _=>False) s5) (λ _ _=>False) s4
      else∃m,m<n/\I m s4) (λ _ _=>False) s3) (λ _ _=>False) s2) (λ _ _=>False) s1) (λ _ _=>False) s)
  (n:Nat)(h:I n s):
  codeAny (model prog w) A (.compLoop (.ListComp elt [⟨target,iter,ifs,0⟩] scope pos) 0 it acc env) R s:=by refine codeAny_loop rfl I (λ n s hI=>?_) n h;show wpAny _ A ((compTurn (.ListComp elt [⟨target,iter,ifs,0⟩] scope pos) 0 it acc env).onRaise (λ x=>do noteFrame x env;theTreesLotGoes x)) _ _ s;refine wpAny_noted ?_;rw[compTurn_list];refine zN (VE (zN (gO (turn n s hI) (λ r ae o=>?_) λ _ _ h'=>h'.elim)));cases r with
 |none=>exact kT o
 |some v=>refine zN (gO o (λ _ af J=>?_) λ _ _ h'=>h'.elim);refine zN (gO J (λ _ ag U=>zN (gO U (λ ok ah C=>?_) λ _ _ h'=>h'.elim)) λ _ _ h'=>h'.elim);cases ok with
  |false=>exact kT ⟨rfl,C⟩
  |true=>exact zN (zN (gO C (λ x ai aa=>zN (gO aa (λ _ aj ab=>kT (kT ⟨rfl,ab⟩)) λ _ _ h'=>h'.elim)) λ _ _ h'=>h'.elim))
noncomputable def c7(cells:List (Str×Addr)):List (Str×NameKind)->List (Str×Addr)->List (Str×Addr)
 |[],acc=>acc
 |(n,k)::r,acc=>if k== .free then(match cells.lookup n with|some c=>c7 cells r ((n,c)::acc)|none=>c7 cells r acc)else c7 cells r acc
theorem dR(h:∀n,(n,NameKind.free)∈scope.names->∃c,env.cells.lookup n=some c):closureFor scope env=pure (c7 env.cells scope.names []):=by
 have gen:∀(names:List (Str×NameKind))(acc:List (Str×Addr)),(∀n,(n,NameKind.free)∈names->∃c,env.cells.lookup n=some c)->
   (forIn names acc (λ x r=>match x with
    |(name,kind)=>if(kind== .free)=true then do let a<- cellOf env name;pure (ForInStep.yield ((name,a)::r))else pure (ForInStep.yield r)):Sem (List (Str×Addr)))=pure (c7 env.cells names acc):=by intro names;induction names with
  |nil=>intro acc _;rfl
  |cons x r C=>
   intro acc hx;obtain⟨n,k⟩:=x;rw[List.forIn_cons];unfold c7;by_cases I:(k==NameKind.free)=true
   .have e:k= .free:=by simpa using I
    subst e;obtain⟨c,o⟩:=hx n uT;dsimp only;rw[o];have:cellOf env n=pure c:=by unfold cellOf;rw[o]
    rw[this];exact C _ λ m hm=>hx m (uN _ hm)
   grind
 unfold closureFor;grind
theorem gH:∀{names:List (Str×NameKind)}{acc:List (Str×Addr)}{x:Str}{c:Addr},(x,c)∈c7 cells names acc->(x,c)∈acc\/(cells.lookup x=some c/\(x,NameKind.free)∈names)
 |[],_,_,_,h=> .inl h
 |(n,k)::r,acc,x,c,h=>by
  unfold c7 at h;split at h
  .rename_i I;have e:k=NameKind.free:=by simpa using I
   subst e;split at h
   .rename_i d hd;rcases gH h with h|⟨o,C⟩
    .rcases wW.mp h with e|h
     .cases e;exact .inr ⟨hd,uT⟩
     .exact .inl h
    simp_all
   .rcases gH h with h|⟨o,C⟩
    .exact .inl h
    .exact .inr ⟨o,uN _ C⟩
  .rcases gH h with h|⟨o,C⟩
   .exact .inl h
   .exact .inr ⟨o,uN _ C⟩
theorem fJ:∀{names:List (Str×NameKind)}{acc:List (Str×Addr)}{x:Str},((x,NameKind.free)∈names/\(cells.lookup x).isSome=true)\/(acc.lookup x).isSome=true->((c7 cells names acc).lookup x).isSome=true
 |[],_,_,h=>h.elim (λ z=>nomatch z.1) id
 |(n,k)::r,acc,x,h=>by
  unfold c7;by_cases o:(k==NameKind.free)=true;. rw[gA o];cases hd:cells.lookup n with
   |none=>refine fJ ?_;grind
   |some d=>refine fJ ?_;grind
  .rw[gL o];refine fJ ?_;rcases h with⟨C,I⟩|h
   .rcases wW.mp C with e|C
    .cases e;simp at o
    .exact .inl ⟨C,I⟩
   .exact .inr h
theorem c9:∀(names:List (Str×NameKind))(n:Nat)(acc:List (Str×Addr)),cellsFrom n names acc=cellsFrom n names []++acc
 |[],_,_=>rfl
 |(x,k)::r,n,acc=>by
  unfold cellsFrom;split;. rw[c9 r (n+1) ((x,n)::acc),c9 r (n+1) [(x,n)],ZY];rfl
  .exact c9 r n acc
theorem eB:∀(names:List (Str×NameKind))(n:Nat)(x:Str)(c:Addr),(x,c)∈cellsFrom n names []->(x,NameKind.cell)∈names
 |[],_,_,_,h=>nomatch h
 |(y,k)::r,n,x,c,h=>by
  unfold cellsFrom at h;split at h
  .rw[c9]at h;rcases fD.mp h with h|h
   .exact uN _ (eB r (n+1) x c h)
   simp_all
  .exact uN _ (eB r n x c h)
theorem gM{s:Shared}{scope:Scope}{globals:Addr}{cl:List (Str×Addr)}{qual:Str}{outer:Env}{Q:Env->Shared->Prop}
  (o:Q (newEnv scope s.heap.objs.size globals (cellsFrom (s.heap.objs.size+1) scope.names cl) qual none .none (some outer) builtinsNs) { s with heap:=pushCells (s.heap.push { cls:= .type "dict",data:= .dict #[] }) scope.names }):
  wpAny M A (newFunctionEnv scope globals cl [] qual none .none (some outer)) Q E s:=by simp only[newFunctionEnv,Option.isSome_some,W0];refine zN (wpAny_alloc ?_);refine zN (wpAny_layCells _ (λ name kind cells=>by rfl) _ _ _ _ ?_);rw[show({ s with heap:=s.heap.push { cls:= .type "dict",data:= .dict #[] } }:Shared).heap.objs.size=s.heap.objs.size+1 from QO ..];exact zN (kT (kT o))
end L2
namespace L2
open PySem PySem.Spec PyProof.Rows
noncomputable def cM(N own:List Str)(o scope:Scope):Bool:=
 scope.names.all (λ x=> !(x.2== .local)||(scope.names.lookup x.1==some .local))&&
 (scope.names.all (λ x=> !(x.2== .free)||(o.names.lookup x.1==some .cell||o.names.lookup x.1==some .free))&&
 (scope.names.all (λ x=> !(x.2== .local||x.2== .cell)|| !(N.contains x.1))&&
 (own.all (λ x=>scope.names.all λ y=> !(y.1==x)|| !(y.2== .free))&&
 scope.names.all (λ x=> !(x.2== .free)||scope.names.all λ y=> !(y.1==x.1)||(y.2== .free)))))
structure jW (N own:List Str) (sc0 scope:Scope):Prop where
 loc:∀x ∈ scope.names,x.2=.local->scope.names.lookup x.1=some .local
 free:∀n,(n,NameKind.free) ∈ scope.names->sc0.names.lookup n=some .cell ∨ sc0.names.lookup n=some .free
 out:∀n k,(n,k) ∈ scope.names->(k=.local ∨ k=.cell)->n ∉ N
 own:∀x ∈ own,(x,NameKind.free) ∉ scope.names
 one:∀n k,(n,NameKind.free) ∈ scope.names->(n,k) ∈ scope.names->k=.free
theorem g_(h:cM N own C scope=true):jW N own C scope:=by
 unfold cM at h;simp only[Z3,ZV,Bool.or_eq_true,Bool.not_eq_true',beq_iff_eq,Bool.or_eq_false_iff]at h;obtain⟨U,h2,h3,h4,h5⟩:=h;refine⟨λ x hx e=>?_,λ n o=>?_,λ n k o e hN=>?_,λ x hx o=>?_,λ n k o hk=>?_⟩
 .rcases U x hx with z|z
  .rw[e]at z;simp at z
  .exact z
 .rcases h2 _ o with z|z
  .simp at z
  .exact z
 .rcases h3 _ o with⟨I,J⟩|z
  .rcases e with e|e
   .rw[e]at I;simp at I
   .rw[e]at J;simp at J
  .have:N.contains n=true:=by simpa using hN
   rw[this]at z;cases z
 .rcases h4 x hx _ o with z|z
  .simp at z
  .simp at z
 grind
noncomputable def cG(N N':List Str)(scope:Scope):Bool:=(N'.length==N.length)&&(N'.zip N).all λ p=>p.1==p.2||(scope.names.lookup p.1).isNone
structure o4 (N N':List Str) (scope:Scope):Prop where
 len:N'.length=N.length
 same:∀(i:Nat) x,N'[i]? = some x->N[i]? = some x ∨ scope.names.lookup x=none
theorem ig(h:cG N N' scope=true):o4 N N' scope:=by
 unfold cG at h;simp only[Z3,beq_iff_eq,ZV,Bool.or_eq_true,Option.isNone_iff_eq_none]at h;refine⟨h.1,λ i x e=>?_⟩;have C:i<N'.length:=(wV.mp e).1;have o:i<N.length:=by rw[<- h.1];exact C
 have I:(N'.zip N)[i]?=some (x,N[i]):=by rw[List.getElem?_zip_eq_some];exact⟨e,kW o⟩
 grind
noncomputable def blk(X:Cx)(N' own:List Str)(scope:Scope)(s:Shared)(H:Hp)(fp:List Addr)(pins:List (Addr×Obj)):Cx where
 prog:=X.prog
 w:=X.w
 K:=X.K
 mg:=X.mg
 base:=X.base
 A:=X.A
 N:=N'++own
 s₀:=s
 H₀:=H
 env:={ newEnv scope s.heap.objs.size X.env.globals (cellsFrom (s.heap.objs.size+1) scope.names (c7 X.env.cells scope.names [])) X.env.qual none .none (some X.env) builtinsNs with scope:=relabel scope X.env }
 outer:=X.stack
 stack:=X.stack
 ex:=fp
 fn:= λ x=>own.contains x
 calm:=X.calm
 pn:=X.pn++pins
 xe:= λ _ _=>False
theorem gF{env:Env}:∀{names:List (Str×NameKind)}{x:Str},
  (names.map λ(n,k)=>if(k==NameKind.free&&env.scope.kind== .function&&env.kindOf n==some .cell)then(n,NameKind.cell)else(n,k)).lookup x=
   (names.lookup x).map λ k=>if(k==NameKind.free&&env.scope.kind== .function&&env.kindOf x==some .cell)then NameKind.cell else k
 |[],_=>rfl
 |(n,k)::r,x=>by have o:=@gF env r x;grind
theorem cW(h:(relabel scope env).names.lookup x=some o):∃k,scope.names.lookup x=some k/\(o=k\/(k= .free/\o= .cell)):=by have h':(scope.names.map λ(n,k)=>if(k==NameKind.free&&env.scope.kind== .function&&env.kindOf n==some .cell)then(n,NameKind.cell)else(n,k)).lookup x=some o:=h;rw[gF]at h';cases e:scope.names.lookup x with
 |none=>grind
 |some k=>grind
section
variable {X:Cx} {pins:List (Addr × Obj)} {G:St} {H:Hp} {s:Shared} {N' own:List Str} {scope:Scope} {fp:List Addr}
theorem h9(I:Inv X pins G H s)(S:jW N' own X.env.scope scope):∀x c,(cellsFrom (s.heap.objs.size+1) scope.names (c7 X.env.cells scope.names [])).lookup x=some c->
  ((x,c)∈cellsFrom (s.heap.objs.size+1) scope.names []/\(pushCells (s.heap.push { cls:= .type "dict",data:= .dict #[] }) scope.names).IsCell c none/\s.heap.objs.size+1<=c/\(x,NameKind.cell)∈scope.names)\/
   (X.env.cells.lookup x=some c/\(x,NameKind.free)∈scope.names/\c<s.heap.objs.size):=by
 intro x c h;have ok:=cellsFrom_ok scope.names (s.heap.push { cls:= .type "dict",data:= .dict #[] }) (s.heap.objs.size+1) [] ⟨λ _ _ hm=>(nomatch hm),List.Pairwise.nil⟩ (by simp);rw[QO]at ok;have hm:=mem_of_lookup h;rw[c9]at hm;rcases fD.mp hm with hm|hm
 .exact .inl ⟨hm,(ok.empty x c hm).1,(ok.empty x c hm).2,eB _ _ _ _ hm⟩
 .rcases gH hm with z|⟨o,C⟩
  .exact nomatch z
  .obtain⟨v,q⟩:=I.cell x c o;exact .inr ⟨o,C,q.lt⟩
theorem Inv.blkKeep{s:Shared}{scope:Scope}:∀(b:Addr)(o:Obj),s.heap.get? b=some o->(pushCells (s.heap.push { cls:= .type "dict",data:= .dict #[] }) scope.names).get? b=some o:= λ b o e=>
 pushCells_keeps _ _ b o (zS _ e)
theorem Inv.blk(I:Inv X pins G H s)(hf:∀b∈fp,dj X pins H b)(ho:∀b∈fp,b<s.heap.objs.size)(hk:scope.kind= .function)(S:jW N' own X.env.scope scope)(Mk:o4 X.N N' scope):
  Inv (blk X N' own scope s H fp pins) [] (G++List.replicate own.length none) H { s with heap:=pushCells (s.heap.push { cls:= .type "dict",data:= .dict #[] }) scope.names }:=by
 have C:=h9 I S;have keep:=@Inv.blkKeep s scope;have aa:∀x,((relabel scope X.env).names.lookup x=some .cell\/(relabel scope X.env).names.lookup x=some .free)->∃c,(cellsFrom (s.heap.objs.size+1) scope.names (c7 X.env.cells scope.names [])).lookup x=some c:=by
  intro x hx;have:∃k,scope.names.lookup x=some k/\(k= .cell\/k= .free):=by
   rcases hx with hx|hx
   .obtain⟨k,e,z⟩:=cW hx;rcases z with z|⟨z,_⟩
    .exact⟨k,e,.inl z.symm⟩
    .exact⟨k,e,.inr z⟩
   .obtain⟨k,e,z⟩:=cW hx;rcases z with z|⟨z,_⟩
    .exact⟨k,e,.inr z.symm⟩
    .exact⟨k,e,.inr z⟩
  obtain⟨k,e,z⟩:=this;refine YF.mp (W2 scope.names _ _ ?_);rcases z with z|z
  .subst z;exact .inl e
  .subst z;have hm:=mem_of_lookup e;obtain⟨c,hc⟩:=I.ok.has x (S.free x hm);exact .inr (fJ (.inl ⟨hm,by rw[hc];rfl⟩))
 have sub:∀b,b∈y8 X.stack->b∈X.env.locals::X.fs:=I.stkSub;refine⟨⟨I.ok.mod,hk,I.ok.glob,I.ok.blt,wN _,λ x y c h1 h2=>?_,λ x hx=>aa x hx,λ x c hx h=>?_,I.ok.hd,I.ok.frames,.inl rfl,λ b hb=>⟨?_,λ x c h=>?_⟩,λ b o e=>I.bs b o e,?_,λ b o e hb=>?_,λ b hb hs=>?_,I.stack,I.stkFree,I.tb⟩,
  rfl,I.bare,Un.kept keep,⟨_,(Heap.Ns.new s.heap (.type "dict")).keeps (pushCells_keeps _ _),λ i x v h1 h2 J=>?_⟩,λ x c h=>?_,I.hok.fresh (wN _),λ x c h=>?_,λ p hp=>?_,I.hok.kept keep,?_⟩;. -- inj
  have ok:=cellsFrom_ok scope.names (s.heap.push { cls:= .type "dict",data:= .dict #[] }) (s.heap.objs.size+1) [] ⟨λ _ _ hm=>(nomatch hm),List.Pairwise.nil⟩ (by rw[QO];exact wN _);rw[QO]at ok;rcases C x c h1 with⟨a1,_,a3,_⟩|⟨a1,_,a3⟩ <;> rcases C y c h2 with⟨b1,_,b3,_⟩|⟨b1,_,b3⟩
  .exact name_of_addr ok.apart a1 b1
  .exact absurd b3 (Y4.mpr (VM a3))
  .exact absurd a3 (Y4.mpr (VM b3))
  .exact I.ok.inj x y c a1 b1
 .rcases C x c h with⟨_,_,a3,_⟩|⟨_,a2,_⟩
  .exact VM a3
  .have aj:own.contains x=true:=hx;exact absurd a2 (S.own x (by simpa using aj))
 .exact fR (ho b hb)
 .rcases C x c h with⟨_,_,a3,_⟩|⟨a1,_,_⟩
  .intro z;subst z;exact absurd (ho _ hb) (Y4.mpr (VM a3))
  .exact(hf b hb).2.2.2.2.1 x c a1
 .exact Q3 I.ok.bsz I.sz
 .rcases(hf b hb).2.2.2.1 with z|z
  .exact I.ok.noex b o e z
  .exact absurd (wR e) (Y4.mpr (Q3 I.ok.bsz z))
 .rcases wW.mp (sub b hs)with z|z
  .exact(hf b hb).2.1 z
  .exact(hf b hb).2.2.1 z
 .
  have hi:i<G.length:=by
   by_cases hi:i<G.length;. exact hi
   .rw[ZA (by omega),VD]at h2;split at h2 <;> cases h2
  rw[QL hi]at h2;have ah:N'[i]?=some x:=by have:(N'++own)[i]?=some x:=h1;rwa [QL (by rw[Mk.len,<- I.len];exact hi)]at this
  have ab:x∈N':=Y5 ah;have ae:∃k,scope.names.lookup x=some k:=by rcases J with J|J|J <;> (obtain⟨k,e,_⟩:=cW J;exact⟨k,e⟩)
  have hN:X.N[i]?=some x:=by
   rcases Mk.same i x ah with z|z
   .exact z
   .obtain⟨k,e⟩:=ae;rw[z]at e;cases e
  have U:scope.names.lookup x=some .free/\((relabel scope X.env).names.lookup x=some .cell\/(relabel scope X.env).names.lookup x=some .free):=by
   rcases J with J|J|J
   .obtain⟨k,e,z⟩:=cW J;rcases z with z|⟨_,z⟩
    .exact absurd ab (S.out x k (mem_of_lookup e) (.inl z.symm))
    .cases z
   .obtain⟨k,e,z⟩:=cW J;rcases z with z|⟨z,_⟩
    .exact absurd ab (S.out x k (mem_of_lookup e) (.inr z.symm))
    .rw[z]at e;exact⟨e,.inl J⟩
   .obtain⟨k,e,z⟩:=cW J;rcases z with z|⟨z,_⟩
    .rw[<- z]at e;exact⟨e,.inr J⟩
    .rw[z]at e;exact⟨e,.inr J⟩
  have hm:=mem_of_lookup U.1;have af:=S.free x hm;obtain⟨m,hn,hl⟩:=I.loc;obtain⟨u,r,l⟩:=hl i x v hN h2 (.inr af);refine⟨u,r,.inr ⟨U.2,?_⟩⟩;rcases l with⟨k,_⟩|⟨_,c,hc,ag⟩
  .have k':X.env.scope.names.lookup x=some .local:=k;rw[k']at af;rcases af with z|z <;> cases z
  .obtain⟨c2,ai⟩:=aa x U.2;refine⟨c2,ai,?_⟩;rcases C x c2 ai with⟨_,_,_,a4⟩|⟨a1,_,_⟩
   .have:=S.one x _ hm a4;cases this
   .rw[hc]at a1;cases a1;exact ag.keeps keep
 .rcases C x c h with⟨_,a2,_,_⟩|⟨a1,_,_⟩
  .exact⟨_,a2⟩
  .obtain⟨v,q⟩:=I.cell x c a1;exact⟨v,q.keeps keep⟩
 .rcases C x c h with⟨_,_,a3,_⟩|⟨a1,_,_⟩
  .exact I.hok.fresh (by omega)
  .exact I.freeC x c a1
 .have ak:p∈X.pn++pins:=by
   rcases fD.mp hp with z|z
   .exact z
   .exact nomatch z
  obtain⟨e,n,ne,nf,d⟩:=I.pin p ak;refine⟨keep _ _ e,n,fR (wR e),λ z=>?_,d⟩;rcases wW.mp (sub p.1 z)with z|z
  .exact ne z
  grind
 .show(G++List.replicate own.length none).length=(N'++own).length;rw[gE,gE,VQ,I.len,Mk.len]
theorem Inv.unblk(I:Inv X pins G H s)(hf:∀b∈fp,dj X pins H b){pins':List (Addr×Obj)}{C:St}{H':Hp}{s':Shared}(J:Inv (L2.blk X N' own scope s H fp pins) pins' C H' s'):Inv X pins G H' s':=
 I.call' (ch:=fp) J.os J.base J.hok J.bare λ b o=>⟨(hf b o).2.2.2.1,(hf b o).2.1,(hf b o).2.2.2.2.1,(hf b o).2.2.2.2.2⟩
end
noncomputable def oY(X:Cx)(ifs:List Expr)(t:TT):Prop:=
 ∀(pins:List (Addr×Obj))(s:Shared)(G:St)(H:Hp)(Q:Bool->Hp->Prop),Inv X pins G H s->t G H Q->
  wpAny (model X.prog X.w) X.A (forIn ifs true λ c r=>if r=true then do let ok<- isTrue c X.env (eval c X.env);pure (ForInStep.yield ok)else pure (ForInStep.yield r)) (TP X pins G Q) X.xe s
noncomputable def PD:TT:= λ _ H Q=>Q true H
theorem F_:oY X [] PD:= λ pins s G H Q I h=>wpAny_tests_nil ⟨H,I,h⟩
theorem FV(h:PT X c t):oY X [c] t:= λ pins s G H Q I q=>wpAny_tests_one (h pins s G H Q I q)
structure Mx (cal:Cx->Prop) (P:Program) (w:World) (K:PySem.W.Frag) (tg:Expr) (J:It) (fp:List Addr) (it:Addr) (tn:Nat->Heap->Prop):Prop where
 obj:∀i h,tn i h->∀b ∈ fp,∃o,h.get? b=some o/\∀v,o.data ≠ .cell v
 keep:∀i h h',tn i h->(∀b ∈ fp,∀o,h.get? b=some o->h'.get? b=some o)->tn i h'
 item:∀(X:Cx),X.prog=P->X.w=w->X.K=K->cal X->∀(i:Nat) (pins:List (Addr × Obj)) (s:Shared) (G:St) (H:Hp) (E:Value->Shared->Prop),Inv X pins G H s->(∀b ∈ fp,dj X pins H b)->tn i s.heap->J.go i H ->
  wpAny (model P w) X.A (pyNext (.ref it)) (fun r s1=>∃u,r=some u /\
   wpAny (model P w) X.A (letOwnedTupleGo tg (.ref it) u) (fun _ s2=>∃x H',Inv X pins G H' s2/\RelV x u/\J.yld i H x H' /\ tn (i + 1) s2.heap/\∀b ∈ fp,H' b=none) E s1) E s
 done:∀(X:Cx),X.prog=P->X.w=w->X.K=K->cal X->∀(i:Nat) (pins:List (Addr × Obj)) (s:Shared) (G:St) (H:Hp) (E:Value->Shared->Prop),Inv X pins G H s->(∀b ∈ fp,dj X pins H b)->tn i s.heap->J.stop i H ->
  wpAny (model P w) X.A (pyNext (.ref it)) (fun r s1=>r=none/\Inv X pins G H s1) E s
 self:∀(A:Around) (i:Nat) (s:Shared) (Q:Value->Shared->Prop) (E:Value->Shared->Prop),tn i s.heap->Q (.ref it) s->wpAny (model P w) A (pyIter (.ref it)) Q E s
noncomputable def Ow(cal:Cx->Prop)(X:Cx)(tg iter:Expr)(I:TI):Prop:=
 ∀(pins:List (Addr×Obj))(s:Shared)(G:St)(H:Hp)(R:It->Hp->Prop),Inv X pins G H s->I G H R->
  wpAny (model X.prog X.w) X.A (eval iter X.env) (λ v s1=>wpAny (model X.prog X.w) X.A (pyIter v) (λ o s2=>∃(it:Addr) (fp:List Addr) (C:Nat->Heap->Prop) (J:It) (H':Hp),o= .ref it/\Inv X pins G H' s2/\Mx cal X.prog X.w X.K tg J fp it C/\C 0 s2.heap/\(∀b∈fp,dj X pins H' b)/\R J H') X.xe s1) X.xe s
theorem PI.g(h:PI X tg iter o):Ow (λ X=>X.calm=true) X tg iter o:= λ pins s G H R I q=>
 b9 (h pins s G H R I q) λ _ _ h=>b9 h λ _ _ ⟨it,fp,C,J,H',e,U,T,r⟩=>⟨it,fp,C,J,H',e,U,⟨T.obj,T.keep,T.item,T.done,T.self⟩,r⟩
noncomputable def vq(wi:TI)(own:Nat)(g:TG)(tt:TT)(te:TE):TE:= λ G H Q=>wi G H λ J H1=>∀l,H1 l=none->∃W:Nat->Nat->List V->Hp->Prop,(∃m,W 0 m [] (upd H1 l (.lst [])))/\∀i m acc H,W i m acc H->
 H l=some (.lst acc)/\((J.stop i H/\Q (.ref l) H)\/(J.go i H/\∀x H',J.yld i H x H'->g x (G++List.replicate own none) H' λ o H2=>o.take G.length=G/\tt o H2 λ b I=>
  if b=true then te o I λ v U=>U l=some (.lst acc)/\acc.length<sizeLine/\∃C,C<m/\W (i+1) C (acc++[v]) (upd U l (.lst (acc++[v])))
  else∃C,C<m/\W (i+1) C acc I))
noncomputable abbrev Qh:=Env->Addr->Value->(Shared->Prop)->Shared->Prop
noncomputable abbrev Qr(P:Program)(w:World)(A:Around)(tg:Expr)(ifs:List Expr)(elt:Expr)(n:String):Qh:= λ env l v K s=>wpAny (model P w) A (assign tg env v) (λ _ s=>wpAny (model P w) A (forIn ifs true λ c r=>if r=true then do let ok<- isTrue c env (eval c env);pure (ForInStep.yield ok)else pure (ForInStep.yield r)) (λ ok s=>
 if ok=true then wpAny (model P w) A (eval elt env) (λ y s=>wpAny (model P w) A (call (.builtin n) [.ref l,y]) (λ _=>K) (λ _ _=>False) s) (λ _ _=>False) s else K s) (λ _ _=>False) s) (λ _ _=>False) s
section
variable {X:Cx} {elt tg iter:Expr} {ifs:List Expr} {scope:Scope} {pos pos':Pos} {N' own:List Str} {wi:TI} {g:TG} {tt:TT} {te:TE}
theorem yB{gs:List Comprehension}(hc:∀s H fp pins,cal (blk X N' own scope s H fp pins))(hi:Ow cal X tg iter wi)(hk:scope.kind= .function)(hS:cM N' own X.env.scope scope=true)(hM:cG X.N N' scope=true)(hs:∀x,foldedSetIterable iter X.env x=pure x)
  {nw:Obj}{ob:Addr->HO}(bd:Qh)(hl:clausesOf Ce=⟨tg,iter,ifs,0⟩::gs){use:Option (Value->Sem Unit)}{Q0:Value->Shared->Prop}{pins:List (Addr×Obj)}{Q:VK}{M:It->Hp->Prop}(I:Inv X pins G H s)(h:wi G H M)
  (nN:∀{s P},P (.ref s.heap.objs.size) { s with heap:=s.heap.push nw }->wpAny (model X.prog X.w) X.A mk P X.xe s)
  (nI:∀{H s},Inv X pins G H s->Inv X pins G (upd H s.heap.objs.size (ob s.heap.objs.size)) { s with heap:=s.heap.push nw })
  (lp:∀{env it l R s}(I:Nat->Shared->Prop),(∀n s,I n s->wpAny (model X.prog X.w) X.A (pyNext it) (λ r s1=>match r with
   |none=>R (.ok .next) s1
   |some v=>wpAny (model X.prog X.w) X.A (letOwnedTupleGo tg it v) (λ _=>bd env l v λ s=>∃m,m<n/\I m s) (λ _ _=>False) s1) (λ _ _=>False) s)->∀n,I n s->codeAny (model X.prog X.w) X.A (.compLoop Ce 0 it (.ref l) env) R s)
  (sl:∀{env it l R s},codeAny (model X.prog X.w) X.A (.compLoop Ce 0 it (.ref l) env) R s->(∀E,wpAny (model X.prog X.w) X.A (pyIter it) (λ o=>codeAny (model X.prog X.w) X.A (.compLoop Ce 0 o (.ref l) env) R) E s)->codeAny (model X.prog X.w) X.A (.compStart Ce 0 it (.ref l) env) R s)
  (bo:∀J H1 l,M J H1->H1 l=none->∃W:Nat->Nat->Hp->Prop,(∃m,W 0 m (upd H1 l (ob l)))/\∀i m H,W i m H->(J.stop i H/\Q (.ref l) H)\/(J.go i H/\∀x H',J.yld i H x H'->∀s3 H3 fp ps s u K,Inv (blk X N' own scope s3 H3 fp pins) ps (G++List.replicate own.length none) H' s->RelV x u->
   (∀{o H s C},Inv (blk X N' own scope s3 H3 fp pins) ps o H s->o.take G.length=G->C<m->W (i+1) C H->K s)->bd (blk X N' own scope s3 H3 fp pins).env l u K s))
  (fin:∀(l:Addr)(H':Hp)(s':Shared)(C:Addr)(m:Str->Option Value),Inv X pins G H' s'->Q (.ref l) H'->s'.heap.Ns C m->H' C=none->C≠X.env.locals->X.s₀.heap.objs.size<=C->(∀x c,X.env.cells.lookup x=some c->c≠C)->(∀p∈X.pn++pins,p.1≠C)->
   compPost (model X.prog X.w) X.A X.xe use Q0 (.ref l) C (.ok .next) s'):
  wpAny (model X.prog X.w) X.A (comprehension Ce scope X.env pos' mk false (eval iter X.env) use) Q0 X.xe s:=by
 have S:=g_ hS;have Mk:=ig hM;refine WH hl hs (dR λ n hn=>I.ok.has n (S.free n hn)) hk S.loc (b9 (hi pins s G H _ I h) λ xv s1 h1=>b9 h1 λ aN s2 h2=>?_);obtain⟨it,fp,tn,J,H2,e,I2,T,ak,f2,q2⟩:=h2;subst e;refine nN ?_;have I3:=nI I2;obtain⟨W,⟨m0,w0⟩,turn⟩:=bo _ _ _ q2 I2.fresh;generalize hl:s2.heap.objs.size=l at*;have ao:∀b∈fp,b<l:= λ b U=>by obtain⟨o,e,_⟩:=T.obj _ _ ak b U;rw[<- hl];exact wR e
 have aq:tn 0 (s2.heap.push nw):=T.keep _ _ _ ak λ b _ o e=>zS _ e;have ar:l<(s2.heap.push nw).objs.size:=by rw[QO,hl];exact Z2 _
 have f3:∀b∈fp,dj X pins (upd H2 l (ob l)) b:= λ b U=>⟨by rw[a_ (fR (ao b U))];exact(f2 b U).1,(f2 b U).2⟩;generalize aB:({ s2 with heap:=s2.heap.push nw }:Shared)=s3 at I3 |-;have aC:s3.heap=s2.heap.push nw:=by rw[<- aB]
 rw[<- aC]at aq ar;have ah:∀b∈fp,b<s3.heap.objs.size:= λ b U=>XO (ao b U) ar;generalize upd H2 l (ob l)=H3 at*;refine gM ?_;have IY:=I3.blk f3 ah hk S Mk;have aw:tn 0 (pushCells (s3.heap.push { cls:= .type "dict",data:= .dict #[] }) scope.names):=T.keep _ _ _ aq λ b _ o e=>@Inv.blkKeep s3 scope b o e;have ae:=h9 I3 S;have aa:∀{H':Hp},(∀b∈fp,H' b=none)->∀b∈fp,dj (blk X N' own scope s3 H3 fp pins) [] H' b:= λ hn b U=>by
  refine⟨hn b U,fR (ah b U),λ z=>?_,.inl U,λ x c h=>?_,λ p hp=>?_⟩
  .rcases wW.mp (I3.stkSub b z)with z|z
   .exact(f3 b U).2.1 z
   .exact(f3 b U).2.2.1 z
  .rcases ae x c h with⟨_,_,a3,_⟩|⟨a1,_,_⟩
   .intro z;subst z;exact absurd (ah _ U) (Y4.mpr (VM a3))
   .exact(f3 b U).2.2.2.2.1 x c a1
  .have aD:p∈X.pn++pins:=by
    rcases fD.mp hp with z|z
    .exact z
    .exact nomatch z
   exact(f3 b U).2.2.2.2.2 p aD
 have loop:codeAny (model X.prog X.w) X.A (.compLoop Ce 0 (.ref it) (.ref l) (blk X N' own scope s3 H3 fp pins).env)
   (compPost (model X.prog X.w) X.A X.xe use Q0 (.ref l) s3.heap.objs.size) { s3 with heap:=pushCells (s3.heap.push { cls:= .type "dict",data:= .dict #[] }) scope.names }:=by
  refine lp (λ n s'=>∃i ab H',Inv (blk X N' own scope s3 H3 fp pins) [] ab H' s'/\ab.take G.length=G/\tn i s'.heap/\(∀b∈fp,H' b=none)/\W i n H') ?_ m0
   ⟨0,_,H3,IY,by rw[YB] <;> rfl,aw,λ b U=>(f3 b U).1,w0⟩;rintro n s5 ⟨i,ax,H5,I5,e5,ay,az,w5⟩;rcases turn i n H5 w5 with⟨stop,q⟩|⟨go,step⟩
  .refine gO (T.done (blk X N' own scope s3 H3 fp pins) rfl rfl rfl (hc _ _ _ _) i [] s5 ax H5 (λ _ _=>False) I5 (aa az) ay stop) (λ r s6 hr=>?_) λ _ _ z=>z;obtain⟨rfl,I6⟩:=hr;obtain⟨m,hn,_⟩:=id I6.loc;refine fin l H5 s6 _ m (I3.unblk f3 I6) q hn I6.free (VI I3.lt) I3.sz (λ x c e z=>?_) λ p hp z=>?_;. obtain⟨v,qc⟩:=I3.cell x c e;exact absurd qc.lt (by rw[z];exact QX _)
   .exact absurd (wR (I3.pin p hp).1) (by rw[z];exact QX _)
  .have ai:ax.length=(G++List.replicate own.length none).length:=by rw[I5.len,gE,VQ,I.len];show(N'++own).length=_;rw[gE,Mk.len]
   have aE:Inv (blk X N' own scope s3 H3 fp pins) [] (G++List.replicate own.length none) H5 s5:=I5.weak ai.symm λ j v e=>by
    have hj:j<G.length:=by
     by_cases hj:j<G.length;. exact hj
     .rw[ZA (by omega),VD]at e;split at e <;> cases e
    rw[QL hj]at e;rw[<- e5,YG hj]at e;exact e
   refine gO (T.item (blk X N' own scope s3 H3 fp pins) rfl rfl rfl (hc _ _ _ _) i [] s5 _ H5 (λ _ _=>False) aE (aa az) ay go) (λ r s6 hr=>?_) λ _ _ z=>z;obtain⟨u,rfl,h6⟩:=hr;refine b9 h6 λ _ s7 ⟨x,H7,I7,r7,y7,aj,aF⟩=>step x H7 y7 _ _ _ _ s7 u _ (I7.pinned (aa aF) (T.obj _ _ aj)) r7 λ {af Ha sa m'} Ia e8 hm wa=>?_
   refine⟨m',hm,i+1,af,Ha,Ia.unpinned,e8,T.keep _ _ _ aj λ b U o e=>(Ia.pin (b,o) (xZ _ (xZ _ (cq U e)))).1,λ b U=>?_,wa⟩;obtain⟨o,e,d⟩:=T.obj _ _ aj b U;exact(Ia.pin (b,o) (xZ _ (xZ _ (cq U e)))).2.1
 exact sl loop λ E=>T.self _ 0 _ _ _ aw loop
theorem xj(hc:∀s H fp pins,cal (blk X N' own scope s H fp pins))(hi:Ow cal X tg iter wi)(hk:scope.kind= .function)(hS:cM N' own X.env.scope scope=true)(hM:cG X.N N' scope=true)
  (hg:∀s H fp pins,PG (blk X N' own scope s H fp pins) tg g)(ht:∀s H fp pins,oY (blk X N' own scope s H fp pins) ifs tt)(he:∀s H fp pins,PE (blk X N' own scope s H fp pins) elt te)
  (hs:∀x,foldedSetIterable iter X.env x=pure x){use:Option (Value->Sem Unit)}{Q0:Value->Shared->Prop}{pins:List (Addr×Obj)}{s:Shared}{G:St}{H:Hp}{Q:VK}(I:Inv X pins G H s)(h:vq wi own.length g tt te G H Q)
  (fin:∀(l:Addr)(H':Hp)(s':Shared)(C:Addr)(m:Str->Option Value),Inv X pins G H' s'->Q (.ref l) H'->s'.heap.Ns C m->H' C=none->C≠X.env.locals->X.s₀.heap.objs.size<=C->(∀x c,X.env.cells.lookup x=some c->c≠C)->(∀p∈X.pn++pins,p.1≠C)->
   compPost (model X.prog X.w) X.A X.xe use Q0 (.ref l) C (.ok .next) s'):
  wpAny (model X.prog X.w) X.A (comprehension (.ListComp elt [⟨tg,iter,ifs,0⟩] scope pos) scope X.env pos' (newList []) false (eval iter X.env) use) Q0 X.xe s:=by
 refine yB (Q:=Q) (ob:= λ _=> .lst []) hc hi hk hS hM hs (Qr X.prog X.w X.A tg ifs elt "list.append") rfl I h (λ h=>QZ h) (λ I=>I.lnew (its:=[]) .nil (ZG _)) (λ I h=>p6 I h) (λ h k=>codeAny_compStart_list h (k _)) (λ J H1 l q hn=>?_) fin
 obtain⟨W,⟨m0,w0⟩,turn⟩:=q l hn;refine⟨λ i m H=>∃C,W i m C H,⟨m0,_,w0⟩,λ i m H⟨acc,w⟩=>(turn i m acc H w).2.imp_right λ⟨go,step⟩=>⟨go,λ x H' y s3 H3 fp ps s u K I r ag=>?_⟩⟩
 refine b9 (hg s3 H3 fp pins _ s _ H' x u _ I r (step x H' y)) λ _ s8 ⟨o,H8,I8,e8,q8⟩=>b9 (ht s3 H3 fp pins _ s8 o H8 _ I8 q8) λ b s9 ⟨H9,I9,q9⟩=>?_;cases b with
 |false=>obtain⟨m',hm,wa⟩:=q9;exact ag I9 e8 hm ⟨_,wa⟩
 |true=>exact b9 (he s3 H3 fp pins _ s9 o H9 _ I9 q9) λ y s10 ⟨v,H10,I10,rv,a10,z10,m',hm,wa⟩=>b9 (nU _ s10 o H10 (.ref l) [v] (.ref l) [y] (λ _ Hb=>Hb=upd H10 l (.lst (acc++[v]))) I10 rfl (.cons rv .nil) ⟨l,acc,v,rfl,rfl,a10,z10,rfl⟩) λ _ s11 ⟨_,Hb,Ib,_,eb⟩=>by subst eb;exact ag Ib e8 hm ⟨_,wa⟩
theorem D0(J:PI X tg iter wi)(U:∀s H fp pins,PG (blk X N' own scope s H fp pins) tg g)(ht:∀s H fp pins,oY (blk X N' own scope s H fp pins) ifs tt)(he:∀s H fp pins,PE (blk X N' own scope s H fp pins) elt te)
  (hS:autoParam (cM N' own X.env.scope scope=true) aQ0._auto_1)(hM:autoParam (cG X.N N' scope=true) aQ0._auto_1)(hk:autoParam (scope.kind= .function) aQ0._auto_1)(hc:autoParam (X.calm=true) aQ0._auto_1)(hs:∀x,foldedSetIterable iter X.env x=pure x:=by intro _;rfl):
  PE X (.ListComp elt [⟨tg,iter,ifs,0⟩] scope pos) (vq wi own.length g tt te):=by intro pins s G H Q I h;refine xj (use:=none) (cal:= λ X=>X.calm=true) (λ _ _ _ _=>hc) J.g hk hS hM U ht he hs I h λ l H' s' C m I' q hn h1 h2 h3 h4 h5=>?_;refine⟨m,hn,λ h' sb=>⟨.ref l,H',?_,rfl,q⟩⟩;exact I'.turned (t':=s'.toks) (λ b o hb e=>(sb.2 b hb).trans e) h1 h2 (.inr h3) h4 h5
theorem Gg{J U:Pos}(hN:X.N.Nodup)(aa:X.N[i]?=some x)(hx:X.env.scope.names.lookup x=some .local)
  (hi:PI X tg iter wi)(hg:∀s H fp pins,PG (blk X N' own scope s H fp pins) tg g)(ht:∀s H fp pins,oY (blk X N' own scope s H fp pins) ifs tt)(he:∀s H fp pins,PE (blk X N' own scope s H fp pins) elt te)
  (ab:autoParam (swapsWith (.ListComp elt [⟨tg,iter,ifs,0⟩] scope pos) (some (.Name x J)) U.line X.env=pure true) aQ0._auto_1)
  (hS:autoParam (cM N' own X.env.scope scope=true) aQ0._auto_1)(hM:autoParam (cG X.N N' scope=true) aQ0._auto_1)(hk:autoParam (scope.kind= .function) aQ0._auto_1)(hc:autoParam (X.calm=true) aQ0._auto_1)(hs:∀x,foldedSetIterable iter X.env x=pure x:=by intro _;rfl):
  PS X (.Assign [.Name x J] (.ListComp elt [⟨tg,iter,ifs,0⟩] scope pos) U) (Cq (vq wi own.length g tt te) (qL i)):=by
 intro pins s G H D I h;rw[exec_Assign_Name_used _ _ _ _ ab];refine zN (VE (zN ?_));refine zN (gO (Q:= λ _ s'=>SP X pins D .next s') ?_ (λ _ s' hq=>kT (kT hq)) λ _ _ e=>e);refine xj (use:=some (assign (.Name x J) X.env)) (cal:= λ X=>X.calm=true) (λ _ _ _ _=>hc) hi.g hk hS hM hg ht he hs I h λ l H' s' C m I' q hn h1 h2 h3 h4 h5=>?_;refine wpAny_assign_Name (nK I' hN aa (.inl hx) (v:= .ref l) (u:= .ref l) rfl (λ ae af ag=>?_) (.inr hx));obtain⟨a,sb,ha⟩:=ag;have ah:C≠a:=by grind
 refine⟨m,hn.sameBut sb ah,λ h' ai=>⟨G.set i (some (.ref l)),H',?_,q⟩⟩;exact af.turned (t':=ae.toks) (λ b o hb e=>(ai.2 b hb).trans e) h1 h2 (.inr h3) h4 h5
end
end L2
namespace Jt
open PySem L2
inductive D where
 | non | bl (b:Bool) | int (i:Int) | str (x:Str) | tup (xs:List D) | lst (xs:List D) | dct | dic (kvs:List (Int × Int)) | dip (kvs:List ((Int × Int) × Int))
noncomputable def wK(a:Addr):HO:= .ext λ h=>a≠sysModules/\∃o n,h.get? a=some o/\o.cls= .type "dict"/\o.data= .dict #[] n
noncomputable abbrev jq(kvs:List (Int×Int)):HO:= .dK (kvs.map λ p=>(.inl p.1,.int p.2))
noncomputable abbrev eW(kvs:List ((Int×Int)×Int)):HO:= .dT (kvs.map λ p=>([.inl p.1.1,.inl p.1.2],.int p.2))
mutual
noncomputable def R (H:Hp):D->V->Prop
 | .non,v=>v=.non
 | .bl b,v=>v=.bl b
 | .int i,v=>v=.int i
 | .str x,v=>v=.str x
 | .tup ds,v=>∃a vs,v=.ref a/\H a=some (.tup vs)/\Rs H ds vs
 | .lst ds,v=>∃a vs,v=.ref a/\Rd H a (.lst vs)/\Rs H ds vs
 | .dct,v=>∃a,v=.ref a/\H a=some (wK a)
 | .dic kvs,v=>∃a,v=.ref a/\H a=some (jq kvs)
 | .dip kvs,v=>∃a,v=.ref a/\H a=some (eW kvs)
noncomputable def Rs (H:Hp):List D->List V->Prop
 | [],vs=>vs=[]
 | d :: ds,vs=>∃v r,vs=v :: r/\R H d v/\Rs H ds r
end
theorem Rd.mono(m:∀b o,H b=some o->H' b=some o)(h:Rd H a u):Rd H' a u:=by
 rcases h with h|⟨o,h⟩
 .exact .inl (m _ _ h)
 .exact .inr ⟨o,m _ _ h⟩
mutual
theorem R.mono {H H':Hp} (m:∀b o,H b=some o->H' b=some o):∀(d:D) (v:V),R H d v->R H' d v
 | .non,v,h=>by unfold R at *;exact h
 | .bl b,v,h=>by unfold R at *;exact h
 | .int i,v,h=>by unfold R at *;exact h
 | .str x,v,h=>by unfold R at *;exact h
 | .tup ds,v,h=>by
  unfold R at *
  obtain ⟨a,vs,e,h1,h2⟩:=h
  exact ⟨a,vs,e,m _ _ h1,Rs.mono m ds vs h2⟩
 | .lst ds,v,h=>by
  unfold R at *
  obtain ⟨a,vs,e,h1,h2⟩:=h
  exact ⟨a,vs,e,Rd.mono m h1,Rs.mono m ds vs h2⟩
 | .dct,v,h=>by
  unfold R at *
  obtain ⟨a,e,h1⟩:=h
  exact ⟨a,e,m _ _ h1⟩
 | .dic kvs,v,h=>by
  unfold R at *
  obtain ⟨a,e,h1⟩:=h
  exact ⟨a,e,m _ _ h1⟩
 | .dip kvs,v,h=>by
  unfold R at *
  obtain ⟨a,e,h1⟩:=h
  exact ⟨a,e,m _ _ h1⟩
theorem Rs.mono {H H':Hp} (m:∀b o,H b=some o->H' b=some o):∀(ds:List D) (vs:List V),Rs H ds vs->Rs H' ds vs
 | [],vs,h=>by unfold Rs at *;exact h
 | d :: ds,vs,h=>by
  unfold Rs at *
  obtain ⟨v,r,e,h1,h2⟩:=h
  exact ⟨v,r,e,R.mono m d v h1,Rs.mono m ds r h2⟩
end
theorem Rs.nil:Rs H [] []:=by rfl
theorem Rs.cons{H:Hp}{d:D}{v:V}{ds:List D}{vs:List V}(h:R H d v)(t:Rs H ds vs):Rs H (d::ds) (v::vs):=⟨v,vs,rfl,h,t⟩
theorem Rs.inv(h:Rs H (d::ds) vs):∃v r,vs=v::r/\R H d v/\Rs H ds r:=h
theorem Rs.inv0(h:Rs H [] vs):vs=[]:=h
theorem Rs.head (h:Rs H (d :: ds) (v :: vs)):R H d v:= by
 obtain ⟨v',r,e,h1,h2⟩:=h.inv;simp_all
theorem Rs.tail (h:Rs H (d :: ds) (v :: vs)):Rs H ds vs:= by
 obtain ⟨v',r,e,h1,h2⟩:=h.inv;simp_all
theorem Rs.length:∀{ds:List D}{vs:List V},Rs H ds vs->vs.length=ds.length
 |[],vs,h=>by rw[h.inv0];rfl
 |d::ds,vs,h=>by obtain⟨v,r,e,_,o⟩:=h.inv;subst e;simp[Rs.length o]
theorem Rs.append:∀{ds es:List D}{vs us:List V},Rs H ds vs->Rs H es us->Rs H (ds++es) (vs++us)
 |[],es,vs,us,h,t=>by rw[h.inv0];exact t
 |d::ds,es,vs,us,h,t=>by obtain⟨v,r,e,o,C⟩:=h.inv;subst e;exact .cons o (Rs.append C t)
theorem Rs.left:∀{ds es:List D}{vs us:List V},vs.length=ds.length->Rs H (ds++es) (vs++us)->Rs H ds vs
 |[],es,[],us,_,h=> .nil
 |d::ds,es,v::vs,us,l,h=> .cons h.head (Rs.left (by simp_all) h.tail)
 |[],_,_::_,_,l,_=>by cases l
 |_::_,_,[],_,l,_=>by cases l
theorem Rs.right:∀{ds es:List D}{vs us:List V},vs.length=ds.length->Rs H (ds++es) (vs++us)->Rs H es us
 |[],es,[],us,_,h=>h
 |d::ds,es,v::vs,us,l,h=>Rs.right (ds:=ds) (vs:=vs) (by simpa using l) h.tail
 |[],_,_::_,_,l,_=>by cases l
 |_::_,_,[],_,l,_=>by cases l
theorem Rs.get:∀{ds:List D}{vs:List V}{i:Nat}{d:D},Rs H ds vs->ds[i]?=some d->∃v,vs[i]?=some v/\R H d v
 |[],_,_,_,_,e=>by simp at e
 |d::ds,vs,0,d',h,e=>by obtain⟨v,r,o,C,I⟩:=h.inv;subst o;simp at e;subst e;exact⟨v,rfl,C⟩
 |d::ds,vs,i+1,d',h,e=>by obtain⟨v,r,o,C,I⟩:=h.inv;obtain⟨J,e2,U⟩:=Rs.get (i:=i) I (by simpa using e);exact⟨J,by simp_all,U⟩
theorem R.tup{H:Hp}{ds:List D}{v:V}(h:R H (.tup ds) v):∃a vs,v= .ref a/\H a=some (.tup vs)/\Rs H ds vs:=h
theorem R.lst{H:Hp}{ds:List D}{v:V}(h:R H (.lst ds) v):∃a vs,v= .ref a/\Rd H a (.lst vs)/\Rs H ds vs:=h
theorem R.dct(h:R H .dct v):∃a,v= .ref a/\H a=some (wK a):=h
theorem R.dic(h:R H (.dic kvs) v):∃a,v= .ref a/\H a=some (jq kvs):=h
theorem R.mkDic(h:H a=some (jq kvs)):R H (.dic kvs) (.ref a):=⟨a,rfl,h⟩
theorem R.dip(h:R H (.dip kvs) v):∃a,v= .ref a/\H a=some (eW kvs):=h
theorem R.mkDip(h:H a=some (eW kvs)):R H (.dip kvs) (.ref a):=⟨a,rfl,h⟩
theorem R.int(h:R H (.int i) v):v= .int i:=h
theorem R.bl(h:R H (.bl i) v):v= .bl i:=h
theorem R.str(h:R H (.str i) v):v= .str i:=h
theorem R.non(h:R H .non v):v= .non:=h
theorem R.mkI:R H (.int i) (.int i):=by rfl
theorem R.mkB:R H (.bl i) (.bl i):=by rfl
theorem R.mkN:R H .non .non:=by rfl
theorem R.mkT{ds:List D}{vs:List V}(h:H a=some (.tup vs))(t:Rs H ds vs):R H (.tup ds) (.ref a):=⟨a,vs,rfl,h,t⟩
theorem R.mkL{vs:List V}(h:Rd H a (.lst vs))(t:Rs H ds vs):R H (.lst ds) (.ref a):=⟨a,vs,rfl,h,t⟩
inductive Slot where
 | un | pu (d:D) | ow (b:Bool) (xs:List D) | od (kvs:List (List Int × D))
noncomputable abbrev DS:=List Slot
structure Cn where
 b:Bool
 xs:List D
 f:List V->HO
noncomputable def Pq(p:List Int×D):List Key:=p.1.map .inl
noncomputable abbrev Qu(kvs:List (List Int×D))(vs:List V):HO:= .dT ((kvs.map Pq).zip vs)
noncomputable def Slot.own:Slot->Option Cn
 | .ow b xs=>some ⟨b,xs,.lst⟩
 | .od kvs=>some ⟨false,kvs.map (·.2),Qu kvs⟩
 |_=>none
theorem Jq:∀{x:Slot}{o:Cn},x.own=some o->∀vs ys,o.f vs≠.tup ys
 | .ow b xs,_,h,_,_=>by cases h;exact λ z=>nomatch z
 | .od kvs,_,h,_,_=>by cases h;exact λ z=>nomatch z
structure Ct where
 Z:Hp
 B:List Addr
 H0:Hp
noncomputable def At(Y:DS)(G:St)(i:Nat)(a:Addr):Prop:=(∃x o,Y[i]?=some x/\x.own=some o)/\G[i]?=some (some (.ref a))
noncomputable def Oa(Y:DS)(G:St)(a:Addr):Prop:=∃i,At Y G i a
open Classical in
noncomputable def Fw(p:Addr->Prop)(H:Hp):Hp:= λ a=>if p a then none else H a
noncomputable def Hd(c:Ct)(C:DS)(G:St)(a:Addr):Prop:=(∃o,c.Z a=some o)\/Oa C G a
noncomputable abbrev dC(c:Ct)(o:DS)(G:St)(H:Hp):Hp:=Fw (Hd c o G) H
theorem eP:Fw p H a=some o↔ ¬p a/\H a=some o:=by unfold Fw;simp
theorem bO{p q:Addr->Prop}{H H':Hp}(J:∀a o,H a=some o->q a->p a)(U:∀a o,¬p a->H a=some o->H' a=some o):∀b o,Fw p H b=some o->Fw q H' b=some o:= λ b o h=>by obtain⟨C,I⟩:=eP.mp h;exact eP.mpr ⟨λ z=>C (J b o I z),U b o C I⟩
noncomputable def Iv(Z H:Hp):Prop:=∀a o,Z a=some o->H a=some o/\∀xs,o≠ .tup xs
noncomputable def Wh(c:Ct)(b:Bool)(a:Addr):Prop:=(b=true->a∈c.B)/\(b=false->a∉c.B/\c.H0 a=none)/\c.Z a=none
structure Sl (c:Ct) (Y:DS) (S:List D) (G:St) (T:List V) (H:Hp):Prop where
 len:Y.length=G.length
 pu:∀(i:Nat) d,Y[i]? = some (.pu d)->∃v,G[i]? = some (some v)/\R (dC c Y G H) d v
 oo:∀(i:Nat) x o,Y[i]? = some x->x.own=some o->∃a vs,G[i]? = some (some (.ref a))/\H a=some (o.f vs)/\Rs (dC c Y G H) o.xs vs/\Wh c o.b a
 ne:∀(i j:Nat) a,At Y G i a->At Y G j a->i=j
 st:Rs (dC c Y G H) S T
 keep:∀b o,b ∉ c.B->c.H0 b=some o->H b=some o
 bb:∀b ∈ c.B,∃o,H b=some o
 zk:Iv c.Z H
section
variable {c:Ct} {Y:DS} {S:List D} {G:St} {T:List V} {H:Hp}
theorem Sl.zz(s:Sl c Y S G T H):∀a o,c.Z a=some o->H a=some o:= λ a o h=>(s.zk a o h).1
theorem Sl.ow(s:Sl c Y S G T H)(i:Nat)(b:Bool)(xs:List D)(h:Y[i]?=some (.ow b xs)):∃a vs,G[i]?=some (some (.ref a))/\H a=some (.lst vs)/\Rs (dC c Y G H) xs vs/\Wh c b a:=s.oo i _ _ h rfl
theorem Sl.at(s:Sl c Y S G T H)(h:At Y G i a):∃o vs,(∃x,Y[i]?=some x/\x.own=some o)/\H a=some (o.f vs)/\Rs (dC c Y G H) o.xs vs/\Wh c o.b a:=by
 obtain⟨⟨x,o,e,w⟩,J⟩:=h;obtain⟨a',vs,z,r⟩:=s.oo i x o e w;rw[J]at z;cases z;exact⟨o,vs,⟨x,e,w⟩,r⟩
theorem Sl.hdSome(s:Sl c Y S G T H){a:Addr}(h:Hd c Y G a):∃o,H a=some o:=by
 rcases h with⟨o,h⟩|⟨i,h⟩
 .exact⟨o,s.zz _ _ h⟩
 .obtain⟨o,vs,_,h,_⟩:=s.at h;exact⟨_,h⟩
theorem Sl.stk(s:Sl c Y S G T H){S':List D}{T':List V}(h:Rs (dC c Y G H) S' T'):Sl c Y S' G T' H:={ s with st:=h }
theorem Sl.pop(s:Sl c Y (d::S) G (v::T) H):Sl c Y S G T H:=s.stk s.st.tail
theorem Sl.mv(s:Sl c Y S G T H){c':Ct}(m:∀b o,dC c Y G H b=some o->dC c' Y G H' b=some o)(hk:∀i a o,At Y G i a->H a=some o->H' a=some o/\(c.Z a=none->c'.Z a=none))(st:Rs (dC c' Y G H') S' T')
  (keep:∀b o,b∉c'.B->c'.H0 b=some o->H' b=some o)(bb:∀b∈c'.B,∃o,H' b=some o)(zk:Iv c'.Z H')(hB:autoParam (c'.B=c.B) aQ0._auto_1)(h0:autoParam (c'.H0=c.H0) aQ0._auto_1):Sl c' Y S' G T' H':=
 ⟨s.len,λ i d h=>let⟨v,e,r⟩:=s.pu i d h;⟨v,e,r.mono m⟩,λ i x o h w=>let⟨a,vs,e,h1,r,w1,w2,w3⟩:=s.oo i x o h w;let⟨k1,k2⟩:=hk i a _ ⟨⟨x,o,h,w⟩,e⟩ h1;⟨a,vs,e,k1,r.mono m,by rwa[hB],by rwa[hB,h0],k2 w3⟩,s.ne,st,keep,bb,zk⟩
theorem Sl.grow(s:Sl c Y S G T H){H':Hp}(g:Cc H H'):Sl c Y S G T H':=by
 have m:∀b o,dC c Y G H b=some o->dC c Y G H' b=some o:=bO (λ _ _ _ z=>z) λ a o _ h=>g a o h
 exact s.mv m (λ _ a o _ h=>⟨g a o h,id⟩) (s.st.mono m) (λ b o C I=>g _ _ (s.keep b o C I)) (λ b U=>let⟨o,h⟩:=s.bb b U;⟨o,g _ _ h⟩) (λ a o hz=>⟨g _ _ (s.zz a o hz),(s.zk a o hz).2⟩)
theorem eN(h:H p=none)(o:HO):Cc H (upd H p o):= λ b u q=>by rw[a_ (bz q h)];exact q
theorem Sl.hdNew(s:Sl c Y S G T H){p:Addr}(h:H p=none): ¬Hd c Y G p:= λ z=>by obtain⟨o,e⟩:=s.hdSome z;simp_all
theorem Sl.fresh(s:Sl c Y S G T H){p:Addr}(h:H p=none):c.Z p=none/\p∉c.B/\c.H0 p=none:=by
 have hB:p∉c.B:= λ z=>by obtain⟨o,e⟩:=s.bb p z;simp_all
 exact⟨Option.eq_none_iff_forall_ne_some.mpr λ o e=>by have:=s.zz p o e;simp_all,hB,Option.eq_none_iff_forall_ne_some.mpr λ o e=>by have:=s.keep p o hB e;simp_all⟩
theorem Sl.newTup(s:Sl c Y (ds++S) G (vs++T) H)(l:vs.length=ds.length){p:Addr}(h:H p=none):Sl c Y (.tup ds::S) G (.ref p::T) (upd H p (.tup vs)):=by have o:=s.grow (eN h (.tup vs));exact o.stk (.cons (.mkT (eP.mpr ⟨s.hdNew h,bf⟩) (o.st.left l)) (o.st.right l))
theorem yH{Z:Hp}{p a:Addr}{o u:HO}(h:upd Z p o a=some u):(a=p/\u=o)\/(a≠p/\Z a=some u):=by
 by_cases q:a=p
 .subst q;rw[bf]at h;cases h;exact .inl ⟨rfl,rfl⟩
 .rw[a_ q]at h;exact .inr ⟨q,h⟩
theorem K3{Z:Hp}{p a:Addr}{o:HO}(h:a≠p)(z:Z a=none):upd Z p o a=none:=by rw[a_ h];exact z
theorem Sl.hide(s:Sl c Y S G T H){p:Addr}{o:HO}(h:H p=none)(hn:∀xs,o≠ .tup xs:=by exact λ _ h=>nomatch h):Sl { c with Z:=upd c.Z p o } Y S G T (upd H p o):=by
 have g:=eN h o
 have m:∀b u,dC c Y G H b=some u->dC { c with Z:=upd c.Z p o } Y G (upd H p o) b=some u:=bO (λ a u e z=>z.imp (λ⟨w,z⟩=>(yH z).elim (λ q=>by rw[q.1,h]at e;cases e) λ q=>⟨w,q.2⟩) id) λ a u _ e=>g a u e
 refine s.mv m (λ _ a u _ e=>⟨g a u e,K3 λ q=>by rw[q,h]at e;cases e⟩) (s.st.mono m) (λ b u I J=>g _ _ (s.keep b u I J)) (λ b hb=>let⟨u,e⟩:=s.bb b hb;⟨u,g _ _ e⟩) λ a u hz=>?_
 rcases yH hz with⟨rfl,rfl⟩|⟨q,z⟩
 .exact⟨bf,hn⟩
 .exact⟨g _ _ (s.zz a u z),(s.zk a u z).2⟩
theorem Sl.noOw(s:Sl { c with Z:=upd c.Z p o } Y S G T H): ¬Oa Y G p:= λ⟨i,h⟩=>by obtain⟨_,_,_,_,_,_,_,U⟩:=s.at h;have U:upd c.Z p o p=none:=U;rw[bf]at U;cases U
theorem Sl.neOw(s:Sl { c with Z:=upd c.Z p o } Y S G T H)(h:At Y G i a):a≠p:=λ q=>s.noOw (q▸⟨i,h⟩)
theorem Sl.hideSet(J:HO)(s:Sl { c with Z:=upd c.Z p o } Y S G T H)(hB:p∉c.B)(h0:c.H0 p=none)(hn:∀xs,J≠ .tup xs:=by exact λ _ h=>nomatch h):Sl { c with Z:=upd c.Z p J } Y S G T (upd H p J):=by
 have m:∀b u,dC { c with Z:=upd c.Z p o } Y G H b=some u->dC { c with Z:=upd c.Z p J } Y G (upd H p J) b=some u:=bO (λ a u e z=>z.imp (λ⟨w,z⟩=>(yH z).elim (λ q=>⟨o,q.1▸bf⟩) λ q=>⟨w,(a_ q.1).trans q.2⟩) id) λ a u ha e=>by rw[a_ λ z=>ha (.inl ⟨o,by rw[z];exact bf⟩)];exact e
 refine s.mv m (λ i a u w e=>have n:=s.neOw w;⟨(a_ n).trans e,λ z=>K3 n (by have z:upd c.Z p o a=none:=z;rwa[a_ n]at z)⟩) (s.st.mono m) (λ b u h1 h2=>?_) (λ b hb=>?_) λ a u hz=>?_
 .rw[a_ λ z=>by have h2:c.H0 b=some u:=h2;rw[z,h0]at h2;cases h2];exact s.keep b u h1 h2
 .have n:b≠p:=λ z=>hB (z▸hb)
  rw[a_ n];exact s.bb b hb
 .rcases yH hz with⟨rfl,rfl⟩|⟨q,z⟩
  .exact⟨bf,hn⟩
  .rw[a_ q];exact s.zk a u ((a_ q).trans z)
theorem Sl.unhideO(s:Sl { c with Z:=upd c.Z p o } Y S G T H)(I:c.Z p=none)(hR: (∀b u,dC { c with Z:=upd c.Z p o } Y G H b=some u->dC c Y G H b=some u)->dC c Y G H p=some o->Rs (dC c Y G H) S' T'):Sl c Y S' G T' H:=by
 have zc:∀a u,c.Z a=some u->upd c.Z p o a=some u:= λ a u h=>(a_ λ q=>by rw[q,I]at h;cases h).trans h
 have m:∀b u,dC { c with Z:=upd c.Z p o } Y G H b=some u->dC c Y G H b=some u:=bO (λ a u e z=>z.imp (λ⟨w,z⟩=>⟨w,zc a w z⟩) id) λ a u ha e=>e
 exact s.mv m (λ i a u w e=>have n:=s.neOw w;⟨e,λ z=>by have z:upd c.Z p o a=none:=z;rwa[a_ n]at z⟩) (hR m (eP.mpr ⟨λ z=>z.elim (λ⟨u,z⟩=>by rw[I]at z;cases z) s.noOw,s.zz p _ bf⟩)) s.keep s.bb λ a u hz=>s.zk a u (zc a u hz)
theorem Sl.unhideD(s:Sl { c with Z:=upd c.Z p o } Y S G T H)(I:c.Z p=none)(hR:dC c Y G H p=some o->R (dC c Y G H) d (.ref p)):Sl c Y (d::S) G (.ref p::T) H:=s.unhideO I λ m h=>.cons (hR h) (s.st.mono m)
theorem Sl.unhideL{vs:List V}(s:Sl { c with Z:=upd c.Z p (.lst vs) } Y (xs++S) G (vs++T) H)(l:vs.length=xs.length)(C:c.Z p=none):Sl c Y (.lst xs::S) G (.ref p::T) H:=
 s.unhideO C λ m h=>.cons (.mkL (.inl h) ((s.st.left l).mono m)) ((s.st.right l).mono m)
theorem Sl.re(s:Sl c Y S G T H){c':Ct}{H':Hp}{i:Nat}{x:Slot}{w:Option V}{S':List D}{T':List V}(hi:i<Y.length)(hZ:∀a,(∃o,c'.Z a=some o)->Hd c Y G a)
  (hH:∀a o,¬Hd c Y G a->H a=some o->H' a=some o)(ho:∀o,x.own=some o->∃a vs,w=some (.ref a)/\H' a=some (o.f vs)/\((∀b u,dC c Y G H b=some u->dC c' (Y.set i x) (G.set i w) H' b=some u)->Rs (dC c' (Y.set i x) (G.set i w) H') o.xs vs)/\Wh c' o.b a/\Hd c Y G a/\∀j,j≠i->¬At Y G j a)
  (hp:∀d,x=.pu d->∃v,w=some v/\((∀b u,dC c Y G H b=some u->dC c' (Y.set i x) (G.set i w) H' b=some u)->R (dC c' (Y.set i x) (G.set i w) H') d v))
  (hk:∀j a o,j≠i->At Y G j a->H a=some o->H' a=some o/\(c.Z a=none->c'.Z a=none))
  (st:(∀b u,dC c Y G H b=some u->dC c' (Y.set i x) (G.set i w) H' b=some u)->Rs (dC c' (Y.set i x) (G.set i w) H') S' T')
  (keep:∀b o,b∉c'.B->c'.H0 b=some o->H' b=some o)(bb:∀b∈c'.B,∃o,H' b=some o)(zk:Iv c'.Z H')(hB:autoParam (c'.B=c.B) aQ0._auto_1)(h0:autoParam (c'.H0=c.H0) aQ0._auto_1):Sl c' (Y.set i x) S' (G.set i w) T' H':=by
 have hs:i<G.length:=s.len▸hi
 have at1:∀{j a},j≠i->At (Y.set i x) (G.set i w) j a->At Y G j a:=λ n h=>by unfold At at h;rwa[ZQ (Ne.symm n),ZQ (Ne.symm n)]at h
 have at0:∀{a},At (Y.set i x) (G.set i w) i a->Hd c Y G a/\∀j,j≠i->¬At Y G j a:=λ⟨⟨y,o,e,h⟩,z⟩=>by
  rw[ZM hi]at e;cases e;rw[ZM hs]at z;cases z;obtain⟨a,vs,e,_,_,_,h1,h2⟩:=ho o h;cases e;exact⟨h1,h2⟩
 have m:∀b u,dC c Y G H b=some u->dC c' (Y.set i x) (G.set i w) H' b=some u:=bO (λ a u e z=>z.elim (hZ a) λ⟨j,z⟩=>by
  by_cases n:j=i
  .subst n;exact(at0 z).1
  .exact .inr ⟨j,at1 n z⟩) λ a u ha e=>hH a u ha e
 refine⟨by simpa using s.len,λ j d h=>?_,λ j y o h w=>?_,λ j k a h1 h2=>?_,st m,keep,bb,zk⟩
 .by_cases n:j=i
  .subst n;rw[ZM hi]at h;cases h;obtain⟨v,e,r⟩:=hp d rfl;exact⟨v,by rw[ZM hs,e],r m⟩
  .rw[ZQ (Ne.symm n)]at h;rw[ZQ (Ne.symm n)];obtain⟨v,e,r⟩:=s.pu j d h;exact⟨v,e,r.mono m⟩
 .by_cases n:j=i
  .subst n;rw[ZM hi]at h;cases h;obtain⟨a,vs,e,h1,h2,h3,_⟩:=ho o w;exact⟨a,vs,by rw[ZM hs,e],h1,h2 m,h3⟩
  .rw[ZQ (Ne.symm n)]at h;rw[ZQ (Ne.symm n)];obtain⟨a,vs,e,h1,h2,w1,w2,w3⟩:=s.oo j y o h w;obtain⟨k1,k2⟩:=hk j a _ n ⟨⟨y,o,h,w⟩,e⟩ h1;exact⟨a,vs,e,k1,h2.mono m,by rwa[hB],by rwa[hB,h0],k2 w3⟩
 .by_cases n:j=i <;> by_cases l:k=i
  .rw[n,l]
  .subst n;exact absurd (at1 l h2) ((at0 h1).2 k l)
  .subst l;exact absurd (at1 n h1) ((at0 h2).2 j n)
  .exact s.ne j k a (at1 n h1) (at1 l h2)
theorem Sl.setPu(s:Sl c Y (d::S) G (v::T) H)(hi:i<Y.length):Sl c (Y.set i (.pu d)) S (G.set i (some v)) T H:=
 s.re hi (λ _ z=>.inl z) (λ _ _ _ h=>h) (λ _ h=>nomatch h) (λ d' h=>by cases h;exact⟨v,rfl,λ m=>s.st.head.mono m⟩) (λ _ _ _ _ _ h=>⟨h,id⟩) (λ m=>s.st.tail.mono m) s.keep s.bb s.zk
theorem Sl.setOn{x:Slot}{f:List V->HO}{vs:List V}{i:Nat}(s:Sl { c with Z:=upd c.Z p (f vs) } Y (xs++S) G (vs++T) H)(hx:x.own=some ⟨false,xs,f⟩)(l:vs.length=xs.length)(hp:c.Z p=none)(hB:p∉c.B)(h0:c.H0 p=none)(hi:i<Y.length):
  Sl c (Y.set i x) S (G.set i (some (.ref p))) T H:=by
 have zc:∀a u,c.Z a=some u->upd c.Z p (f vs) a=some u:= λ a u h=>(a_ λ q=>by rw[q,hp]at h;cases h).trans h
 refine s.re hi (λ a ⟨o,z⟩=>.inl ⟨o,zc a o z⟩) (λ _ _ _ h=>h) (λ o h=>?_) (λ d h=>by subst h;cases hx) (λ j a o _ w h=>⟨h,λ z=>by have z:upd c.Z p (f vs) a=none:=z;rwa[a_ (s.neOw w)]at z⟩) (λ m=>(s.st.right l).mono m) s.keep s.bb λ a u hz=>s.zk a u (zc a u hz)
 rw[hx]at h;cases h;exact⟨p,vs,rfl,s.zz p _ bf,λ m=>(s.st.left l).mono m,⟨λ z=>(nomatch z),λ _=>⟨hB,h0⟩,hp⟩,.inl ⟨_,bf⟩,λ j _ w=>s.noOw ⟨j,w⟩⟩
theorem Sl.setOw{vs:List V}{i:Nat}(s:Sl { c with Z:=upd c.Z p (.lst vs) } Y (xs++S) G (vs++T) H)(l:vs.length=xs.length)(hp:c.Z p=none)(hB:p∉c.B)(h0:c.H0 p=none)(hi:i<Y.length):
  Sl c (Y.set i (.ow false xs)) S (G.set i (some (.ref p))) T H:=s.setOn rfl l hp hB h0 hi
theorem List.set_same{G:St}{i:Nat}{w:Option V}(h:G[i]?=some w):G.set i w=G:=by
 refine YZ λ j=>?_
 by_cases n:i=j
 .subst n;rw[ZM (wV.mp h).1,h]
 .rw[ZQ n]
theorem Sl.giveOw{xs:List D}{i:Nat}(s:Sl c Y S G T H)(hi:Y[i]?=some (.ow false xs))(ha:G[i]?=some (some (.ref a))):
  ∃vs,vs.length=xs.length/\Sl { c with Z:=upd c.Z a (.lst vs) } (Y.set i .un) (xs++S) G (vs++T) H/\c.Z a=none/\a∉c.B/\c.H0 a=none:=by
 have w:At Y G i a:=⟨⟨_,_,hi,rfl⟩,ha⟩
 obtain⟨a',vs,e,hH,hv,_,hB,hZ⟩:=s.ow i false xs hi;rw[ha]at e;cases e
 refine⟨vs,hv.length,?_,hZ,hB rfl⟩
 have:=s.re (c':={ c with Z:=upd c.Z a (.lst vs) }) (H':=H) (i:=i) (x:=.un) (w:=some (.ref a)) (S':=xs++S) (T':=vs++T) (wV.mp hi).1 (λ b ⟨o,z⟩=>by
  rcases yH z with⟨rfl,_⟩|⟨_,z⟩
  .exact .inr ⟨i,w⟩
  .exact .inl ⟨o,z⟩) (λ _ _ _ h=>h) (λ _ h=>nomatch h) (λ _ h=>nomatch h) (λ j b o n w' h=>⟨h,K3 λ q=>n (s.ne j i a (q▸w') w)⟩) (λ m=>(hv.append s.st).mono m) s.keep s.bb λ b u hz=>by
   rcases yH hz with⟨rfl,rfl⟩|⟨_,z⟩
   .exact⟨hH,λ _ h=>nomatch h⟩
   .exact s.zk b u z
 rwa[List.set_same ha]at this
theorem Sl.mutO{x y:Slot}{o:Cn}{ys:List D}{g:List V->HO}{ws:List V}{i:Nat}(s:Sl c Y S G T H)(hi:Y[i]?=some x)(hx:x.own=some o)(ha:G[i]?=some (some (.ref a)))(hy:y.own=some ⟨o.b,ys,g⟩)(hv:Rs (dC c Y G H) ys ws):
  Sl c (Y.set i y) S G T (upd H a (g ws)):=by
 have w:At Y G i a:=⟨⟨_,_,hi,hx⟩,ha⟩
 obtain⟨a',vs,e,hH,_,hB,ab,hZ⟩:=s.oo i x o hi hx;rw[ha]at e;cases e
 have:=s.re (c':=c) (H':=upd H a (g ws)) (i:=i) (x:=y) (w:=some (.ref a)) (S':=S) (T':=T) (wV.mp hi).1 (λ b z=>.inl z) (λ b u n h=>(a_ (show b≠a from λ q=>n (.inr ⟨i,q▸w⟩))).trans h) (λ o' h=>by
   rw[hy]at h;cases h;exact⟨a,ws,rfl,bf,λ m=>hv.mono m,⟨hB,ab,hZ⟩,.inr ⟨i,w⟩,λ j n z=>n (s.ne j i a z w)⟩) (λ _ h=>by subst h;cases hy) (λ j b u n z h=>⟨(a_ (show b≠a from λ q=>n (s.ne j i a (q▸z) w))).trans h,id⟩) (λ m=>s.st.mono m) (λ b u h I=>?_) (λ b hb=>?_) λ b u hz=>?_
 .rwa[List.set_same ha]at this
 .have n:b≠a:=λ z=>by
   subst z;cases q:o.b
   .rw[(ab q).2]at I;cases I
   .exact h (hB q)
  rw[a_ n];exact s.keep b u h I
 .by_cases e:b=a;. subst e;exact⟨_,bf⟩
  .rw[a_ e];exact s.bb b hb
 .rw[a_ λ e=>by rw[e,hZ]at hz;cases hz];exact s.zk b u hz
theorem Sl.mut{U:Bool}{xs J:List D}{aa:List V}{i:Nat}(s:Sl c Y S G T H)(hi:Y[i]?=some (.ow U xs))(ha:G[i]?=some (some (.ref a)))(hv:Rs (dC c Y G H) J aa):
  Sl c (Y.set i (.ow U J)) S G T (upd H a (.lst aa)):=s.mutO hi rfl ha rfl hv
theorem Sl.sub(s:Sl c Y S G T H)(len:C.length=I.length)(h:∀(i:Nat) x,C[i]?=some x->x≠.un->Y[i]?=some x/\I[i]?=G[i]?):Sl c C S I T H:=by
 have aa:∀{i a},At C I i a->At Y G i a:=λ⟨⟨x,o,e,w⟩,z⟩=>by obtain⟨h1,h2⟩:=h _ x e (λ q=>by subst q;cases w);exact⟨⟨x,o,h1,w⟩,h2▸z⟩
 have m:∀b u,dC c Y G H b=some u->dC c C I H b=some u:=bO (λ a u e z=>z.imp id λ⟨i,z⟩=>⟨i,aa z⟩) λ a u _ e=>e
 refine⟨len,λ i d e=>?_,λ i x o e w=>?_,λ i j a h1 h2=>s.ne i j a (aa h1) (aa h2),s.st.mono m,s.keep,s.bb,s.zk⟩
 .obtain⟨h1,h2⟩:=h i _ e (λ q=>nomatch q);rw[h2];obtain⟨v,e,r⟩:=s.pu i d h1;exact⟨v,e,r.mono m⟩
 .obtain⟨h1,h2⟩:=h i _ e (λ q=>by subst q;cases w);rw[h2];obtain⟨a,vs,e,k,r,q⟩:=s.oo i x o h1 w;exact⟨a,vs,e,k,r.mono m,q⟩
theorem Sl.ext(s:Sl c Y S G T H)(k:Nat):Sl c (Y++List.replicate k .un) S (G++List.replicate k none) T H:=
 s.sub (by simp[s.len]) λ i x h n=>by
  by_cases hi:i<Y.length;. rw[QL hi]at h;exact⟨h,QL (s.len▸hi)⟩
  .rw[ZA (by omega),VD]at h;split at h;. exact absurd (Q9 h).symm n
   .cases h
theorem Sl.cut(s:Sl c Y S G T H)(n:Nat):Sl c (Y.take n) S (G.take n) T H:=
 s.sub (by simp[s.len]) λ i x h _=>by
  have hi:i<n:=by have:=(wV.mp h).1;rw[VB]at this;omega
  simp_all
theorem Sl.ntHd(s:Sl c Y S G T H)(h:Hd c Y G b):H b≠some (.tup vs):=λ e=>by
 rcases h with⟨o,z⟩|⟨i,z⟩
 .obtain⟨C,I⟩:=s.zk b o z;rw[e]at C;cases C;exact I vs rfl
 .obtain⟨o,ws,⟨x,_,hx⟩,J,_⟩:=s.at z;rw[e]at J;cases hf:o.f ws with
  |tup ys=>exact Jq hx _ _ hf
  |_=>rw[hf]at J;cases J
theorem Sl.seeT(s:Sl c Y S G T H){b:Addr}{vs:List V}(h:H b=some (.tup vs)):dC c Y G H b=some (.tup vs):=eP.mpr ⟨λ z=>s.ntHd z h,h⟩
end
structure Nm (X:Cx) (i:Nat) (x:Str):Prop where
 n:X.N[i]? = some x:=by rfl
 v:Oy X.env.scope x:=by first | exact Or.inl rfl | exact Or.inr (Or.inl rfl) | exact Or.inr (Or.inr rfl)
 d:(x == ("__debug__":Str))=false:=by decide
 c:(x == ("__classdict__":Str))=false:=by decide
theorem fH{X:Cx}{pos:Pos}(h:Nm X i x):PE X (.Name x pos) (Me i):=J7 h.n h.v h.d h.c
noncomputable abbrev i4(X:Cx)(a:Expr):Prop:=starEach [a] X.env=[(false,eval a X.env)]
noncomputable abbrev DM(X:Cx)(a:Expr)(es:List Expr):Prop:=starEach (a::es) X.env=(false,eval a X.env)::starEach es X.env
noncomputable abbrev Bf(X:Cx)(p:Pos)(es:List Expr):Prop:=(backTo p (starEach es X.env)).any (·.1)=false
noncomputable abbrev Fr(X:Cx)(x:Str):Prop:=X.fn x=true\/X.env.scope.names.lookup x=some .local
noncomputable def M(B:Type):=DS->Option (B×DS)
noncomputable instance:Monad M where
 pure a:=fun s=>some (a,s)
 bind x f:=fun s=>match x s with
  | none=>none
  | some (a,s')=>f a s'
noncomputable def lift{B:Type}(o:Option B):M B:= λ s=>match o with
 |none=>none
 |some a=>some (a,s)
theorem M.bind_def(x:M B)(f:B->M A)(s:DS):(x >>= f) s=(match x s with|none=>none|some (a,s')=>f a s'):=rfl
theorem M.pure_def(a:B)(s:DS):(pure a:M B) s=some (a,s):=rfl
inductive Qi {B A:Type} (x:M B) (f:B->M A) (s:DS) (b:A) (s2:DS):Prop
 | mk (a:B) (s1:DS) (e1:x s=some (a,s1)) (e2:f a s1=some (b,s2)):Qi x f s b s2
theorem bind_some (h:(x >>= f) s=some (b,s2)):Qi x f s b s2:= by
 rw [M.bind_def] at h
 cases e:x s with
 | none=>simp_all
 | some p=>obtain ⟨a,s1⟩:=p;rw [e] at h;exact ⟨a,s1,e,h⟩
theorem aU (h:(pure a:M B) s=some (b,s')):a=b/\s=s':= by
 rw [M.pure_def] at h;grind
theorem aZ (h:lift o s=some (b,s')):o=some b/\s=s':= by
 unfold lift at h
 grind
theorem bq:∀b o,Fw p H b=some o->H b=some o:= λ b o h=>(eP.mp h).2
inductive tM (f:M D) (G:St) (H:Hp) (Q:VK):Prop
 | mk (c:Ct) (Y:DS) (S:List D) (T:List V) (d:D) (δ':DS) (s:Sl c Y S G T H) (e:f Y=some (d,δ')) (q:∀v H',Sl c δ' (d :: S) G (v :: T) H' -> Q v H'):tM f G H Q
inductive qj (f:M Bool) (G:St) (H:Hp) (Q:Bool->Hp->Prop):Prop
 | mk (c:Ct) (Y:DS) (S:List D) (T:List V) (b:Bool) (δ':DS) (s:Sl c Y S G T H) (e:f Y=some (b,δ')) (q:∀H',Sl c δ' S G T H' -> Q b H'):qj f G H Q
inductive PK (f:M (List D)) (G:St) (H:Hp) (Q:List V->Hp->Prop):Prop
 | mk (c:Ct) (Y:DS) (S:List D) (T:List V) (ds:List D) (δ':DS) (s:Sl c Y S G T H) (e:f Y=some (ds,δ')) (q:∀vs H',vs.length=ds.length->Sl c δ' (ds ++ S) G (vs ++ T) H' -> Q vs H'):PK f G H Q
inductive Mn (f:M (List D)) (G:St) (H:Hp) (Q:VK):Prop
 | mk (c:Ct) (Y:DS) (S:List D) (T:List V) (xs:List D) (δ':DS) (s:Sl c Y S G T H) (e:f Y=some (xs,δ')) (q:∀l vs H',vs.length=xs.length->Sl { c with Z:=upd c.Z l (.lst vs) } δ' (xs ++ S) G (vs ++ T) H' -> c.Z l=none->l ∉ c.B->c.H0 l=none->Q (.ref l) H'):Mn f G H Q
noncomputable abbrev DE(X:Cx)(e:Expr)(f:M D):Prop:=PE X e (tM f)
noncomputable abbrev DT(X:Cx)(e:Expr)(f:M Bool):Prop:=PT X e (qj f)
noncomputable abbrev DW(X:Cx)(e:Expr)(f:M Bool):Prop:=PW X e (qj f)
noncomputable abbrev DA(X:Cx)(es:List Expr)(f:M (List D)):Prop:=PA X es (PK f)
noncomputable abbrev DF(X:Cx)(e:Expr)(f:M (List D)):Prop:=PE X e (Mn f)
theorem cw(h:PE X e t)(w:∀G H Q,t' G H Q->t G H Q):PE X e t':= λ pins s G H Q I q=>h pins s G H Q I (w G H Q q)
theorem Fu(h:PT X e t)(w:∀G H Q,t' G H Q->t G H Q):PT X e t':= λ pins s G H Q I q=>h pins s G H Q I (w G H Q q)
theorem L4(h:PW X e t)(w:∀G H Q,t' G H Q->t G H Q):PW X e t':= λ wh pins s G H Q I q=>h wh pins s G H Q I (w G H Q q)
theorem MH(h:PA X e t)(w:∀G H Q,t' G H Q->t G H Q):PA X e t':= λ ps pins s G H Q I q=>h ps pins s G H Q I (w G H Q q)
section
variable {X:Cx} {a b e:Expr} {fa fb:M D} {pos:Pos}
noncomputable def cB(i:Nat):M D:= λ o=>match o[i]? with
 |some (.pu d)=>some (d,o)
 |_=>none
theorem jL (h:cB i Y=some (d,δ')):Y[i]? = some (.pu d)/\Y=δ':= by
 unfold cB at h
 grind
theorem aI(i:Nat){x:Str}{pos:Pos}(C:autoParam (Nm X i x) aQ2._auto_1)
  :DE X (.Name x pos) (cB i):=cw (fH C) λ G H Q ⟨c,Y,S,T,d,J,s,e,k⟩=>by obtain⟨U,rfl⟩:=jL e;obtain⟨v,ev,r⟩:=s.pu i d U;exact⟨v,ev,k v H (s.stk (.cons r s.st))⟩
theorem Oi(h:PE X e (tC v))(r:∀H,R H d v):DE X e (pure d):=cw h λ G H Q ⟨c,C,S,T,d',o,s,e,k⟩=>by obtain⟨rfl,rfl⟩:=aU e;exact k v H (s.stk (.cons (r _) s.st))
theorem aV{j pos}:DE X (.Constant (.int i) j pos) (pure (.int i)):=Oi zh λ _=> .mkI
theorem eD{j pos}:DE X (.Constant (.bool i) j pos) (pure (.bl i)):=Oi Ng λ _=> .mkB
theorem jJ{j pos}:DE X (.Constant .none j pos) (pure .non):=Oi Jn λ _=> .mkN
theorem bg(h:DF X e f):DE X e (do let xs<- f;pure (.lst xs)):=cw h λ G H Q ⟨c,C,S,T,d,I,s,e,k⟩=>by obtain⟨xs,o,J,U⟩:=bind_some e;obtain⟨rfl,rfl⟩:=aU U;exact⟨c,C,S,T,xs,o,s,J,λ l vs H' hl s' hz _ _=>k _ _ (s'.unhideL hl hz)⟩
noncomputable def nc(r:R2)(f:D->D->Option D):Prop:=∀(c:Ct)(o:DS)(S:List D)(G:St)(T:List V)(H:Hp)(x y:D)(v u:V)(d:D)(Q:VK),Sl c o (y::x::S) G (u::v::T) H->f x y=some d->(∀z H',Sl c o (d::S) G (z::T) H'->Q z H')->r v u H Q
noncomputable def m2(f:D->D->Option D)(fa fb:M D):M D:=do
 let x<- fa
 let y<- fb
 lift (f x y)
theorem wY(hd:nc r f):∀G H Q,tM (m2 f fa fb) G H Q->HK r (tM fa) (tM fb) G H Q:= λ G H Q ⟨c,I,S,T,d,J,s,e,k⟩=>by obtain⟨x,o,U,e⟩:=bind_some e;obtain⟨y,C,e2,e⟩:=bind_some e;obtain⟨e3,rfl⟩:=aZ e;exact⟨c,I,S,T,x,o,s,U,λ v H1 s1=>⟨c,o,x::S,v::T,y,C,s1,e2,λ u H2 s2=>hd _ _ _ _ _ _ _ _ _ _ _ _ s2 e3 k⟩⟩
theorem oH(o:ij X (binaryOp op) r)(hd:nc r f)(C:DE X a fa)(I:DE X b fb):DE X (.BinOp a op b pos) (m2 f fa fb):=cw (Ht o C I) (wY hd)
theorem iL(o:ij X (compareOp op) r)(hd:nc r f)(C:DE X a fa)(I:DE X b fb)(hm:behindInMarks op b=false:=by first | exact tP _ | rfl):DE X (.Compare a [op] [b] pos) (m2 f fa fb):=cw (D1 o C I hm) (wY hd)
theorem BA(o:xh X r)(hd:nc r f)(C:DE X a fa)(I:DE X b fb)(hs:autoParam (h_ b) aQ3._auto_1):DE X (.Subscript a b pos) (m2 f fa fb):=cw (IX o C I hs) (wY hd)
noncomputable def di(C:Int->Int->Bool)(g:Int->Int->D):D->D->Option D
 | .int i,.int j=>if C i j=true then some (g i j)else none
 |_,_=>none
theorem fM(h:di C g x y=some d):∃i j,x= .int i/\y= .int j/\C i j=true/\d=g i j:=by unfold di at h;grind
theorem BK{o:Int->Int->Bool}{g:Int->Int->V}{g':Int->Int->D}(I:∀i j,o i j=true->C i j)(J:∀H i j,R H (g' i j) (g i j)):nc (rI C g) (di o g'):= λ c Y S G T H x y v u d Q s e k=>by obtain⟨i,j,rfl,rfl,U,rfl⟩:=fM e;have h1:=s.st.head.int;have h2:=s.st.tail.head.int;exact⟨i,j,h2,h1,I i j U,k _ _ (s.stk (.cons (J _ _ _) s.st.tail.tail))⟩
theorem iU{g':Int->Int->D}(o:∀H i j,R H (g' i j) (g i j)):nc (y_ g) (di (λ _ _=>true) g'):= λ c J S G T H x y v u d Q s e k=>by obtain⟨i,j,rfl,rfl,U,rfl⟩:=fM e;have C:=s.st.head.int;have I:=s.st.tail.head.int;exact⟨i,j,I,C,k _ _ (s.stk (.cons (o _ _ _) s.st.tail.tail))⟩
noncomputable def lL:=di (λ _ _=>true) λ i j=> .int (i+j)
noncomputable def ub:=di (λ _ _=>true) λ i j=> .int (i-j)
noncomputable def o9:=di (λ i j=>(decide (-(2^64)<i)&&decide (i<2^64))||(decide (-(2^64)<j)&&decide (j<2^64))) λ i j=> .int (i*j)
noncomputable def Af:=di (λ _ j=>decide (0<j)) λ i j=> .int (i%j)
noncomputable def JR:=di (λ _ j=>decide (0<j)&&decide (j<1073741824)) λ i j=> .int (i/j)
noncomputable def y9:=di (λ _ _=>true) λ i j=> .bl (decide (i<j))
noncomputable def P2:=di (λ _ _=>true) λ i j=> .bl (decide (i<=j))
noncomputable def Kj:=di (λ _ _=>true) λ i j=> .bl (decide (j<i))
noncomputable def OM:=di (λ _ _=>true) λ i j=> .bl (decide (j<=i))
theorem d3(o:DE X a fa)(C:DE X b fb):DE X (.BinOp a .Add b pos) (m2 lL fa fb):=oH Kv (iU λ _ _ _=> .mkI) o C
theorem qh(o:DE X a fa)(C:DE X b fb):DE X (.BinOp a .Sub b pos) (m2 ub fa fb):=oH Jh (iU λ _ _ _=> .mkI) o C
theorem jF(o:DE X a fa)(C:DE X b fb):DE X (.BinOp a .Mult b pos) (m2 o9 fa fb):=oH K0 (BK (λ i j h=>by simp at h;exact h) λ _ _ _=> .mkI) o C
theorem mh(o:DE X a fa)(C:DE X b fb):DE X (.BinOp a .Mod b pos) (m2 Af fa fb):=oH KJ (BK (λ i j h=>VF h) λ _ _ _=> .mkI) o C
theorem Dq(o:DE X a fa)(C:DE X b fb):DE X (.BinOp a .FloorDiv b pos) (m2 JR fa fb):=oH Gi (BK (λ i j h=>by simp at h;exact h) λ _ _ _=> .mkI) o C
theorem MZ (ha:DE X a fa) (hb:DE X b fb):DE X (.Compare a [.Lt] [b] pos) (m2 y9 fa fb):=iL w9 (iU fun _ _ _=>.mkB) ha hb
theorem LR (ha:DE X a fa) (hb:DE X b fb):DE X (.Compare a [.GtE] [b] pos) (m2 OM fa fb):=iL M6 (iU fun _ _ _=>.mkB) ha hb
noncomputable def j_:D->D->Option D
 | .tup ds,.int i=>jS ds i
 | .lst ds,.int i=>jS ds i
 |_,_=>none
theorem tJ(h:Rs H ds vs)(e:jS ds i=some d):∃v,jS vs i=some v/\R H d v:=by unfold jS at*;rw[h.length];cases q:vv ds.length i with
 |none=>simp_all
 |some j=>rw[q]at e;exact h.get e
theorem CW:nc (Pa K) j_:= λ c U S G T H x y v u d Q s e k=>by cases x with
 |tup ds=>cases y with
  |int i=>have o:jS ds i=some d:=e;obtain⟨p,vs,rfl,C,I⟩:=s.st.tail.head.tup;obtain⟨z,J,r⟩:=tJ I o;exact .inr (.inl ⟨p,vs,i,z,rfl,s.st.head.int,.of (bq _ _ C),J,k _ _ (s.stk (.cons r s.st.tail.tail))⟩)
  |_=>cases e
 |lst ds=>cases y with
  |int i=>have o:jS ds i=some d:=e;obtain⟨p,vs,rfl,C,I⟩:=s.st.tail.head.lst;obtain⟨z,J,r⟩:=tJ I o;exact .inl ⟨p,vs,i,z,rfl,s.st.head.int,.inl (Rd.mono bq C),J,k _ _ (s.stk (.cons r s.st.tail.tail))⟩
  |_=>cases e
 |_=>cases e
theorem ba(o:DE X a fa)(C:DE X b fb)(hs:autoParam (h_ b) aQ3._auto_1):DE X (.Subscript a b pos) (m2 j_ fa fb):=BA tF CW o C hs
noncomputable def qk:D->M Bool
 | .bl b=>pure b
 |_=>lift none
theorem k5{b:Bool}{C o:DS}(h:qk d C=some (b,o)):d= .bl b/\C=o:=by
 unfold qk at h;split at h;. obtain⟨rfl,rfl⟩:=aU h;simp
 .cases h
theorem fW(C:ij X (compareOp op) r)(hd:nc r f)(I:DE X a fa)(J:DE X b fb)(hm:behindInMarks op b=false:=by first | exact tP _ | rfl):DT X (.Compare a [op] [b] pos) (m2 f fa fb >>= qk):=
 Fu (vE C I J hm) λ G H Q ⟨c,U,S,T,d,aa,s,e,k⟩=>by obtain⟨x,o,e1,e⟩:=bind_some e;obtain⟨rfl,rfl⟩:=k5 e;exact wY hd G H _ ⟨c,U,S,T,.bl d,o,s,e1,λ v H' s'=>⟨d,s'.st.head.bl,k _ s'.pop⟩⟩
theorem vA (ha:DE X a fa) (hb:DE X b fb):DT X (.Compare a [.Lt] [b] pos) (m2 y9 fa fb >>= qk):=fW w9 (iU fun _ _ _=>.mkB) ha hb
theorem qS (ha:DE X a fa) (hb:DE X b fb):DT X (.Compare a [.Gt] [b] pos) (m2 Kj fa fb >>= qk):=fW NC (iU fun _ _ _=>.mkB) ha hb
noncomputable def iq:D->Option Bool
 | .non=>some false
 | .bl b=>some b
 | .int i=>some (i !=0)
 | .str y=>if y.length<=16777216 then some ((y.length:Int)!=0)else none
 | .tup ds=>some (!ds.isEmpty)
 | .lst ds=>some (!ds.isEmpty)
 | .dct=>none
 | .dic _=>none
 | .dip _=>none
theorem kU(h:Rs H ds vs):(!ds.isEmpty)= !vs.isEmpty:=by cases ds with
 |nil=>rw[h.inv0];rfl
 |cons d ds=>obtain⟨v,r,e,_⟩:=h.inv;grind
theorem xq{J H:Hp}{d:D}{v:V}{b:Bool}(m:∀b o,J b=some o->H b=some o)(r:R J d v)(e:iq d=some b):JL K v H b:=by cases d with
 |non=>cases r.non;cases e;rfl
 |bl x=>cases r.bl;cases e;rfl
 |int i=>cases r.int;cases e;rfl
 |str x=>cases r.str;have e:(if x.length<=16777216 then some ((x.length:Int)!=0)else none)=some b:=e;split at e;(cases e;exact⟨by rw[PySem.sizeLine_eq];assumption,rfl⟩);cases e
 |dct=>cases e
 |dic _=>cases e
 |dip _=>cases e
 |tup ds=>obtain⟨p,vs,rfl,C,I⟩:=r.tup;cases e;exact .inr (.inl ⟨vs,.of (m _ _ C),kU I⟩)
 |lst ds=>obtain⟨p,vs,rfl,C,I⟩:=r.lst;cases e;exact .inl ⟨vs,.inl (Rd.mono m C),kU I⟩
theorem bT(C:DE X a fa)(he:∀whole,isTrue a X.env whole=(do let v<- whole;standAt a.pos;holding [v] (truthy v)):=by intro _;rfl):DT X a (do let x<- fa;lift (iq x)):=
 Fu (Cv C he) λ G H Q ⟨c,I,S,T,d,J,s,e,k⟩=>by obtain⟨x,o,U,e⟩:=bind_some e;obtain⟨e2,rfl⟩:=aZ e;exact⟨c,I,S,T,x,o,s,U,λ v H' s'=>⟨d,xq bq s'.st.head e2,k _ s'.pop⟩⟩
noncomputable def Ew(fa fb:M Bool):M Bool:=do
 let x<- fa
 if x=true then fb else pure false
noncomputable def Ox(fa fb:M Bool):M Bool:=do
 let x<- fa
 if x=true then pure true else fb
noncomputable def G7(fa:M Bool):M Bool:=do
 let x<- fa
 pure (!x)
variable {ta tb:M Bool} {rest:List Expr}
theorem dN(o:DT X a ta):DW X (.BoolOp .And [a] pos) ta:=Fb o
theorem mD(o:DT X a ta):DW X (.BoolOp .Or [a] pos) ta:=Ka o
theorem eU(I:DT X a ta)(J:DW X (.BoolOp .And (b::rest) pos) tb):DW X (.BoolOp .And (a::b::rest) pos) (Ew ta tb):=L4 (JQ I J) λ G H Q ⟨c,U,S,T,d,C,s,e,k⟩=>by obtain⟨x,o,e1,e⟩:=bind_some e;refine⟨c,U,S,T,x,o,s,e1,λ H' s'=>?_⟩;cases x with
 |true=>exact⟨c,o,S,T,d,C,s',e,k⟩
 |false=>obtain⟨rfl,rfl⟩:=aU e;simp_all
theorem qm(I:DT X a ta)(J:DW X (.BoolOp .Or (b::rest) pos) tb):DW X (.BoolOp .Or (a::b::rest) pos) (Ox ta tb):=L4 (MY I J) λ G H Q ⟨c,U,S,T,d,C,s,e,k⟩=>by obtain⟨x,o,e1,e⟩:=bind_some e;refine⟨c,U,S,T,x,o,s,e1,λ H' s'=>?_⟩;cases x with
 |false=>exact⟨c,o,S,T,d,C,s',e,k⟩
 |true=>obtain⟨rfl,rfl⟩:=aU e;simp_all
theorem iW(h:DW X a ta):DT X a ta:=h.pt
theorem dH(C:DT X a ta):DT X (.UnaryOp .Not a pos) (G7 ta):=Fu (JD C) λ G H Q ⟨c,I,S,T,d,J,s,e,k⟩=>by obtain⟨x,o,U,e⟩:=bind_some e;obtain⟨rfl,rfl⟩:=aU e;exact⟨c,I,S,T,x,o,s,U,λ H' s'=>k _ s'⟩
noncomputable def D5(fa fb:M D):M D:=do
 let x<- fa
 match x with
 | .bl true=>fb
 | .bl false=>pure (.bl false)
 |_=>lift none
noncomputable def KD(fa:M D):M D:=do
 let x<- fa
 match x with
 | .bl b=>pure (.bl (!b))
 |_=>lift none
theorem gx(h:DE X a fa):DE X (.BoolOp op [a] pos) fa:=Jx h
theorem g0(I:DE X a fa)(J:DE X (.BoolOp .And (b::rest) pos) fb):DE X (.BoolOp .And (a::b::rest) pos) (D5 fa fb):=cw (KP I J) λ G H Q ⟨c,U,S,T,d,C,s,e,k⟩=>by obtain⟨x,o,e1,e⟩:=bind_some e;refine⟨c,U,S,T,x,o,s,e1,λ v H' s'=>?_⟩;cases x with
 |bl q=>cases q with
  |true=>exact⟨true,s'.st.head.bl,JN ⟨c,o,S,T,d,C,s'.pop,e,k⟩⟩
  |false=>obtain⟨rfl,rfl⟩:=aU e;exact⟨false,s'.st.head.bl,Kk (k _ _ (s'.stk (.cons .mkB s'.st.tail)))⟩
 |_=>cases e
theorem Jg(C:DE X a fa):DE X (.UnaryOp .Not a pos) (KD fa):=cw (Jo C) λ G H Q ⟨c,I,S,T,d,J,s,e,k⟩=>by obtain⟨x,o,U,e⟩:=bind_some e;refine⟨c,I,S,T,x,o,s,U,λ v H' s'=>?_⟩;cases x with
 |bl q=>obtain⟨rfl,rfl⟩:=aU e;exact⟨q,s'.st.head.bl,k _ _ (s'.stk (.cons .mkB s'.st.tail))⟩
 |_=>cases e
noncomputable def zw{B:Type}(t:M Bool)(fa fb:M B):M B:=do
 let x<- t
 if x=true then fa else fb
theorem LX(I:DT X t ta)(J:DE X a fa)(U:DE X b fb):DE X (.IfExp t a b pos) (zw ta fa fb):=cw (Ck I J U) λ G H Q ⟨c,Y,S,T,d,C,s,e,k⟩=>by obtain⟨x,o,e1,e⟩:=bind_some e;refine⟨c,Y,S,T,x,o,s,e1,λ H' s'=>?_⟩;cases x with
 |true=>exact⟨c,o,S,T,d,C,s',e,k⟩
 |false=>exact⟨c,o,S,T,d,C,s',e,k⟩
variable {es:List Expr} {fs:M (List D)}
theorem aO:DA X [] (pure []):=MH dF λ G H Q ⟨c,C,S,T,d,o,s,e,k⟩=>by obtain⟨rfl,rfl⟩:=aU e;exact k [] H rfl s
noncomputable def iG(fa:M D)(fs:M (List D)):M (List D):=do
 let x<- fa
 let xs<- fs
 pure (x::xs)
theorem aJ(J:DE X a fa)(U:DA X es fs)(hs:autoParam (DM X a es) aQ0._auto_1):DA X (a::es) (iG fa fs):=MH (cN J U hs) λ G H Q ⟨c,Y,S,T,d,aa,s,e,k⟩=>by obtain⟨x,o,e1,e⟩:=bind_some e;obtain⟨xs,C,e2,e⟩:=bind_some e;obtain⟨rfl,rfl⟩:=aU e;refine⟨c,Y,S,T,x,o,s,e1,λ v H1 s1=>⟨c,o,x::S,v::T,xs,C,s1,e2,λ vs H2 l s2=>k (v::vs) H2 (by grind) (s2.stk ?_)⟩⟩;have h1:=s2.st.left l;have I:=s2.st.right l;exact .cons I.head (h1.append I.tail)
noncomputable def few(n:Nat):Option Unit:=if n<=100000 then some ()else none
theorem gP(h:few n=some u):n<=sizeLine/\n<sizeLine:=by
 unfold few at h;split at h
 .have:100000<sizeLine:=by decide
  omega
 grind
noncomputable def Cg(fs:M (List D)):M D:=do
 let ds<- fs
 let _<- lift (few ds.length)
 pure (.tup ds)
noncomputable def FK(fs:M (List D)):M (List D):=do
 let ds<- fs
 let _<- lift (few ds.length)
 pure ds
theorem cu(h:DA X es fs):DE X (.Tuple es x1 pos) (Cg fs):=cw (KG h) λ G H Q ⟨c,C,S,T,d,I,s,e,k⟩=>by obtain⟨ds,o,J,e⟩:=bind_some e;obtain⟨_,U,e2,e⟩:=bind_some e;obtain⟨e3,rfl⟩:=aZ e2;obtain⟨rfl,rfl⟩:=aU e;exact⟨c,C,S,T,ds,o,s,J,λ vs H1 l s1=>⟨by rw[l];exact(gP e3).1,λ p hp=>k _ _ (s1.newTup l hp)⟩⟩
theorem da(h:DA X es fs):DF X (.List es pos) (FK fs):=cw (JT h) λ G H Q ⟨c,I,S,T,d,J,s,e,k⟩=>by obtain⟨ds,o,U,e⟩:=bind_some e;obtain⟨_,aa,e2,e⟩:=bind_some e;obtain⟨e3,rfl⟩:=aZ e2;obtain⟨rfl,rfl⟩:=aU e;refine⟨c,I,S,T,ds,o,s,U,λ vs H1 l s1=>⟨by rw[l];exact(gP e3).1,λ p C=>?_⟩⟩;obtain⟨f1,f2,f3⟩:=s1.fresh C;exact k p vs _ l (s1.hide C) f1 f2 f3
noncomputable def iB(r:List V->Hp->VK->Prop)(f:List D->Option D):Prop:=∀(c:Ct)(o:DS)(S:List D)(G:St)(T:List V)(H:Hp)(ds:List D)(vs:List V)(d:D)(Q:VK),vs.length=ds.length->Sl c o (ds++S) G (vs++T) H->f ds=some d->(∀z H',Sl c o (d::S) G (z::T) H'->Q z H')->r vs H Q
noncomputable def mC{B:Type}(f:List D->Option B)(fs:M (List D)):M B:=do
 let ds<- fs
 lift (f ds)
variable {x:Str} {p:Pos} {id T:String} {r:List V->Hp->VK->Prop} {f:List D->Option D}
theorem Hq(hd:iB r f):∀G H Q,tM (mC f fs) G H Q->Pl r (PK fs) G H Q:= λ G H Q ⟨c,C,S,T,d,I,s,e,k⟩=>by obtain⟨ds,o,J,e⟩:=bind_some e;obtain⟨U,rfl⟩:=aZ e;exact⟨c,C,S,T,ds,o,s,J,λ vs H1 l s1=>hd _ _ _ _ _ _ _ _ _ _ l s1 U k⟩
noncomputable def cP:List D->Option D
 |[.tup ds]=>some (.int ds.length)
 |[.lst ds]=>some (.int ds.length)
 |_=>none
theorem tE(h:Rs H [d] vs):∃v,vs=[v]/\R H d v:=by obtain⟨v,r,e,C,o⟩:=h.inv;rw[o.inv0]at e;grind
theorem OE(h:Rs H [d,d'] vs):∃v u,vs=[v,u]/\R H d v/\R H d' u:=by obtain⟨v,r,e,C,o⟩:=h.inv;obtain⟨u,rfl,I⟩:=tE o;grind
theorem Lb:iB (λ xs H Q=>∃p ys,xs=[.ref p]/\(iE K H p ys\/fQ K H p ys)/\Q (.int ys.length) H) cP:= λ c J S G T H ds vs d Q l s e k=>by
 have h:=s.st.left l;have I:=s.st.right l;unfold cP at e;split at e;. obtain⟨v,rfl,r⟩:=tE h;obtain⟨p,ws,rfl,o,C⟩:=r.tup;cases e;exact⟨p,ws,rfl,.inr (.of (bq _ _ o)),k _ _ (s.stk (.cons (by rw[C.length];exact .mkI) I))⟩
 .obtain⟨v,rfl,r⟩:=tE h;obtain⟨p,ws,rfl,o,C⟩:=r.lst;cases e;exact⟨p,ws,rfl,.inl (.inl (Rd.mono bq o)),k _ _ (s.stk (.cons (by rw[C.length];exact .mkI) I))⟩
 grind
theorem dU(I:c6 X (.builtin id) r)(hd:iB r f)(J:Gl X x)(hm:X.mg x=none)(U:bootBuiltins x=some (.builtin id))(ha:DA X (a::es) fs)(hn:autoParam (x≠"__name__") aQ1._auto_1)(o:autoParam ((x==("__debug__":Str))=false) aQ1._auto_1)
  (he:autoParam (DM X a es) aQ0._auto_1)(C:autoParam (Bf X pos es) aQ0._auto_1):DE X (.Call (.Name x p) (a::es) [] pos) (mC f fs):=
 cw (eT I J hm U ha hn o he C) (Hq hd)
end
inductive Fl where
 | nx | bk | ct | rt (d:D) | rf (xs:List D)
noncomputable def Fin(c:Ct)(o:DS)(S:List D)(T:List V)(C:Fl)(E:Ends):Prop:=
 match C with
 | .nx=>∀G H,Sl c o S G T H->E.nx G H
 | .bk=>∀G H,Sl c o S G T H->E.bk G H
 | .ct=>∀G H,Sl c o S G T H->E.ct G H
 | .rt d=>∀v G H,Sl c o (d::S) G (v::T) H->E.rt v H
 | .rf xs=>∀l vs G H,vs.length=xs.length->Sl { c with Z:=upd c.Z l (.lst vs) } o (xs++S) G (vs++T) H->c.Z l=none->l∉c.B->c.H0 l=none->E.rt (.ref l) H
inductive MG (f:M Fl) (E:Ends) (G:St) (H:Hp):Prop
 | mk (c:Ct) (Y:DS) (S:List D) (T:List V) (fl:Fl) (δ':DS) (s:Sl c Y S G T H) (e:f Y=some (fl,δ')) (q:Fin c δ' S T fl E):MG f E G H
noncomputable abbrev nV(X:Cx)(st:Stmt)(f:M Fl):Prop:=PS X st (MG f)
noncomputable abbrev m_(X:Cx)(st:List Stmt)(f:M Fl):Prop:=tx X st (MG f)
theorem i5(h:PS X e t)(w:∀E G H,t' E G H->t E G H):PS X e t':= λ pins s G H Q I q=>h pins s G H Q I (w Q G H q)
theorem Hl(h:tx X e t)(w:∀E G H,t' E G H->t E G H):tx X e t':= λ pins s G H Q I q=>h pins s G H Q I (w Q G H q)
section
variable {X:Cx} {a b e:Expr} {fa:M D} {fF:M (List D)} {pos:Pos} {st:Stmt} {rest:List Stmt} {f g:M Fl} {tt:M Bool}
theorem bw:m_ X [] (pure .nx):=Hl ES λ E G H ⟨c,C,S,T,I,o,s,e,k⟩=>by obtain⟨rfl,rfl⟩:=aU e;exact k G H s
noncomputable def d8(f g:M Fl):M Fl:=do
 let o<- f
 match o with
 | .nx=>g
 |o=>pure o
theorem aQ(J:nV X st f)(U:m_ X rest g):m_ X (st::rest) (d8 f g):=Hl (C4 J U) λ E G H ⟨c,Y,S,T,fl,I,s,e,k⟩=>by obtain⟨o,C,e1,e⟩:=bind_some e;refine⟨c,Y,S,T,o,C,s,e1,?_⟩;cases o with
 |nx=>exact λ aa H' s'=>⟨c,C,S,T,fl,I,s',e,k⟩
 |bk=>obtain⟨rfl,rfl⟩:=aU e;exact k
 |ct=>obtain⟨rfl,rfl⟩:=aU e;exact k
 |rt d=>obtain⟨rfl,rfl⟩:=aU e;exact k
 |rf xs=>obtain⟨rfl,rfl⟩:=aU e;exact k
theorem aR(o:nV X st f):m_ X [st] f:=Gx o
theorem bc(he:DE X e fa):nV X (.Return (some e) pos) (do let d<- fa;pure (.rt d)):=i5 (CN he) λ E G H ⟨c,C,S,T,U,I,s,e,k⟩=>by obtain⟨d,o,J,e⟩:=bind_some e;obtain⟨rfl,rfl⟩:=aU e;exact⟨c,C,S,T,d,o,s,J,λ v H' s'=>k v G H' s'⟩
theorem hU(he:DF X e fF):nV X (.Return (some e) pos) (do let d<- fF;pure (.rf d)):=i5 (CN he) λ E G H ⟨c,C,S,T,fl,I,s,e,k⟩=>by obtain⟨d,o,J,e⟩:=bind_some e;obtain⟨rfl,rfl⟩:=aU e;exact⟨c,C,S,T,d,o,s,J,λ l vs H' U h2 h3 h4 h5=>k l vs G H' U h2 h3 h4 h5⟩
noncomputable def oC(i:Nat):M (List D):= λ o=>match o[i]? with
 |some (.ow false xs)=>some (xs,o.set i .un)
 |_=>none
theorem tH(i:Nat){x:Str}{pos:Pos}(J:autoParam (Nm X i x) aQ2._auto_1)
  :DF X (.Name x pos) (oC i):=cw (fH J) λ G H Q ⟨c,Y,S,T,xs,aa,s,e,k⟩=>by
 unfold oC at e;split at e;. rename_i ys C;cases e;obtain⟨a,ab,I,_⟩:=s.ow i _ _ C;obtain⟨vs,h1,h2,h3,h4,h5⟩:=s.giveOw C I;exact⟨_,I,k a vs H h1 h2 h3 h4 h5⟩
 grind
theorem b5(J:DT X t tt)(U:m_ X as f)(hb:m_ X bs g):nV X (.If t as bs pos) (zw tt f g):=i5 (L_ J U hb) λ E G H ⟨c,Y,S,T,I,C,s,e,k⟩=>by obtain⟨x,o,e1,e⟩:=bind_some e;refine⟨c,Y,S,T,x,o,s,e1,λ H' s'=>?_⟩;cases x with
 |true=>exact⟨c,o,S,T,I,C,s',e,k⟩
 |false=>exact⟨c,o,S,T,I,C,s',e,k⟩
theorem xt(he:DE X e fa)(hs:autoParam (swapsWith e none pos.line X.env=pure false) aQ0._auto_1):nV X (.Expr e pos) (do let _<- fa;pure .nx):=i5 (qg he hs) λ E G H ⟨c,C,S,T,U,I,s,e,k⟩=>by obtain⟨x,o,J,e⟩:=bind_some e;obtain⟨rfl,rfl⟩:=aU e;exact⟨c,C,S,T,x,o,s,J,λ v H' s'=>k _ _ s'.pop⟩
noncomputable def ka(i:Nat)(d:D):M Unit:= λ o=>if i<o.length then some ((),o.set i (.pu d))else none
noncomputable def Ai(i:Nat)(xs:List D):M Unit:= λ o=>if i<o.length then some ((),o.set i (.ow false xs))else none
theorem g9{u:Unit}(h:ka i d C=some (u,o)):i<C.length/\o=C.set i (.pu d):=by unfold ka at h;grind
theorem oD{u:Unit}(h:Ai i d C=some (u,o)):i<C.length/\o=C.set i (.ow false d):=by unfold Ai at h;grind
noncomputable def uj(i:Nat)(fa:M D):M Fl:=do
 let d<- fa
 ka i d
 pure .nx
noncomputable def Lp(i:Nat)(fF:M (List D)):M Fl:=do
 let d<- fF
 Ai i d
 pure .nx
theorem L5(w:∀G H Q,tM fa G H Q->te G H Q):∀E G H,MG (uj i fa) E G H->Cq te (qL i) E G H:= λ E G H ⟨c,C,S,T,fl,I,s,e,k⟩=>by obtain⟨d,o,J,e⟩:=bind_some e;obtain⟨u,U,e2,e⟩:=bind_some e;obtain⟨rfl,rfl⟩:=aU e;obtain⟨hi,rfl⟩:=g9 e2;exact w _ _ _ ⟨c,C,S,T,d,o,s,J,λ v H' s'=>k _ _ (s'.setPu hi)⟩
theorem OI(w:∀G H Q,Mn fF G H Q->te G H Q):∀E G H,MG (Lp i fF) E G H->Cq te (qL i) E G H:= λ E G H ⟨c,C,S,T,fl,I,s,e,k⟩=>by obtain⟨d,o,J,e⟩:=bind_some e;obtain⟨u,U,e2,e⟩:=bind_some e;obtain⟨rfl,rfl⟩:=aU e;obtain⟨hi,rfl⟩:=oD e2;exact w _ _ _ ⟨c,C,S,T,d,o,s,J,λ l vs H' h1 h2 h3 h4 h5=>k _ _ (h2.setOw h1 h3 h4 h5 hi)⟩
theorem bh(i:Nat){x:Str}{pos':Pos}(o:X.N.Nodup)(he:DE X e fa)(C:autoParam (X.N[i]?=some x) aQ0._auto_1)(hx:Loc X.env.scope x:=by first | exact Or.inl rfl | exact Or.inr rfl)(hs:autoParam (swapsWith e (some (.Name x pos')) pos.line X.env=pure false) aQ0._auto_1)
  (hf:Fr X x:=by first|exact .inl rfl|exact .inr rfl|assumption):nV X (.Assign [.Name x pos'] e pos) (uj i fa):=i5 (C3 o C hx he hs hf) (L5 λ _ _ _ h=>h)
theorem dQ(i:Nat){x:Str}{pos':Pos}(o:X.N.Nodup)(he:DF X e fF)(C:autoParam (X.N[i]?=some x) aQ0._auto_1)(hx:Loc X.env.scope x:=by first | exact Or.inl rfl | exact Or.inr rfl)(hs:autoParam (swapsWith e (some (.Name x pos')) pos.line X.env=pure false) aQ0._auto_1)
  (hf:Fr X x:=by first|exact .inl rfl|exact .inr rfl|assumption):nV X (.Assign [.Name x pos'] e pos) (Lp i fF):=i5 (C3 o C hx he hs hf) (OI λ _ _ _ h=>h)
inductive Kb (lo:Nat) (f:D->M Unit) (v:V) (G:St) (H:Hp) (Q:St->Hp->Prop):Prop
 | mk (c:Ct) (Y:DS) (S:List D) (T:List V) (d:D) (δ':DS) (s:Sl c Y (d :: S) G (v :: T) H) (e:f d Y=some ((),δ')) (q:∀σ' H',(∀n,n ≤ lo->σ'.take n=G.take n)->Sl c δ' S σ' T H' -> Q σ' H'):Kb lo f v G H Q
inductive L6 (lo:Nat) (f:List D->M Unit) (vs:List V) (G:St) (H:Hp) (Q:St->Hp->Prop):Prop
 | mk (c:Ct) (Y:DS) (S:List D) (T:List V) (ds:List D) (δ':DS) (l:vs.length=ds.length) (s:Sl c Y (ds ++ S) G (vs ++ T) H) (e:f ds Y=some ((),δ')) (q:∀σ' H',(∀n,n ≤ lo->σ'.take n=G.take n)->Sl c δ' S σ' T H' -> Q σ' H'):L6 lo f vs G H Q
noncomputable abbrev DG(X:Cx)(lo:Nat)(tg:Expr)(f:D->M Unit):Prop:=PG X tg (Kb lo f)
noncomputable abbrev Oe(X:Cx)(lo:Nat)(tg:List Expr)(f:List D->M Unit):Prop:=JE X tg (L6 lo f)
theorem NR(h:PG X e t)(w:∀v G H Q,t' v G H Q->t v G H Q):PG X e t':= λ pins s G H v u Q I r q=>h pins s G H v u Q I r (w v G H Q q)
theorem Ir{e:List Expr}{t t':Ho}(h:JE X e t)(w:∀v G H Q,t' v G H Q->t v G H Q):JE X e t':= λ pins s G H v u Q I r q=>h pins s G H v u Q I r (w v G H Q q)
theorem bu(i:Nat){x:Str}{pos:Pos}(I:X.N.Nodup)(o:autoParam (lo<=i) aQ1._auto_1)(C:autoParam (X.N[i]?=some x) aQ0._auto_1)(hx:Loc X.env.scope x:=by first | exact Or.inl rfl | exact Or.inr rfl)
  (hf:Fr X x:=by first|exact .inl rfl|exact .inr rfl|assumption):DG X lo (.Name x pos) (ka i):=NR (F9 I C hx hf) λ v G H Q ⟨c,Y,S,T,d,J,s,e,k⟩=>by obtain⟨C,rfl⟩:=g9 e;exact k _ _ (λ n U=>List.take_set_of_le (Q3 U o)) (s.setPu C)
noncomputable def vH:List D->M Unit
 |[]=>pure ()
 |_=>lift none
noncomputable def md(f:D->M Unit)(g:List D->M Unit):List D->M Unit
 |d::ds=>do
  f d
  g ds
 |_=>lift none
theorem du:Oe X lo [] vH:=Ir GK λ v G H Q ⟨c,C,S,T,ds,o,l,s,e,k⟩=>by cases ds with
 |nil=>obtain⟨_,rfl⟩:=aU e;have:v=[]:=VU l;subst this;exact⟨rfl,k G H (λ _ _=>rfl) s⟩
 |cons d ds=>cases e
theorem bC{e:Expr}{es:List Expr}{f:D->M Unit}{g:List D->M Unit}(U:DG X lo e f)(h2:Oe X lo es g)
  (hs:autoParam ((assignEach (e::es) X.env).map (·.2)=assign e X.env::(assignEach es X.env).map (·.2)) aQ0._auto_1):Oe X lo (e::es) (md f g):=Ir (AA U h2 hs) λ vs G H Q ⟨c,Y,S,T,ds,C,l,s,e,k⟩=>by cases ds with
 |nil=>cases e
 |cons d ds=>cases vs with
  |nil=>cases l
  |cons v vs=>obtain⟨u,o,e1,e2⟩:=bind_some e;exact⟨v,vs,rfl,c,Y,ds++S,vs++T,d,o,s,e1,λ aa H1 t1 s1=>⟨c,o,S,T,ds,C,by grind,s1,e2,λ I H2 t2 s2=>k I H2 (λ n J=>(t2 n J).trans (t1 n J)) s2⟩⟩
noncomputable def jZ(n:Nat)(g:List D->M Unit):D->M Unit
 | .tup ds=>if ds.length=n then g ds else lift none
 |_=>lift none
theorem eS{k:Nat}{g:List D->M Unit}{n:Nat}(h:Oe X lo es g)(hc:autoParam (X.calm=true) aQ0._auto_1)
  (hn:autoParam ((assignEach es X.env).length=n) aQ0._auto_1)(C:autoParam ((assignEach es X.env).findIdx? (·.1)=none) aQ0._auto_1):DG X lo (.Tuple es k pos) (jZ n g):=NR (Jr hc h hn C) λ v G H Q ⟨c,U,S,T,d,o,s,e,k⟩=>by cases d with
 |tup ds=>
  have I:(if ds.length=n then g ds else lift none) U=some ((),o):=e;split at I;. obtain⟨p,vs,rfl,h1,J⟩:=s.st.head.tup;exact⟨p,vs,rfl,.of (bq _ _ h1),by rw[J.length];omega,c,U,S,T,ds,o,J.length,s.stk (J.append s.st.tail),I,k⟩
  .cases I
 |_=>cases e
theorem pN{g:D->M Unit}(he:DE X e fa)(I:DG X 0 tg g)(hs:autoParam (swapsWithSole [tg] e pos.line X.env=pure false) aQ0._auto_1)(hw:autoParam (swappedStores [tg] e X.env=pure none) aQ0._auto_1)
  (J:autoParam ((assignEach [tg] X.env).map (·.2)=[assign tg X.env]) aQ0._auto_1):nV X (.Assign [tg] e pos) (do let d<- fa;g d;pure .nx):=i5 (Ao he I hs hw J) λ E G H ⟨c,U,S,T,fl,aa,s,e,k⟩=>by obtain⟨d,o,e1,e⟩:=bind_some e;obtain⟨u,C,e2,e⟩:=bind_some e;obtain⟨rfl,rfl⟩:=aU e;exact⟨c,U,S,T,d,o,s,e1,λ v H' s'=>⟨c,o,S,T,d,C,s',e2,λ ab H2 _ s2=>k _ _ s2⟩⟩
noncomputable abbrev iQ:=List (DS->Option D)×(DS->Bool)
noncomputable def Jw(J:It)(its:iQ)(C:List D)(I:List V):Prop:=∀(c:Ct)(o:DS)(S:List D)(G:St)(T:List V)(H:Hp)(i:Nat),Sl c o (C++S) G (I++T) H->
 (∀act d,its.1[i]?=some act->act o=some d->J.go i H/\∀x H',J.yld i H x H'->Sl c o (d::(C++S)) G (x::(I++T)) H')/\(i=its.1.length->its.2 o=true->J.stop i H)
inductive OD (f:M iQ) (G:St) (H:Hp) (R:It->Hp->Prop):Prop
 | mk (c:Ct) (Y:DS) (S:List D) (T:List V) (it:iQ) (δ':DS) (s:Sl c Y S G T H) (e:f Y=some (it,δ')) (q:∀J Sx Tx H',Tx.length=Sx.length->Jw J it Sx Tx->Sl c δ' (Sx ++ S) G (Tx ++ T) H' -> R J H'):OD f G H R
noncomputable abbrev DI(X:Cx)(tg iter:Expr)(f:M iQ):Prop:=PI X tg iter (OD f)
theorem qp{tg e:Expr}{t t':TI}(h:PI X tg e t)(w:∀G H Q,t' G H Q->t G H Q):PI X tg e t':= λ pins s G H Q I q=>h pins s G H Q I (w G H Q q)
noncomputable def bp(ds:List D):iQ:=(ds.map λ d _=>some d,λ _=>true)
theorem eA{i:Nat}{act:DS->Option D}{o:DS}{d:D}(h:(bp ds).1[i]?=some act)(e:act o=some d):ds[i]?=some d:=by unfold bp at h;grind
theorem G5{X:Cx}(hK:X.K=K){a:Addr}{ds:List D}:Jw (Pj K a) (bp ds) [.tup ds] [.ref a]:= λ c Y S G T H i s=>by obtain⟨p,vs,e,J,C⟩:=s.st.head.tup;cases e;have o:fQ K H a vs:= .of (bq _ _ J);refine⟨λ act d U hd=>?_,λ e _=>⟨vs,o,by rw[C.length,e];simp[bp]⟩⟩;obtain⟨v,I,r⟩:=C.get (eA U hd);refine⟨⟨vs,v,o,I⟩,λ x H' y=>?_⟩;obtain⟨rfl,y⟩:=y;have:=y vs o;rw[I]at this;cases this;exact s.stk (.cons r s.st)
theorem Ey{a:Addr}{ds:List D}:Jw (Ob K a) (bp ds) [.lst ds] [.ref a]:= λ c Y S G T H i s=>by obtain⟨p,vs,e,J,C⟩:=s.st.head.lst;cases e;have o:iE K H a vs:= .inl (Rd.mono bq J);refine⟨λ act d U hd=>?_,λ e _=>⟨vs,o,by rw[C.length,e];simp[bp]⟩⟩;obtain⟨v,I,r⟩:=C.get (eA U hd);refine⟨⟨vs,v,o,I⟩,λ x H' y=>?_⟩;obtain⟨rfl,y⟩:=y;have:=y vs o;rw[I]at this;cases this;exact s.stk (.cons r s.st)
noncomputable def df:D->Option iQ
 | .tup ds=>some (bp ds)
 | .lst ds=>some (bp ds)
 |_=>none
theorem Lh{tg l:Expr}{U:TE}(hl:PE X l U):PI X tg l (λ G H R=>U G H λ x H1=>∃a,x= .ref a/\(((∃xs,iE X.K H1 a xs)/\R (Ob X.K a) H1)\/((∃xs,fQ X.K H1 a xs)/\R (Pj X.K a) H1))):=by
 intro pins s G H R I h;refine b9 (hl pins s G H _ I h) λ v s1 ⟨x,H1,C,r1,q1⟩=>?_;obtain⟨a,e,q⟩:=q1;subst e;cases r1;rcases q with⟨⟨xs,J⟩,q⟩|⟨⟨xs,J⟩,q⟩
 .obtain⟨its,rv,p,hz⟩:=C.list J;refine VY p.isList ?_;refine⟨s1.heap.objs.size,[s1.heap.objs.size],_,_,H1,rfl,C.kept (t':=s1.toks) λ b o e=>zS _ e,oJ a _,⟨_,wF _ rfl,rfl,rfl⟩,λ b hb=>?_,q⟩;have e:b=s1.heap.objs.size:=by simp_all
  subst e;exact C.fpOk (wN _) (C.hok.fresh (wN _))
 .obtain⟨its,rv,p,hz⟩:=C.tuple J;refine YQ (show s1.heap.IsTuple a its.toArray from p) ?_;refine⟨s1.heap.objs.size,[s1.heap.objs.size],_,_,H1,rfl,C.kept (t':=s1.toks) λ b o e=>zS _ e,u5 a _,⟨_,wF _ rfl,rfl,rfl⟩,λ b hb=>?_,q⟩;have e:b=s1.heap.objs.size:=by simpa using hb
  subst e;exact C.fpOk (wN _) (C.hok.fresh (wN _))
theorem bU{tg l:Expr}(J:DE X l fa):DI X tg l (do let x<- fa;lift (df x)):=qp (Lh J) λ G H R ⟨c,U,S,T,it,aa,s,e,k⟩=>by obtain⟨x,o,e1,e⟩:=bind_some e;obtain⟨C,rfl⟩:=aZ e;refine⟨c,U,S,T,x,o,s,e1,λ v H' s'=>?_⟩;cases x with
 |tup ds=>cases C;obtain⟨p,vs,rfl,I,h2⟩:=s'.st.head.tup;exact⟨p,rfl,.inr ⟨⟨vs,.of (bq _ _ I)⟩,k _ [.tup ds] [.ref p] H' rfl (G5 rfl) s'⟩⟩
 |lst ds=>cases C;obtain⟨p,vs,rfl,I,h2⟩:=s'.st.head.lst;exact⟨p,rfl,.inl ⟨⟨vs,.inl (Rd.mono bq I)⟩,k _ [.lst ds] [.ref p] H' rfl Ey s'⟩⟩
 |_=>cases C
noncomputable def cJ(lo:Int)(n:Nat):List D:=(List.range n).map λ(i:Nat)=>D.int (lo+(i:Int))
theorem vT:Jw (L3 lo n) (bp (cJ lo n)) [] []:= λ c I S G T H i s=>by
 refine⟨λ act d C hd=>?_,λ e _=>by
  have:(bp (cJ lo n)).1.length=n:=by simp[bp,cJ]
  show n<=i;omega⟩;have h:=eA C hd;unfold cJ at h;rw[QS]at h;have o:i<n:=by grind
 rw[YL o]at h;cases h;refine⟨o,λ x H' y=>?_⟩;obtain⟨rfl,rfl⟩:=y;exact s.stk (.cons .mkI s.st)
noncomputable def cQ(i:Int):Bool:=decide (-(2^62)<=i)&&decide (i<2^62)
noncomputable def k4:List D->Option iQ
 |[.int j]=>if cQ j=true then some (bp (cJ 0 j.toNat))else none
 |_=>none
noncomputable def Kd:List D->Option iQ
 |[.int i,.int j]=>if(cQ i&&cQ j)=true then some (bp (cJ i (j-i).toNat))else none
 |_=>none
theorem bZ{tg a:Expr}{p:Pos}{fs:M (List D)}(J:Gl X "range")(hm:X.mg "range"=none)(U:DA X [a] fs)(hs:autoParam (i4 X a) aQ0._auto_1):DI X tg (.Call (.Name "range" p) [a] [] pos) (mC k4 fs):=
 qp (xW J hm U hs) λ G H R ⟨c,Y,S,T,it,aa,s,e,k⟩=>by
  obtain⟨ds,C,e1,e⟩:=bind_some e;obtain⟨o,rfl⟩:=aZ e;refine⟨c,Y,S,T,ds,C,s,e1,λ vs H' l s'=>?_⟩;unfold k4 at o;split at o
  .split at o;. rename_i j I;cases o;obtain⟨v,rfl,r⟩:=tE (s'.st.left l);cases r.int;simp[cQ]at I;exact⟨j,rfl,I.1,I.2,k _ [] [] H' rfl vT (s'.stk (s'.st.right l))⟩
   .cases o
  grind
theorem xF{tg a b:Expr}{p:Pos}{fs:M (List D)}(U:Gl X "range")(hm:X.mg "range"=none)(ha:DA X [a,b] fs)(hs:autoParam (starEach [a,b] X.env=[(false,eval a X.env),(false,eval b X.env)]) aQ0._auto_1)(I:autoParam (i4 X b) aQ0._auto_1):
  DI X tg (.Call (.Name "range" p) [a,b] [] pos) (mC Kd fs):=
 qp (y0 U hm ha hs I) λ G H R ⟨c,Y,S,T,it,aa,s,e,k⟩=>by
  obtain⟨ds,J,e1,e⟩:=bind_some e;obtain⟨o,rfl⟩:=aZ e;refine⟨c,Y,S,T,ds,J,s,e1,λ vs H' l s'=>?_⟩;unfold Kd at o;split at o
  .split at o
   .rename_i i j C;cases o;obtain⟨v,u,rfl,r1,r2⟩:=OE (s'.st.left l);cases r1.int;cases r2.int;simp[cQ]at C;exact⟨i,j,rfl,⟨C.1.1,C.1.2,C.2.1,C.2.2⟩,k _ [] [] H' rfl vT (s'.stk (s'.st.right l))⟩
   .cases o
  grind
noncomputable def c8(i n:Nat):iQ:=((List.range n).map λ(j:Nat) (o:DS)=>match o[i]? with
 |some (.ow _ xs)=>if xs.length=n then xs[j]? else none
 |_=>none,λ o=>match o[i]? with
 |some (.ow _ xs)=>decide (xs.length=n)
 |_=>false)
noncomputable def cZ(i:Nat):M (List D):= λ o=>match o[i]? with
 |some (.ow _ xs)=>some (xs,o)
 |_=>none
theorem bF{C o:DS}(h:cZ i C=some (xs,o)):(∃b,C[i]?=some (.ow b xs))/\C=o:=by unfold cZ at h;grind
end
section
variable {X:Cx} {a b e tg iter elt:Expr} {te:M D} {pos:Pos} {st:Stmt} {f body:M Fl} {tt:M Bool} {fi:M iQ} {gt:D->M Unit}
theorem Sl.drop(s:Sl c o (A++S) G (P++T) H)(l:P.length=A.length):Sl c o S G T H:=s.stk (s.st.right l)
theorem Sl.rot(s:Sl c C (A++(B++S)) G (P++(Q++T)) H)(l:P.length=A.length)(o:Q.length=B.length):Sl c C (B++(A++S)) G (Q++(P++T)) H:=
 s.stk (((s.st.right l).left o).append ((s.st.left l).append ((s.st.right l).right o)))
noncomputable def forM(gt:D->M Unit)(body:M Fl)(fin:DS->Bool):List (DS->Option D)->M Fl
 |[]=> λ o=>if fin o=true then some (.nx,o)else none
 |a::r=> λ o=>match a o with
  |none=>none
  |some d=>(do
   gt d
   let C<- body
   match C with
   | .nx=>forM gt body fin r
   | .ct=>forM gt body fin r
   | .bk=>pure .nx
   | .rt d=>pure (.rt d)
   | .rf d=>pure (.rf d)) o
theorem dZ(hi:DI X tg iter fi)(hg:DG X 0 tg gt)(hb:m_ X ag body)(hp:PassesOwn (model X.prog X.w) X.A X.env X.xe:=by exact PassesOwn.never)(hc:autoParam (X.calm=true) aQ0._auto_1)
  (hs:∀x,foldedSetIterable iter X.env x=pure x:=by intro _;rfl):nV X (.For tg iter ag [] pos) (do let it<- fi;forM gt body it.2 it.1):=i5 (JY hp hc hi hg hb hs) λ E ak H0 ⟨c,ah,S,T,fl,aa,s0,e,k⟩=>by
 obtain⟨it,ab,e1,e⟩:=bind_some e;refine⟨c,ah,S,T,it,ab,s0,e1,λ J Sx Tx H1 l hJ s1=>?_⟩;obtain⟨items,fin⟩:=it;refine⟨λ i m G H=>∃o,m=items.length-i/\i<=items.length/\Sl c o (Sx++S) G (Tx++T) H/\forM gt body fin (items.drop i) o=some (fl,aa),⟨_,ab,rfl,ZG _,s1,e⟩,?_⟩;rintro i m G H ⟨o,rfl,hi,s,em⟩;by_cases I:i<items.length;. rw[QM I]at em;unfold forM at em;cases ea:items[i] o with
  |none=>rw[ea]at em;cases em
  |some d=>rw[ea]at em;obtain⟨u,ae,e2,em⟩:=bind_some em;obtain⟨af,U,e3,em⟩:=bind_some em;obtain⟨go,ai⟩:=(hJ c o S G T H i s).1 items[i] d (kW I) ea;refine .inr ⟨go,λ C H'=>∃o,Sl c o (Sx++S) C (Tx++T) H'/\forM gt body fin (items.drop (i+1)) o=some (fl,aa),λ C H' ⟨aj,sj,ej⟩=>⟨items.length-(i+1),by omega,aj,rfl,I,sj,ej⟩,λ x H' y=>?_⟩;refine⟨c,o,Sx++S,Tx++T,d,ae,ai x H' y,e2,λ ao H2 _ s2=>⟨c,ae,Sx++S,Tx++T,af,U,s2,e3,?_⟩⟩;cases af with
   |nx=>exact λ C H' s'=>⟨U,s',em⟩
   |ct=>exact λ C H' s'=>⟨U,s',em⟩
   |bk=>obtain⟨rfl,rfl⟩:=aU em;exact λ C H' s'=>k _ _ (s'.drop l)
   |rt d'=>obtain⟨rfl,rfl⟩:=aU em;exact λ v C H' s'=>k v C H' (s'.stk (.cons s'.st.head (s'.st.tail.right l)))
   |rf xs=>obtain⟨rfl,rfl⟩:=aU em;exact λ q vs C H' h1 h2 h3 h4 h5=>k q vs C H' h1 (h2.stk ((h2.st.left h1).append ((h2.st.right h1).right l))) h3 h4 h5
 .have ei:i=items.length:=by omega
  subst ei;rw[Z4]at em;unfold forM at em;by_cases hf:fin o=true;. rw[gA hf]at em;cases em;exact .inl ⟨(hJ c _ S G T H _ s).2 rfl hf,k _ _ (s.drop l)⟩
  simp_all
noncomputable def QH(J:It)(its:iQ)(C:List D)(I:List V)(G:St):Prop:=∀(c:Ct)(o:DS)(S:List D)(T:List V)(H:Hp)(i:Nat),Sl c o (C++S) G (I++T) H->
 (∀act d,its.1[i]?=some act->act o=some d->J.go i H/\∀x H',J.yld i H x H'->Sl c o (d::(C++S)) G (x::(I++T)) H')/\(i=its.1.length->its.2 o=true->J.stop i H)
inductive ND (f:M iQ) (G:St) (H:Hp) (R:It->Hp->Prop):Prop
 | mk (c:Ct) (Y:DS) (S:List D) (T:List V) (it:iQ) (δ':DS) (s:Sl c Y S G T H) (e:f Y=some (it,δ')) (q:∀J Sx Tx H',Tx.length=Sx.length->QH J it Sx Tx G->Sl c δ' (Sx ++ S) G (Tx ++ T) H' -> R J H'):ND f G H R
noncomputable abbrev DC(X:Cx)(tg iter:Expr)(f:M iQ):Prop:=PI X tg iter (ND f)
theorem b7(h:DI X tg iter fi):DC X tg iter fi:=qp h λ G H R ⟨c,o,S,T,it,C,s,e,k⟩=>⟨c,o,S,T,it,C,s,e,λ J I U H' l hJ s'=>k J I U H' l (λ c o S T H i=>hJ c o S G T H i) s'⟩
theorem Bo(i:Nat){x:Str}{pos:Pos}(hN:autoParam (Nm X i x) aQ2._auto_1)
  :DC X tg (.Name x pos) (do let xs<- cZ i;pure (c8 i xs.length)):=qp (Gy (fH hN)) λ G H R ⟨c,Y,S,T,it,ab,s,e,k⟩=>by
 obtain⟨xs,ae,e1,e⟩:=bind_some e;obtain⟨rfl,rfl⟩:=aU e;obtain⟨⟨b,hi⟩,rfl⟩:=bF e1;obtain⟨a,vs,ea,hH,hv,_⟩:=s.ow i b xs hi;refine⟨_,ea,a,rfl,⟨vs,.of hH⟩,k _ [] [] H rfl ?_ s⟩;intro c Y S T H j s;refine⟨λ act d J hd=>?_,λ ej hf=>?_⟩
 .unfold c8 at J;rw[QS]at J;have hj:j<xs.length:=by
   by_cases hj:j<xs.length;. exact hj
   .rw[YW (by simp;omega)]at J;cases J
  rw[YL hj]at J;cases J;dsimp only at hd;split at hd
  .rename_i b' ys hy;split at hd
   .obtain⟨a',ws,o,C,I,_⟩:=s.ow i b' ys hy;rw[ea]at o;cases o;obtain⟨v,U,r⟩:=I.get hd;refine⟨⟨ws,v,.of C,U⟩,λ x H' y=>?_⟩;obtain⟨rfl,y⟩:=y;have:=y ws (.of C);rw[U]at this;cases this;exact s.stk (.cons r s.st)
   .cases hd
  simp_all
 .unfold c8 at hf ej;dsimp only at hf;split at hf;. rename_i b' ys hy;obtain⟨a',ws,o,C,I,_⟩:=s.ow i b' ys hy;rw[ea]at o;cases o;have hl:ys.length=xs.length:=VF hf;refine⟨ws,.of C,?_⟩;rw[I.length,ej];simp;omega
  .cases hf
noncomputable def gp(gt:D->M Unit)(tt:M Bool)(te:M D)(d:D):M (Option D):=do
 gt d
 let b<- tt
 if b=true then do
  let x<- te
  pure (some x)
 else pure none
noncomputable def eR(own:Nat)(turn:D->M (Option D))(fin:DS->Bool):List (DS->Option D)->M (List D)
 |[]=> λ C=>if fin C=true then some ([],C)else none
 |a::r=> λ C=>match a C with
  |none=>none
  |some d=>match turn d (C++List.replicate own .un)with
   |none=>none
   |some (o,I)=>match eR own turn fin r (I.take C.length)with
    |none=>none
    |some (xs,J)=>some (o.toList++xs,J)
noncomputable def gz(n:Nat):M Unit:= λ o=>if o.length=n then some ((),o)else none
noncomputable def f_(lo own:Nat)(fi:M iQ)(turn:D->M (Option D)):M (List D):=do
 gz lo
 let it<- fi
 let _<- lift (few it.1.length)
 eR own turn it.2 it.1
theorem qW:∀G H Q,Mn (f_ lo own fi (gp gt tt te)) G H Q->vq (ND fi) own (Kb lo gt) (qj tt) (tM te) G H Q:= λ G H Q ⟨c,ah,S,T,xs,au,s0,e,k⟩=>by
 obtain⟨u,av,e0,e⟩:=bind_some e;have ae:G.length=lo/\ah=av:=by
  unfold gz at e0;split at e0;. cases e0;exact⟨by rw[<- s0.len];assumption,rfl⟩
  .cases e0
 obtain⟨ae,rfl⟩:=ae;obtain⟨it,ai,e1,e⟩:=bind_some e;obtain⟨u',aw,e2,e⟩:=bind_some e;obtain⟨e3,rfl⟩:=aZ e2;have aj:=(gP e3).2;refine⟨c,ah,S,T,it,ai,s0,e1,λ J Sx Tx H1 l hJ s1 q hq=>?_⟩;obtain⟨items,fin⟩:=it;dsimp only at e aj;obtain⟨f1,f2,f3⟩:=s1.fresh hq;refine⟨λ i m acc H=>∃I C af,m=items.length-i/\i<=items.length/\acc.length=C.length/\acc.length<=i/\Sl { c with Z:=upd c.Z q (.lst acc) } I (C++(Sx++S)) G (acc++(Tx++T)) H/\
  eR own (gp gt tt te) fin (items.drop i) I=some (af,au)/\C++af=xs,⟨_,ai,[],xs,rfl,ZG _,rfl,wN _,s1.hide hq,e,rfl⟩,?_⟩;rintro i m acc H ⟨I,C,af,rfl,hi,la,li,s,em,ex⟩;have ak:H q=some (.lst acc):=s.zz q _ bf;refine⟨ak,?_⟩;have sr:=s.rot la l;by_cases aa:i<items.length;. rw[QM aa]at em;unfold eR at em;cases ea:items[i] I with
  |none=>rw[ea]at em;cases em
  |some d=>rw[ea]at em;dsimp only at em;cases U:gp gt tt te d (I++List.replicate own .un)with
   |none=>rw[U]at em;cases em
   |some p=>obtain⟨o,ax⟩:=p;rw[U]at em;dsimp only at em;cases ec:eR own (gp gt tt te) fin (items.drop (i+1)) (ax.take I.length)with
    |none=>rw[ec]at em;cases em
    |some p=>
     obtain⟨ao,aw⟩:=p;rw[ec]at em;cases em;obtain⟨u1,aq,ay,U⟩:=bind_some U;obtain⟨b,ag,az,U⟩:=bind_some U;obtain⟨go,aA⟩:=(hJ { c with Z:=upd c.Z q (.lst acc) } I (C++S) (acc++T) H i sr).1 items[i] d (kW aa) ea;refine .inr ⟨go,λ x H' y=>?_⟩;refine⟨{ c with Z:=upd c.Z q (.lst acc) },I++List.replicate own .un,Sx++(C++S),Tx++(acc++T),d,aq,(aA x H' y).ext own,ay,λ aB H2 hn s2=>?_⟩;have ht:aB.take G.length=G:=by rw[hn _ (W4 ae)];exact YB rfl
     refine⟨ht,{ c with Z:=upd c.Z q (.lst acc) },aq,Sx++(C++S),Tx++(acc++T),b,ag,s2,az,λ H3 s3=>?_⟩;have ab:I.length=G.length:=s.len;cases b with
     |true=>obtain⟨y1,ar,ey,U⟩:=bind_some U;obtain⟨rfl,rfl⟩:=aU U;refine⟨{ c with Z:=upd c.Z q (.lst acc) },ag,Sx++(C++S),Tx++(acc++T),y1,ar,s3,ey,λ v H4 s4=>?_⟩;refine⟨s4.zz q _ bf,by omega,items.length-(i+1),by omega,ar.take I.length,C++[y1],ao,rfl,aa,by simp[la],by simp;omega,?_,ec,by rw[<- ex];simp⟩;have s5:=s4.cut G.length;rw[ht,<- ab]at s5;have s6:=Sl.hideSet (.lst (acc++[v])) s5 f2 f3;refine s6.stk ?_;have h1:=s6.st.head;have h2:=s6.st.tail.left l;have h3:=s6.st.tail.right l;have h4:=h3.left la;have h5:=h3.right la;exact(h4.append (.cons h1 .nil)).append (h2.append h5)
     |false=>obtain⟨rfl,rfl⟩:=aU U;refine⟨items.length-(i+1),by omega,ag.take I.length,C,ao,rfl,aa,la,by omega,?_,ec,ex⟩;have s5:=s3.cut G.length;rw[ht,<- ab]at s5;exact s5.rot l la
 .have ei:i=items.length:=by omega
  subst ei;rw[Z4]at em;unfold eR at em;by_cases hf:fin I=true;. rw[gA hf]at em;cases em;rw[ZU]at ex;subst ex;refine .inl ⟨(hJ { c with Z:=upd c.Z q (.lst acc) } _ (C++S) (acc++T) H _ sr).2 rfl hf,k q acc H la ?_ f1 f2 f3⟩;exact s.stk ((s.st.left la).append ((s.st.right la).right l))
  .rw[gL hf]at em;cases em
theorem jg:oY X [] (qj (pure true)):= λ pins s G H Q I ⟨c,C,S,T,b,o,sl,e,k⟩=>by obtain⟨rfl,rfl⟩:=aU e;exact F_ pins s G H Q I (k H sl)
theorem oW(h:DT X t tt):oY X [t] (qj tt):=FV h
variable {N' own:List Str} {scope:Scope} {ifs:List Expr} {lo:Nat}
theorem E8(o:DC X tg iter fi)(C:∀s H fp pins,DG (blk X N' own scope s H fp pins) lo tg gt)(I:∀s H fp pins,oY (blk X N' own scope s H fp pins) ifs (qj tt))(he:∀s H fp pins,DE (blk X N' own scope s H fp pins) elt te)
  (J:autoParam (cM N' own X.env.scope scope=true) aQ0._auto_1)(U:autoParam (cG X.N N' scope=true) aQ0._auto_1)(hk:autoParam (scope.kind= .function) aQ0._auto_1)(hc:autoParam (X.calm=true) aQ0._auto_1)(hs:∀x,foldedSetIterable iter X.env x=pure x:=by intro _;rfl):
  DF X (.ListComp elt [⟨tg,iter,ifs,0⟩] scope pos) (f_ lo own.length fi (gp gt tt te)):=cw (D0 o C I he J U hk hc hs) qW
theorem Qn{te:TE}{f:M (List D)}(w:∀G H Q,Mn f G H Q->te G H Q):∀G H Q,tM (do let xs<- f;pure (.lst xs)) G H Q->te G H Q:= λ G H Q ⟨c,C,S,T,d,I,s,e,k⟩=>by obtain⟨xs,o,J,U⟩:=bind_some e;obtain⟨rfl,rfl⟩:=aU U;exact w _ _ _ ⟨c,C,S,T,xs,o,s,J,λ l vs H' hl s' hz _ _=>k _ _ (s'.unhideL hl hz)⟩
theorem Bq(i:Nat){x:Str}{o C:Pos}(U:X.N.Nodup)(hi:DC X tg iter fi)(hg:∀s H fp pins,DG (blk X N' own scope s H fp pins) lo tg gt)(ht:∀s H fp pins,oY (blk X N' own scope s H fp pins) ifs (qj tt))(he:∀s H fp pins,DE (blk X N' own scope s H fp pins) elt te)
  (I:autoParam (X.N[i]?=some x) aQ0._auto_1)(hx:autoParam (X.env.scope.names.lookup x=some .local) aQ0._auto_1)
  (J:autoParam (swapsWith (.ListComp elt [⟨tg,iter,ifs,0⟩] scope pos) (some (.Name x o)) C.line X.env=pure true) aQ0._auto_1)
  (hS:autoParam (cM N' own X.env.scope scope=true) aQ0._auto_1)(hM:autoParam (cG X.N N' scope=true) aQ0._auto_1)(hk:autoParam (scope.kind= .function) aQ0._auto_1)(hc:autoParam (X.calm=true) aQ0._auto_1)(hs:∀x,foldedSetIterable iter X.env x=pure x:=by intro _;rfl):
  nV X (.Assign [.Name x o] (.ListComp elt [⟨tg,iter,ifs,0⟩] scope pos) C) (uj i (do let xs<- f_ lo own.length fi (gp gt tt te);pure (.lst xs))):=
 i5 (Gg U I hx hi hg ht he J hS hM hk hc hs) (L5 (Qn qW))
end
noncomputable def hz(Z H:Hp):Hp:=Fw (λ a=>∃o,Z a=some o) H
noncomputable def zJ(n:Nat)(o:List D->Option D):Sp:= λ vs H Q _=>vs.length=n/\∃(Z:Hp) (ds:List D) (d:D),Iv Z H/\Rs (hz Z H) ds vs/\o ds=some d/\∀v H',Cc H H'->R (hz Z H') d v->Q v H'
noncomputable def Ly(n:Nat)(o:List D->Option (List D)):Sp:= λ vs H Q _=>vs.length=n/\∃(Z:Hp) (ds:List D) (xs:List D),Iv Z H/\Rs (hz Z H) ds vs/\o ds=some xs/\
 ∀l ws H',Cc H H'->H l=none->H' l=some (.lst ws)->Rs (hz (upd Z l (.lst ws)) H') xs ws->Q (.ref l) H'
noncomputable def Ll(n:Nat)(J:List D->List D->Option (D×List D)):Sp:= λ vs H Q _=>vs.length=n/\∃(Z:Hp) (a:Addr) (ws:List V) (xs:List D) (us:List V) (ds:List D) (d:D) (I:List D),vs= .ref a::us/\Iv Z H/\Z a=none/\H a=some (.lst ws)/\
 Rs (hz (upd Z a (.lst ws)) H) xs ws/\Rs (hz (upd Z a (.lst ws)) H) ds us/\J xs ds=some (d,I)/\
 ∀v C H',(∀b o,b≠a->H b=some o->H' b=some o)->H' a=some (.lst C)->Rs (hz (upd Z a (.lst C)) H') I C->R (hz (upd Z a (.lst C)) H') d v->Q v H'
section
variable {c:Ct} {Y:DS} {S:List D} {G:St} {T:List V} {H:Hp}
open Classical in
noncomputable def Gh(c:Ct)(Y:DS)(G:St)(H:Hp):Hp:= λ a=>if Hd c Y G a then H a else none
theorem ib(s:Sl c Y S G T H)(a:Addr):(∃o,Gh c Y G H a=some o)↔Hd c Y G a:=by
 unfold Gh;by_cases h:Hd c Y G a;. rw[gA h];exact Iff.intro (λ _=>h) λ _=>s.hdSome h
 simp_all
theorem uB(s:Sl c Y S G T H):Iv (Gh c Y G H) H:= λ a o h=>by
 unfold Gh at h;split at h
 .rename_i hd;exact⟨h,λ xs e=>by subst e;exact s.ntHd hd h⟩
 .cases h
end
section
variable {X:Cx} {a b e:Expr} {fs:M (List D)} {pos p:Pos} {es:List Expr} {x:Str} {k:Nat} {f:Addr} {fd:FuncData} {ps:List Str}
theorem Hg{n:Nat}(F:dX X.prog X.w X.K X.mg X.base eZ k f fd ps (zJ n mf))(hr:cb k X.A)(hm:X.mg x=some (.ref f))(hk:PySem.W.keepIn X.K (.ref f)=true)(hb:Binds X.K fd ps [])(ha:DA X (a::es) fs)
  (hg:autoParam (Gl X x) aQ0._auto_1)(I:autoParam ((x==("__debug__":Str))=false) aQ1._auto_1)(he:autoParam (DM X a es) aQ0._auto_1)(J:autoParam (Bf X pos es) aQ0._auto_1):
  DE X (.Call (.Name x p) (a::es) [] pos) (mC (λ ds=>if ds.length=n then mf ds else none) fs):=cw (pg F hr hg hm hk hb .nil zx ha I he J) λ G H Q ⟨c,Y,S,T,d,aa,s,e,k⟩=>by
 obtain⟨ds,C,e1,e⟩:=bind_some e;obtain⟨U,rfl⟩:=aZ e;refine⟨c,Y,S,T,ds,C,s,e1,λ vs H1 l s1=>?_⟩;dsimp only at U|-;split at U;. rename_i hn;rw[ZU];refine⟨l.trans hn,Gh c C G H1,ds,d,uB s1,(s1.st.left l).mono (bO (λ a o _ z=>(ib s1 a).mp z) λ _ _ _ h=>h),U,λ v H' g r=>k v H' ?_⟩;have s2:=s1.grow g;exact s2.stk (.cons (r.mono (bO (λ a o _ z=>(ib s1 a).mpr z) λ _ _ _ h=>h)) (s2.st.right l))
 simp_all
theorem Fy{n:Nat}(F:dX X.prog X.w X.K X.mg X.base eZ k f fd ps (Ly n mf))(hr:cb k X.A)(hm:X.mg x=some (.ref f))(hk:PySem.W.keepIn X.K (.ref f)=true)(J:Binds X.K fd ps [])(ha:DA X (a::es) fs)
  (hg:autoParam (Gl X x) aQ0._auto_1)(U:autoParam ((x==("__debug__":Str))=false) aQ1._auto_1)(he:autoParam (DM X a es) aQ0._auto_1)(aa:autoParam (Bf X pos es) aQ0._auto_1):
  DF X (.Call (.Name x p) (a::es) [] pos) (mC (λ ds=>if ds.length=n then mf ds else none) fs):=cw (pg F hr hg hm hk J .nil zx ha U he aa) λ G H Q ⟨c,Y,S,T,d,ae,s,e,k⟩=>by
 obtain⟨ds,C,e1,e⟩:=bind_some e;obtain⟨e2,rfl⟩:=aZ e;refine⟨c,Y,S,T,ds,C,s,e1,λ vs H1 l s1=>?_⟩;dsimp only at e2|-;split at e2
 .rename_i hn;rw[ZU];refine⟨l.trans hn,Gh c C G H1,ds,d,uB s1,(s1.st.left l).mono (bO (λ a o _ z=>(ib s1 a).mp z) λ _ _ _ h=>h),e2,λ q ws H' g hq ab r=>?_⟩;obtain⟨f1,f2,f3⟩:=s1.fresh hq
  have s2:Sl { c with Z:=upd c.Z q (.lst ws) } C S G T H':=by
   have h0:=(s1.drop l).hide (o:= .lst ws) hq;refine h0.grow λ b o J=>?_;by_cases eb:b=q;. subst eb;rw[bf]at J;cases J;exact ab
   .rw[a_ eb]at J;exact g b o J
  refine k q ws H' r.length (s2.stk ((r.mono (bO (λ a o ha z=>?_) λ _ _ _ h=>h)).append s2.st)) f1 f2 f3;rcases z with⟨w,z⟩|z
  .have z':upd c.Z q (.lst ws) a=some w:=z;by_cases I:a=q;. subst I;exact⟨_,bf⟩
   .rw[a_ I]at z';obtain⟨o',h'⟩:=(ib s1 a).mpr (.inl ⟨w,z'⟩);exact⟨o',by rw[a_ I];exact h'⟩
  .have I:a≠q:= λ I=>s1.hdNew hq (.inr (by rw[<- I];exact z));obtain⟨o',h'⟩:=(ib s1 a).mpr (.inr z);exact⟨o',by rw[a_ I];exact h'⟩
 simp_all
noncomputable def rP(i n:Nat)(I:List D->List D->Option (D×List D))(fs:M (List D)):M D:= λ Y=>match fs Y with
 |none=>none
 |some (ds,o)=>match o[i]? with
  |some (.ow b xs)=>if ds.length+1=n then(match I xs ds with
   |none=>none
   |some (d,C)=>some (d,o.set i (.ow b C)))else none
  |_=>none
theorem xK(i:Nat){mf:List D->List D->Option (D×List D)}{n:Nat}{y:Str}{py:Pos}(F:dX X.prog X.w X.K X.mg X.base eZ k f fd ps (Ll n mf))(hr:cb k X.A)(hm:X.mg x=some (.ref f))(hk:PySem.W.keepIn X.K (.ref f)=true)(hb:Binds X.K fd ps [])(ha:DA X es fs)
  (hN:autoParam (Nm X i y) aQ2._auto_1)
  (hg:autoParam (Gl X x) aQ0._auto_1)(ab:autoParam ((x==("__debug__":Str))=false) aQ1._auto_1)(he:autoParam (starEach (.Name y py::es) X.env=(false,eval (.Name y py) X.env)::starEach es X.env) aQ0._auto_1)(ae:autoParam (Bf X pos es) aQ0._auto_1):
  DE X (.Call (.Name x p) (.Name y py::es) [] pos) (do let _<- cZ i;rP i n mf fs):=cw (pg F hr hg hm hk hb .nil zx (cN (fH hN) ha he) ab he ae) λ G H Q ⟨c,Y,S,T,d,ak,s,e,k⟩=>by obtain⟨af,ao,e0,e⟩:=bind_some e;obtain⟨⟨b0,ag⟩,rfl⟩:=bF e0;obtain⟨a,aq,ea,_⟩:=s.ow i b0 af ag;unfold rP at e;cases e1:fs Y with
 |none=>rw[e1]at e;cases e
 |some q=>
  obtain⟨ds,C⟩:=q;rw[e1]at e;dsimp only at e;split at e
  .rename_i b xs hi;split at e;. cases e2:mf xs ds with
    |none=>rw[e2]at e;cases e
    |some q=>
     obtain⟨d',ah⟩:=q;rw[e2]at e;cases e;refine⟨_,ea,c,Y,S,T,ds,C,s,e1,λ vs H1 l s1=>?_⟩;dsimp only;rw[ZU];obtain⟨a',ws,J,hH,ai,hB,ar,hZ⟩:=s1.ow i b xs hi;rw[ea]at J;cases J;have aj:Hd c C G a:= .inr ⟨i,⟨_,_,hi,rfl⟩,ea⟩;have zi:∀(o:HO)(y:Addr),(∃u,upd (λ z=>if z=a then none else Gh c C G H1 z) a o y=some u)↔Hd c C G y:= λ o y=>by
      by_cases I:y=a;. subst I;rw[bf];exact Iff.intro (λ _=>aj) λ _=>⟨o,rfl⟩
      .rw[a_ I,gL I];exact ib s1 y
     refine⟨by simp[l];omega,λ z=>if z=a then none else Gh c C G H1 z,a,ws,xs,vs,ds,d,ah,rfl,λ b o h=>?_,gA rfl,hH,ai.mono (bO (λ y o _ z=>(zi _ y).mp z) λ _ _ _ h=>h),
      (s1.st.left l).mono (bO (λ y o _ z=>(zi _ y).mp z) λ _ _ _ h=>h),e2,λ v U H' g ga r1 r2=>k v H' ?_⟩
     .dsimp only at h;split at h;. cases h
      .exact uB s1 _ _ h
     .have gr:Cc H1 (upd H' a (.lst ws)):= λ y o hy=>by
       by_cases I:y=a;. subst I;rw[hH]at hy;cases hy;exact bf
       .rw[a_ I];exact g y o I hy
      have s2:=(s1.drop l).grow gr;have m2:∀y o,hz (upd (λ z=>if z=a then none else Gh c C G H1 z) a (.lst U)) H' y=some o->dC c C G (upd H' a (.lst ws)) y=some o :=
       bO (λ y o _ z=>(zi _ y).mpr z) λ y o hy h=>by have:y ≠ a:=λ I=>hy (by rw [I];exact ⟨_,bf⟩);rw [a_ this];exact h
      have s3:=(s2.stk (.cons (r2.mono m2) s2.st)).mut hi ea (r1.mono m2);have eH:upd (upd H' a (.lst ws)) a (.lst U)=H':= by
       rw [Gu];funext y;by_cases I:y=a;. subst I;rw [bf,ga]
       .rw [a_ I]
      rw [eH] at s3;exact s3
   grind
  grind
end
noncomputable def entry(N:List Str)(ds:List D):DS:=ds.map .pu++List.replicate (N.length-ds.length) .un
noncomputable def bL(N:List Str)(body:M Fl)(ds:List D):Option D:=match body (entry N ds)with
 |some (.rt d,_)=>some d
 |some (.nx,_)=>some .non
 |_=>none
noncomputable def gK(N:List Str)(body:M Fl)(ds:List D):Option (List D):=match body (entry N ds)with
 |some (.rf xs,_)=>some xs
 |_=>none
noncomputable def fT(N:List Str)(xs ds:List D):DS:= .ow true xs::(ds.map .pu++List.replicate (N.length-(ds.length+1)) .un)
noncomputable def jr(N:List Str)(body:M Fl)(xs ds:List D):Option (D×List D):=match body (fT N xs ds)with
 |some (.rt d,Y)=>(match(show DS from Y)[0]? with
  |some (Slot.ow true o)=>some (d,o)
  |_=>none)
 |_=>none
theorem gy{ds:List D}{n:Nat}{i:Nat}{x:Slot}(h:(ds.map Slot.pu++List.replicate n .un)[i]?=some x):(∃d,x= .pu d/\ds[i]?=some d)\/x= .un:=by
 by_cases hi:i<ds.length;. rw[QL (by simpa using hi),QS]at h;simp_all
 .rw[ZA (by simpa using hi),VD]at h;simp_all
theorem kX{ds:List D}{n:Nat}: ¬At (ds.map Slot.pu++List.replicate n .un) G i a:= λ⟨⟨_,_,I,w⟩,_⟩=>by rcases gy I with⟨d,rfl,_⟩|rfl <;> cases w
theorem lY{ds:List D}{vs:List V}(U:Iv Z H)(r:Rs (hz Z H) ds vs)(hl:vs.length<=N.length):Sl ⟨Z,[],H⟩ (entry N ds) [] (L2.start N vs) [] H:=by
 have m:∀b o,hz Z H b=some o->dC ⟨Z,[],H⟩ (entry N ds) (L2.start N vs) H b=some o:=bO (λ a o _ z=>z.elim id λ⟨_,z⟩=>(kX z).elim) λ _ _ _ h=>h
 refine⟨?_,λ i d h=>?_,λ i x o h w=>?_,λ i j a h=>(kX h).elim,.nil,λ b o _ h=>h,λ b hb=>(nomatch hb),U⟩
 .have:=r.length;simp[entry,L2.start];omega
 .rcases gy h with⟨d',e,hd⟩|e
  .cases e;obtain⟨v,J,rv⟩:=r.get hd;refine⟨v,?_,rv.mono m⟩;have hi:i<vs.length:=(wV.mp J).1;unfold L2.start;rw[QL (by simpa using hi),QS,J];rfl
  .cases e
 .rcases gy h with⟨d,rfl,_⟩|rfl <;> cases w
section
variable {P:Program} {w:World} {K:PySem.W.Frag} {mg:Str->Option Value} {base:Heap} {x qual:Str} {st:Stmt} {f:Addr} {fd:FuncData} {N ps:List Str} {k:Nat} {body:M Fl}
theorem Qf(F:DD K x qual st f fd)(S:cg N ps (aX st))(U:∀(cdv:Value)(A:Around)(outer:List Env)(s:Shared)(H:Hp)(E:XK),cb k (A.deeper (PyProof.Rows.envOfC qual (aX st) s.heap.objs.size f cdv))->m_ (fU eZ P w K mg base N qual (aX st) f cdv A outer s H E).nox (bQ st) body):
  dX P w K mg base eZ (k+1) f fd ps (zJ ps.length (bL N body)):=by
 refine F.ok S (λ vs H Q E h=>h.1) (λ cdv A outer s H vs Q E hr h=>⟨_,U cdv A outer s H E hr,?_⟩);obtain⟨hl,Z,ds,d,hZ,r,e,q⟩:=h;have aa:ps.length<=N.length:=by have:=ZO List.length S.pre;grind
 have s0:=lY (N:=N) hZ r (by rw[hl];exact aa);have fin:∀{C:DS}{I:St}{v:V}{H':Hp},Sl ⟨Z,[],H⟩ C [d] I [v] H'->Q v H':= λ{C I v H'} J=>
  q v H' (λ b o U=>J.keep b o (by simp) U) (J.st.head.mono (bO (λ a o _ z=> .inl z) λ _ _ _ h=>h));unfold bL at e;split at e;. rename_i d' C eb;cases e;exact⟨_,_,_,_,_,_,s0,eb,λ v I H' J=>fin J⟩
 .rename_i C eb;cases e;exact⟨_,_,_,_,_,_,s0,eb,λ I H' J=>fin (v:= .non) (J.stk (.cons .mkN .nil))⟩
 .cases e
theorem Qo(F:DD K x qual st f fd)(S:cg N ps (aX st))(C:∀(cdv:Value)(A:Around)(outer:List Env)(s:Shared)(H:Hp)(E:XK),cb k (A.deeper (PyProof.Rows.envOfC qual (aX st) s.heap.objs.size f cdv))->m_ (fU eZ P w K mg base N qual (aX st) f cdv A outer s H E).nox (bQ st) body):
  dX P w K mg base eZ (k+1) f fd ps (Ly ps.length (gK N body)):=by
 refine F.ok S (λ vs H Q E h=>h.1) (λ cdv A outer s H vs Q E hr h=>⟨_,C cdv A outer s H E hr,?_⟩);obtain⟨hl,Z,ds,d,hZ,r,e,q⟩:=h;have I:ps.length<=N.length:=by have:=ZO List.length S.pre;grind
 have s0:=lY (N:=N) hZ r (by rw[hl];exact I);unfold gK at e;split at e;. rename_i d' aa eb;cases e;refine⟨_,_,_,_,_,_,s0,eb,λ l J ab H' h1 U h3 h4 h5=>?_⟩;refine q l J H' (λ b o C=>U.keep b o (by simp) C) h5 (U.zz l _ bf) ?_;exact(U.st.left h1).mono (bO (λ a o _ z=> .inl z) λ _ _ _ h=>h)
 .cases e
theorem QE(F:DD K x qual st f fd)(S:cg N ps (aX st))(hb:∀(cdv:Value)(A:Around)(outer:List Env)(s:Shared)(H:Hp)(E:XK),cb k (A.deeper (PyProof.Rows.envOfC qual (aX st) s.heap.objs.size f cdv))->m_ (fU eZ P w K mg base N qual (aX st) f cdv A outer s H E).nox (bQ st) body):
  dX P w K mg base eZ (k+1) f fd ps (Ll ps.length (jr N body)):=by
 refine F.ok S (λ vs H Q E h=>h.1) (λ cdv A outer s H vs Q E hr h=>⟨_,hb cdv A outer s H E hr,?_⟩);obtain⟨hl,Z,a,ws,xs,us,ds,d,au,rfl,hZ,aa,hH,ag,ab,e,q⟩:=h;have ae:ps.length<=N.length:=by have:=ZO List.length S.pre;rw[VB]at this;omega
 have aw:us.length+1<=N.length:=by rw[<- hl]at ae;simpa using ae
 have ld:=ab.length;have ah:∀{i b},At (fT N xs ds) (L2.start N (.ref a::us)) i b->i=0/\b=a:= λ{i b} z=>by
  cases i with
  |zero=>obtain⟨_,z⟩:=z;cases z;exact⟨rfl,rfl⟩
  |succ i=>obtain⟨⟨x,o,h,w⟩,_⟩:=z;exact (kX (G:=List.replicate (i+1) (some (.ref a))) (i:=i) (a:=a) ⟨⟨x,o,by simpa[fT]using h,w⟩,by simp⟩).elim
 have m:∀b o,hz (upd Z a (.lst ws)) H b=some o->dC ⟨Z,[a],H⟩ (fT N xs ds) (L2.start N (.ref a::us)) H b=some o:=bO (λ b o _ z=>by
  rcases z with⟨o',z⟩|⟨_,z⟩
  .exact⟨o',(a_ (show b≠a from λ J=>by have z:Z b=some o':=z;rw[J,aa]at z;cases z)).trans z⟩
  .rw[(ah z).2];exact⟨_,bf⟩) λ _ _ _ h=>h
 have s0:Sl ⟨Z,[a],H⟩ (fT N xs ds) [] (L2.start N (.ref a::us)) [] H:=by
  refine⟨?_,λ i d h=>?_,λ i x o h w=>?_,λ i j b h h'=>(ah h).1.trans (ah h').1.symm,.nil,λ b o _ h=>h,λ b hb=>?_,hZ⟩
  .simp only[fT,L2.start,gE,uL,VQ,QU];omega
  .cases i with
   |zero=>cases h
   |succ i=>
    have h':(ds.map Slot.pu++List.replicate (N.length-(ds.length+1)) .un)[i]?=some (.pu d):=by simpa[fT]using h
    rcases gy h' with⟨d',e,hd⟩|e
    .cases e;obtain⟨v,hv,rv⟩:=ab.get hd;refine⟨v,?_,rv.mono m⟩;have hi:i<us.length:=(wV.mp hv).1;have:(L2.start N (.ref a::us))[i+1]?=some (some v):=by
      unfold L2.start;rw[QL (by simpa using hi),QS,V2,hv];rfl
     exact this
    .cases e
  .cases i with
   |zero=>cases h;cases w;exact⟨a,ws,rfl,hH,ag.mono m,(λ _=>jP.mpr rfl),(λ z=>absurd z (by simp)),aa⟩
   |succ i=>
    have h':(ds.map Slot.pu++List.replicate (N.length-(ds.length+1)) .un)[i]?=some x:=by simpa[fT]using h
    rcases gy h' with⟨d,rfl,_⟩|rfl <;> cases w
  .rw[jP.mp hb];exact⟨_,hH⟩
 unfold jr at e;split at e
 .rename_i d' ai J;split at e
  .rename_i ys hy;cases e;refine⟨_,_,_,_,_,_,s0,J,λ v aj H' s'=>?_⟩;obtain⟨a',af,ea,ak,ao,aq,_,_⟩:=s'.ow 0 true _ hy;have ar:a'=a:=jP.mp (aq rfl);subst ar;have m':∀b o,dC ⟨Z,[a'],H⟩ ai aj H' b=some o->hz (upd Z a' (.lst af)) H' b=some o:=bO (λ b o _ z=>by
    obtain ⟨o',z⟩:=z;by_cases J:b=a';. subst J;exact .inr ⟨0,⟨_,_,hy,rfl⟩,ea⟩
    .rw [a_ J] at z;exact .inl ⟨o',z⟩) λ _ _ _ h=>h;exact q v af H' (λ b o hb h=>s'.keep b o (λ z=>hb (jP.mp z)) h) ak (ao.mono m') (s'.st.head.mono m')
  .cases e
 .cases e
end
section
variable {X:Cx} {a b e:Expr} {fa fb:M D} {fs:M (List D)} {pos p apos cpos:Pos} {es:List Expr} {x:Str}
theorem Sl.own (s:Sl c Y S G T H) {i:Nat} {b:Bool} (hi:Y[i]? = some (.ow b xs)):∃a vs,G[i]? = some (some (.ref a))/\H a=some (.lst vs)/\Rs (dC c Y G H) xs vs:= by
 obtain ⟨a,vs,h1,h2,h3,_⟩:=s.ow i b xs hi
 grind
noncomputable def setOw(i:Nat)(xs:List D):M Unit:= λ o=>match o[i]? with
 |some (.ow b _)=>some ((),o.set i (.ow b xs))
 |_=>none
theorem eI{u:Unit}(h:setOw i xs C=some (u,o)):∃b ys,C[i]?=some (.ow b ys)/\o=C.set i (.ow b xs):=by unfold setOw at h;grind
noncomputable def jt(i:Nat)(fs:M (List D)):M Fl:=do
 let _<- cZ i
 let ds<- fs
 match ds with
 |[d]=>do
  let xs<- cZ i
  let _<- lift (few xs.length)
  setOw i (xs++[d])
  pure .nx
 |_=>lift none
theorem d9(i:Nat)(ha:DA X [a] fs)(hN:autoParam (Nm X i x) aQ2._auto_1)
  (I:((backTo cpos (starEach [a] X.env)).all (λ x=> !x.1)&&(backToKw cpos (keywordEach [] X.env)).all (λ x=>x.1.isSome)
   &&decide (([a]:List Expr).length+([]:List Keyword).length+(if([]:List Keyword).isEmpty then 0 else 1)<30))=true:=by rfl)
  (o:autoParam ((apos.endLine==cpos.line)=true) aQ0._auto_1)(hs:autoParam (i4 X a) aQ0._auto_1)(ab:autoParam (swapsWith (.Call (.Attribute (.Name x p) "append" apos) [a] [] cpos) none pos.line X.env=pure false) aQ0._auto_1):
  nV X (.Expr (.Call (.Attribute (.Name x p) "append" apos) [a] [] cpos) pos) (jt i fs):=
 i5 (qg (B2 WV PySem.F.slot_list_append PySem.F.type_list_append nU (fH hN) ha rfl I o hs rfl) ab) λ E G H ⟨c,Y,S,T,fl,ai,s,e,k⟩=>by
  obtain⟨aj,ak,e0,e⟩:=bind_some e;obtain⟨⟨b0,ae⟩,rfl⟩:=bF e0;obtain⟨q,af,eq,hq,_⟩:=s.own ae;obtain⟨ds,ag,e1,e⟩:=bind_some e;refine⟨_,eq,.inl ⟨rfl,af,.of hq⟩,c,Y,S,T,ds,ag,s,e1,λ vs H1 l s1=>?_⟩;split at e;. obtain⟨xs,ao,e2,e⟩:=bind_some e;obtain⟨⟨b1,C⟩,rfl⟩:=bF e2;obtain⟨_,aq,e3,e⟩:=bind_some e;obtain⟨e4,rfl⟩:=aZ e3;obtain⟨_,ar,e5,e⟩:=bind_some e;obtain⟨rfl,rfl⟩:=aU e;obtain⟨b2,ys,J,rfl⟩:=eI e5;rw[C]at J;cases J;obtain⟨q',ws,U,ah,hx⟩:=s1.own C;rw[eq]at U;cases U;obtain⟨v,rfl,r⟩:=tE (s1.st.left l);refine⟨q,ws,v,rfl,rfl,ah,by rw[hx.length];exact(gP e4).2,k _ _ ?_⟩;exact(s1.drop l).mut C eq (hx.append (.cons r .nil))
  .cases e
noncomputable def F3(i:Nat)(fs:M (List D)):M D:=do
 let _<- cZ i
 let ds<- fs
 match ds with
 |[.int j]=>do
  let xs<- cZ i
  let d<- lift (if 0<=j/\j<100000 then xs[j.toNat]? else none)
  setOw i (xs.eraseIdx j.toNat)
  pure d
 |_=>lift none
theorem Rs.erase:∀{ds:List D}{vs:List V}(i:Nat),Rs H ds vs->Rs H (ds.eraseIdx i) (vs.eraseIdx i)
 |[],vs,i,h=>by rw[h.inv0];simpa using Rs.nil
 |d::ds,vs,0,h=>by obtain⟨v,r,e,_,o⟩:=h.inv;simp_all
 |d::ds,vs,i+1,h=>by obtain⟨v,r,e,C,o⟩:=h.inv;subst e;exact .cons C (Rs.erase i o)
theorem BU(i:Nat)(ha:DA X [a] fs)(hN:autoParam (Nm X i x) aQ2._auto_1)
  (I:((backTo cpos (starEach [a] X.env)).all (λ x=> !x.1)&&(backToKw cpos (keywordEach [] X.env)).all (λ x=>x.1.isSome)
   &&decide (([a]:List Expr).length+([]:List Keyword).length+(if([]:List Keyword).isEmpty then 0 else 1)<30))=true:=by rfl)
  (o:autoParam ((apos.endLine==cpos.line)=true) aQ0._auto_1)(hs:autoParam (i4 X a) aQ0._auto_1):
  DE X (.Call (.Attribute (.Name x p) "pop" apos) [a] [] cpos) (F3 i fs):=
 cw (B2 WV PySem.F.slot_list_pop PySem.F.type_list_pop BB (fH hN) ha rfl I o hs rfl) λ G H Q ⟨c,Y,S,T,fl,ah,s,e,k⟩=>by
  obtain⟨ai,aj,e0,e⟩:=bind_some e;obtain⟨⟨b0,ab⟩,rfl⟩:=bF e0;obtain⟨q,ae,eq,hq,_⟩:=s.own ab;obtain⟨ds,af,e1,e⟩:=bind_some e;refine⟨_,eq,.inl ⟨rfl,ae,.of hq⟩,c,Y,S,T,ds,af,s,e1,λ vs H1 l s1=>?_⟩;split at e
  .rename_i j;obtain⟨xs,ak,e2,e⟩:=bind_some e;obtain⟨⟨b1,C⟩,rfl⟩:=bF e2;obtain⟨d,ao,e3,e⟩:=bind_some e;obtain⟨e4,rfl⟩:=aZ e3;obtain⟨_,aq,e5,e⟩:=bind_some e;obtain⟨rfl,rfl⟩:=aU e;obtain⟨b2,ys,J,rfl⟩:=eI e5;rw[C]at J;cases J;obtain⟨q',ws,U,ag,hx⟩:=s1.own C;rw[eq]at U;cases U;obtain⟨v,rfl,r⟩:=tE (s1.st.left l);cases r.int;split at e4
   .obtain⟨y,hy,ry⟩:=hx.get e4;have ar:j.toNat<ws.length:=(wV.mp hy).1;refine⟨q,ws,j,j.toNat,y,rfl,rfl,ag,by omega,by omega,?_,hy,k _ _ ?_⟩
    .unfold seqIndex?;have h1: ¬j<0:=by omega
     simp only[h1,YO];rw[gA];simp;omega
    .have s2:=s1.drop l;exact(s2.stk (.cons ry s2.st)).mut C eq (hx.erase j.toNat)
   simp_all
  .cases e
noncomputable def vb(i:Nat)(fa:M D)(k:Int):M Fl:=do
 let d<- fa
 let xs<- cZ i
 let j<- lift (vv xs.length k)
 setOw i (xs.set j d)
 pure .nx
theorem Rs.set(r:R H d v):∀{ds:List D}{vs:List V}(i:Nat),Rs H ds vs->Rs H (ds.set i d) (vs.set i v)
 |[],vs,i,h=>by rw[h.inv0];rfl
 |d::ds,vs,0,h=>by obtain⟨v,q,e,_,o⟩:=h.inv;subst e;exact .cons r o
 |d::ds,vs,i+1,h=>by obtain⟨v,q,e,C,o⟩:=h.inv;subst e;exact .cons C (Rs.set r i o)
theorem Aq(i:Nat){k:Int}{j:Nat}{pc o:Pos}(he:DE X e fa)(hN:autoParam (Nm X i x) aQ2._auto_1)
  (ha:∀v,assign (.Subscript (.Name x p) (.Constant (.int k) j pc) o) X.env v=(do
   let J<- holding [v] (eval (.Name x p) X.env)
   let iv<- holding [v,J] (eval (.Constant (.int k) j pc) X.env)
   standAt o
   holding [v,J,iv] (setItem J iv v)
   release [v,J,iv] []):=by intro _;rfl)
  (hs:autoParam (swapsWithSole [.Subscript (.Name x p) (.Constant (.int k) j pc) o] e pos.line X.env=pure false) aQ0._auto_1)(hw:autoParam (swappedStores [.Subscript (.Name x p) (.Constant (.int k) j pc) o] e X.env=pure none) aQ0._auto_1)
  (h1:autoParam ((assignEach [.Subscript (.Name x p) (.Constant (.int k) j pc) o] X.env).map (·.2)=[assign (.Subscript (.Name x p) (.Constant (.int k) j pc) o) X.env]) aQ0._auto_1):
  nV X (.Assign [.Subscript (.Name x p) (.Constant (.int k) j pc) o] e pos) (vb i fa k):=
 i5 (Ao he (JH (fH hN) zh set_list ha) hs hw h1) λ E G H ⟨c,Y,S,T,fl,ab,s,e,kk⟩=>by obtain⟨d,aa,e1,e⟩:=bind_some e;obtain⟨xs,ae,e2,e⟩:=bind_some e;obtain⟨⟨b1,C⟩,rfl⟩:=bF e2;obtain⟨jj,af,e3,e⟩:=bind_some e;obtain⟨e4,rfl⟩:=aZ e3;obtain⟨_,ag,e5,e⟩:=bind_some e;obtain⟨rfl,rfl⟩:=aU e;obtain⟨b2,ys,I,rfl⟩:=eI e5;rw[C]at I;cases I;refine⟨c,Y,S,T,d,aa,s,e1,λ v H1 s1=>?_⟩;obtain⟨q,ws,eq,hq,hx⟩:=s1.own C;refine⟨_,eq,q,ws,k,jj,rfl,rfl,hq,by rw[hx.length];omega,kk _ _ ?_⟩;exact s1.pop.mut C eq (hx.set s1.st.head jj)
noncomputable def GI(i:Nat)(fb:M D):M D:=do
 let _<- cZ i
 let y<- fb
 let xs<- cZ i
 lift (j_ (.lst xs) y)
theorem gG(i:Nat){px:Pos}(hb:DE X b fb)(hN:autoParam (Nm X i x) aQ2._auto_1)
  (hs:autoParam (h_ b) aQ3._auto_1):DE X (.Subscript (.Name x px) b pos) (GI i fb):=cw (IX wM (fH hN) hb hs) λ G H Q ⟨c,Y,S,T,fl,ab,s,e,k⟩=>by obtain⟨ae,af,e0,e⟩:=bind_some e;obtain⟨⟨b0,I⟩,rfl⟩:=bF e0;obtain⟨q,ag,eq,hq,_⟩:=s.own I;obtain⟨y,J,e1,e⟩:=bind_some e;obtain⟨xs,ah,e2,e⟩:=bind_some e;obtain⟨⟨b1,U⟩,rfl⟩:=bF e2;obtain⟨e3,rfl⟩:=aZ e;refine⟨_,eq,c,Y,S,T,y,J,s,e1,λ u H2 s2=>?_⟩;obtain⟨q',ws,o,aa,hx⟩:=s2.own U;rw[eq]at o;cases o;cases y with
 |int j=>have e':jS xs j=some fl:=e3;obtain⟨z,e4,r⟩:=tJ hx e';exact⟨q,ws,j,z,rfl,s2.st.head.int,.of aa,e4,k _ _ (s2.stk (.cons r s2.st.tail))⟩
 |_=>cases e3
noncomputable def vB(i:Nat):M D:=do
 let xs<- cZ i
 pure (.int xs.length)
theorem kf(i:Nat){px:Pos}(hm:X.mg "len"=none)(I:autoParam (Gl X "len") aQ0._auto_1)(J:autoParam (Nm X i x) aQ2._auto_1):
  DE X (.Call (.Name "len" p) [.Name x px] [] pos) (vB i):=cw (eT jh I hm PySem.boot_len (cN (fH J) dF) (by decide) (by decide) rfl rfl) λ G H Q ⟨c,Y,S,T,fl,aa,s,e,k⟩=>by obtain⟨xs,ab,e1,e⟩:=bind_some e;obtain⟨rfl,rfl⟩:=aU e;obtain⟨⟨b1,C⟩,rfl⟩:=bF e1;obtain⟨q,ws,eq,hq,hx⟩:=s.own C;refine⟨_,eq,q,ws,rfl,.inl (.of hq),k _ _ (s.stk (.cons ?_ s.st))⟩;rw[hx.length];rfl
theorem bW(hm:X.mg "len"=none)(o:DA X [a] fs)(C:autoParam (Gl X "len") aQ0._auto_1)(he:autoParam (i4 X a) aQ0._auto_1):DE X (.Call (.Name "len" p) [a] [] pos) (mC cP fs):=
 dU jh Lb C hm PySem.boot_len o (by decide) (by rfl) he rfl
theorem nH:∀{bs:List Bool}{its:List Value}{i:Nat}{v:Value},Vals (bs.map V.bl) its->its[i]?=some v->∃b,bs[i]?=some b/\v= .bool b:= λ{bs its i v} h e=>by
 have o:=h.length;rw[uL]at o;have I:i<bs.length:=by rw[o];exact(wV.mp e).1
 obtain⟨u,C,r⟩:=h.get (i:=i) (x:=V.bl bs[i]) (by grind);rw[e]at C;cases C;exact⟨bs[i],kW I,r⟩
theorem uX(bs:List Bool):((List.range bs.length).all λ i=>(bs[i]?).getD true)=bs.all id:=by
 rw[Z0,ZV,ZV];constructor;. intro h b I;obtain⟨i,C,rfl⟩:=ZF I;simpa[kW C]using h i (wL.mpr C)
 .intro h i C;have o:=wL.mp C;simpa[kW o]using h _ (QT o)
theorem uo(bs:List Bool):((List.range bs.length).any λ i=>(bs[i]?).getD false)=bs.any id:=by
 rw[Z0,VC,VC];constructor;. rintro⟨i,C,e⟩;have o:=wL.mp C;exact⟨_,QT o,by simpa[kW o]using e⟩
 .rintro⟨b,I,e⟩;obtain⟨i,C,rfl⟩:=ZF I;exact⟨i,wL.mpr C,by simpa[kW C]using e⟩
theorem CT(hc:X.calm=true):c6 X (.builtin "all") (λ xs H Q=>∃(p:Addr) (bs:List Bool),xs=[.ref p]/\iE X.K H p (bs.map V.bl)/\Q (.bl (bs.all id)) H):=by
 intro pins s G H xs us Q I r h;obtain⟨p,bs,rfl,hq,q⟩:=h;obtain⟨u,rfl,rx⟩:=r.one;cases rx;obtain⟨its,J,pl,hz⟩:=I.list hq;have C:p<s.heap.objs.size:=by obtain⟨_,e,_⟩:=pl.isList;exact wR e
 refine call_all_walk (VY pl.isList ?_);refine⟨s.heap.objs.size,[s.heap.objs.size,p],[s.heap.objs.size],its.toArray.size,_,_,λ i=>(bs[i]?).getD true,rfl,Walks.list (A:=X.A.in1) (I.ok.hd hc) _ p (fR C) its.toArray,
  ⟨⟨_,wF _ rfl,rfl,rfl⟩,pl.isList.push _⟩,λ i v s' Q' E' hP U=>?_,λ h' tk hk=>?_⟩;. obtain⟨b,e,rfl⟩:=nH J (by simpa using hP);simp[e]at U;exact V1 U
 .have e:((List.range its.toArray.size).all λ i=>(bs[i]?).getD true)=bs.all id:=by rw[xS,<- J.length,uL];exact uX bs
  rw[e];exact⟨.bl _,H,I.kept λ b o eb=>hk b o (λ hm=>absurd (wR eb) (by simp_all)) (zS _ eb),rfl,q⟩
theorem zL(hc:X.calm=true):c6 X (.builtin "any") (λ xs H Q=>∃(p:Addr) (bs:List Bool),xs=[.ref p]/\iE X.K H p (bs.map V.bl)/\Q (.bl (bs.any id)) H):=by
 intro pins s G H xs us Q I r h;obtain⟨p,bs,rfl,hq,q⟩:=h;obtain⟨u,rfl,rx⟩:=r.one;cases rx;obtain⟨its,J,pl,hz⟩:=I.list hq;have C:p<s.heap.objs.size:=by obtain⟨_,e,_⟩:=pl.isList;exact wR e
 refine call_any_walk (VY pl.isList ?_);refine⟨s.heap.objs.size,[s.heap.objs.size,p],[s.heap.objs.size],its.toArray.size,_,_,λ i=>(bs[i]?).getD false,rfl,Walks.list (A:=X.A.in1) (I.ok.hd hc) _ p (fR C) its.toArray,
  ⟨⟨_,wF _ rfl,rfl,rfl⟩,pl.isList.push _⟩,λ i v s' Q' E' hP U=>?_,λ h' tk hk=>?_⟩;. obtain⟨b,e,rfl⟩:=nH J (by simpa using hP);simp[e]at U;exact V1 U
 .have e:((List.range its.toArray.size).any λ i=>(bs[i]?).getD false)=bs.any id:=by rw[xS,<- J.length,uL];exact uo bs
  rw[e];exact⟨.bl _,H,I.kept λ b o eb=>hk b o (λ hm=>absurd (wR eb) (by simp_all)) (zS _ eb),rfl,q⟩
noncomputable def boolsOf:List D->Option (List Bool)
 |[]=>some []
 | .bl b::r=>(boolsOf r).map (b:: .)
 |_=>none
theorem rq:∀{ds:List D}{vs:List V}{bs:List Bool},Rs H ds vs->boolsOf ds=some bs->vs=bs.map V.bl
 |[],vs,bs,h,e=>by cases e;exact h.inv0
 |d::ds,vs,bs,h,e=>by obtain⟨v,r,ev,o,C⟩:=h.inv;cases d with
  |bl b=>unfold boolsOf at e;cases q:boolsOf ds with
   |none=>simp_all
   |some I=>rw[q]at e;cases e;rw[ev,o.bl,rq C q];rfl
  |_=>cases e
noncomputable def p4:List D->Option D
 |[.lst ds]=>(boolsOf ds).map λ bs=> .bl (bs.all id)
 |_=>none
noncomputable def AO:List D->Option D
 |[.lst ds]=>(boolsOf ds).map λ bs=> .bl (bs.any id)
 |_=>none
theorem rY(g:List Bool->Bool)(f:List D->Option D)(hf:∀ds d,f ds=some d->∃es bs,ds=[.lst es]/\boolsOf es=some bs/\d= .bl (g bs)):
  iB (λ xs H Q=>∃(p:Addr) (bs:List Bool),xs=[.ref p]/\iE K H p (bs.map V.bl)/\Q (.bl (g bs)) H) f:= λ c U S G T H ds vs d Q l s e k=>by obtain⟨es,bs,rfl,o,rfl⟩:=hf _ _ e;have h:=s.st.left l;have C:=s.st.right l;obtain⟨v,rfl,r⟩:=tE h;obtain⟨p,ws,rfl,I,J⟩:=r.lst;have:=rq J o;subst this;exact⟨p,bs,rfl,.inl (Rd.mono bq I),k _ _ (s.stk (.cons .mkB C))⟩
theorem yP(ds:List D)(d:D)(h:p4 ds=some d):∃es bs,ds=[.lst es]/\boolsOf es=some bs/\d= .bl (bs.all id):=by
 unfold p4 at h;split at h;. rename_i es;cases q:boolsOf es with
  |none=>rw[q]at h;cases h
  |some bs=>rw[q]at h;cases h;exact⟨es,bs,rfl,q,rfl⟩
 grind
theorem yJ(ds:List D)(d:D)(h:AO ds=some d):∃es bs,ds=[.lst es]/\boolsOf es=some bs/\d= .bl (bs.any id):=by
 unfold AO at h;split at h;. rename_i es;cases q:boolsOf es with
  |none=>rw[q]at h;cases h
  |some bs=>rw[q]at h;cases h;exact⟨es,bs,rfl,q,rfl⟩
 grind
theorem kL(hm:X.mg "all"=none)(o:DA X [a] fs)(C:autoParam (Gl X "all") aQ0._auto_1)(I:autoParam (X.calm=true) aQ0._auto_1)(he:autoParam (i4 X a) aQ0._auto_1):DE X (.Call (.Name "all" p) [a] [] pos) (mC p4 fs):=
 dU (CT I) (rY _ p4 yP) C hm PyProof.Rows.boot_all o (by decide) (by rfl) he rfl
theorem KR(hm:X.mg "any"=none)(o:DA X [a] fs)(C:autoParam (Gl X "any") aQ0._auto_1)(I:autoParam (X.calm=true) aQ0._auto_1)(he:autoParam (i4 X a) aQ0._auto_1):DE X (.Call (.Name "any" p) [a] [] pos) (mC AO fs):=
 dU (zL I) (rY _ AO yJ) C hm PyProof.Rows.boot_any o (by decide) (by rfl) he rfl
theorem yA(I:c6 X (.type T) r)(hd:iB r f)(J:Gl X x)(hm:X.mg x=none)(U:bootBuiltins x=some (.type T))(ha:DA X (a::es) fs)(hn:autoParam (x≠"__name__") aQ1._auto_1)(o:autoParam ((x==("__debug__":Str))=false) aQ1._auto_1)
  (he:autoParam (DM X a es) aQ0._auto_1)(C:autoParam (Bf X pos es) aQ0._auto_1):DE X (.Call (.Name x p) (a::es) [] pos) (mC f fs):=
 cw (d_ I J hm U ha hn o he C) (Hq hd)
noncomputable def lJ:D->Option (List D)
 | .tup ds=>some ds
 | .lst ds=>some ds
 |_=>none
noncomputable def dE:List D->Option D
 |[x]=>(lJ x).map .tup
 |_=>none
theorem Aj:iB (λ xs H Q=>∃p ys,xs=[.ref p]/\((iE K H p ys/\∀l,H l=none->Q (.ref l) (upd H l (.tup ys)))\/(fQ K H p ys/\Q (.ref p) H))) dE:= λ c U S G T H ds vs d Q l s e k=>by
 unfold dE at e;split at e;. rename_i x;have h:=s.st.left l;have I:=s.st.right l;obtain⟨v,rfl,r⟩:=tE h;cases x with
  |tup es=>cases e;obtain⟨p,ws,rfl,o,C⟩:=r.tup;exact⟨p,ws,rfl,.inr ⟨.of (bq _ _ o),k _ _ (s.stk (.cons (.mkT o C) I))⟩⟩
  |lst es=>cases e;obtain⟨p,ws,rfl,o,C⟩:=r.lst;exact⟨p,ws,rfl,.inl ⟨.inl (Rd.mono bq o),λ q J=>k _ _ ((s.stk (C.append I)).newTup C.length J)⟩⟩
  |_=>cases e
 grind
theorem bH(hm:X.mg "tuple"=none)(o:DA X [a] fs)(C:autoParam (Gl X "tuple") aQ0._auto_1)(he:autoParam (i4 X a) aQ0._auto_1):DE X (.Call (.Name "tuple" p) [a] [] pos) (mC dE fs):=
 yA iz Aj C hm (by rfl) o (by decide) (by rfl) he rfl
noncomputable def flat:D->Option V
 | .non=>some .non
 | .bl b=>some (.bl b)
 | .int i=>some (.int i)
 | .str x=>some (.str x)
 |_=>none
theorem dP(r:R H d v)(e:flat d=some u):v=u/\gc u=true:=by cases d with
 |non=>cases e;exact⟨r.non,rfl⟩
 |bl b=>cases e;exact⟨r.bl,rfl⟩
 |int b=>cases e;exact⟨r.int,rfl⟩
 |str b=>cases e;exact⟨r.str,rfl⟩
 |_=>cases e
noncomputable def me:List D->Option (List V)
 |[]=>some []
 |d::ds=>match flat d,me ds with
  |some v,some vs=>some (v::vs)
  |_,_=>none
theorem kR:∀{ds:List D}{vs us:List V},Rs H ds vs->me ds=some us->vs=us/\us.all gc=true
 |[],vs,us,h,e=>by cases e;exact⟨h.inv0,rfl⟩
 |d::ds,vs,us,h,e=>by
  obtain⟨v,r,ev,o,C⟩:=h.inv;unfold me at e;split at e;. rename_i w ws I J;cases e;obtain⟨a1,a2⟩:=dP o I;obtain⟨b1,U⟩:=kR C J;refine⟨by rw[ev,a1,b1],?_⟩;rw[WG,a2,U];rfl
  grind
noncomputable def wU(neg:Bool)(x y:D):Option D:=match flat x,lJ y with
 |some v,some ds=>(me ds).map λ vs=> .bl (if neg then !Lu v vs else Lu v vs)
 |_,_=>none
theorem tS:nc (Pb K neg) (wU neg):= λ c Y S G T H x y v u d Q s e k=>by
 unfold wU at e;split at e;. rename_i w ds U C;cases o:me ds with
  |none=>rw[o]at e;cases e
  |some vs=>rw[o]at e;cases e;obtain⟨rfl,f1⟩:=dP s.st.tail.head U;cases y with
   |tup es=>cases C;obtain⟨p,ws,rfl,I,J⟩:=s.st.head.tup;obtain⟨rfl,f2⟩:=kR J o;exact⟨p,ws,rfl,.inr (.of (bq _ _ I)),f1,f2,k _ _ (s.stk (.cons .mkB s.st.tail.tail))⟩
   |lst es=>cases C;obtain⟨p,ws,rfl,I,J⟩:=s.st.head.lst;obtain⟨rfl,f2⟩:=kR J o;exact⟨p,ws,rfl,.inl (.inl (Rd.mono bq I)),f1,f2,k _ _ (s.stk (.cons .mkB s.st.tail.tail))⟩
   |_=>cases C
 grind
theorem vD(o:DE X a fa)(C:DE X b fb)(hm:autoParam (behindInMarks .In b=false) aQ0._auto_1):DE X (.Compare a [.In] [b] pos) (m2 (wU false) fa fb):=iL ox tS o C hm
theorem tj(o:DE X a fa)(C:DE X b fb)(hm:autoParam (behindInMarks .In b=false) aQ0._auto_1):DT X (.Compare a [.In] [b] pos) (m2 (wU false) fa fb >>= qk):=fW ox tS o C hm
theorem CV(o:DE X a fa)(C:DE X b fb)(hm:autoParam (behindInMarks .NotIn b=false) aQ0._auto_1):DT X (.Compare a [.NotIn] [b] pos) (m2 (wU true) fa fb >>= qk):=fW p3 tS o C hm
noncomputable def eY(neg:Bool)(x y:D):Option D:=match flat x,flat y with
 |some v,some u=>if mN v u=true then some (.bl (if neg then !decide (v=u)else decide (v=u)))else none
 |_,_=>none
theorem pA:nc OZ (eY false):= λ c I S G T H x y v u d Q s e k=>by
 unfold eY at e;split at e
 .rename_i w z o C;split at e
  .rename_i hs;cases e;obtain⟨rfl,_⟩:=dP s.st.tail.head o;obtain⟨rfl,_⟩:=dP s.st.head C;exact⟨hs,k _ _ (s.stk (.cons .mkB s.st.tail.tail))⟩
  .cases e
 grind
theorem vJ:nc O9 (eY true):= λ c I S G T H x y v u d Q s e k=>by
 unfold eY at e;split at e
 .rename_i w z o C;split at e
  .rename_i hs;cases e;obtain⟨rfl,_⟩:=dP s.st.tail.head o;obtain⟨rfl,_⟩:=dP s.st.head C;exact⟨hs,k _ _ (s.stk (.cons .mkB s.st.tail.tail))⟩
  .cases e
 grind
theorem ur(o:DE X a fa)(C:DE X b fb):DE X (.Compare a [.Eq] [b] pos) (m2 (eY false) fa fb):=iL Dw pA o C
theorem fZ(o:DE X a fa)(C:DE X b fb):DT X (.Compare a [.Eq] [b] pos) (m2 (eY false) fa fb >>= qk):=fW Dw pA o C
theorem zX(o:DE X a fa)(C:DE X b fb):DT X (.Compare a [.NotEq] [b] pos) (m2 (eY true) fa fb >>= qk):=fW Ja vJ o C
end
section
variable {X:Cx} {a b e:Expr} {fa fb:M D} {fs:M (List D)} {pos p:Pos} {rest:List Expr} {x:Str}
noncomputable def rL:List D->Option D
 |[.int i,.int j]=>some (.int (if j<i then j else i))
 |_=>none
noncomputable def rA:List D->Option D
 |[.int i,.int j]=>some (.int (if j>i then j else i))
 |_=>none
theorem Hz(g:Int->Int->Int)(f:List D->Option D)(hf:∀ds d,f ds=some d->∃i j,ds=[.int i,.int j]/\d= .int (g i j)):iB (λ xs H Q=>∃i j,xs=[.int i,.int j]/\Q (.int (g i j)) H) f:= λ c I S G T H ds vs d Q l s e k=>by obtain⟨i,j,rfl,rfl⟩:=hf _ _ e;obtain⟨v,u,rfl,o,C⟩:=OE (s.st.left l);cases o.int;cases C.int;exact⟨i,j,rfl,k _ _ (s.stk (.cons .mkI (s.st.right l)))⟩
theorem yr(ds:List D)(d:D)(h:rL ds=some d):∃i j,ds=[.int i,.int j]/\d= .int (if j<i then j else i):=by unfold rL at h;grind
theorem yW(ds:List D)(d:D)(h:rA ds=some d):∃i j,ds=[.int i,.int j]/\d= .int (if j>i then j else i):=by unfold rA at h;grind
theorem pK (hm:X.mg "min" = none) (ha:DA X [a,b] fs) (hg:autoParam (Gl X "min") aQ0._auto_1) (hc:autoParam (X.calm=true) aQ0._auto_1) (he:autoParam (DM X a [b]) aQ0._auto_1) (hp:autoParam (Bf X pos [b]) aQ0._auto_1):DE X (.Call (.Name "min" p) [a,b] [] pos) (mC rL fs) :=
 dU (xJ hc) (Hz _ rL yr) hg hm (by rfl) ha (by decide) (by rfl) he hp
theorem uE (hm:X.mg "max" = none) (ha:DA X [a,b] fs) (hg:autoParam (Gl X "max") aQ0._auto_1) (hc:autoParam (X.calm=true) aQ0._auto_1) (he:autoParam (DM X a [b]) aQ0._auto_1) (hp:autoParam (Bf X pos [b]) aQ0._auto_1):DE X (.Call (.Name "max" p) [a,b] [] pos) (mC rA fs) :=
 dU (yq hc) (Hz _ rA yW) hg hm (by rfl) ha (by decide) (by rfl) he hp
noncomputable def Pe(fa fb:M D):M D:=do
 let v<- fa
 let t<- lift (iq v)
 if t=true then pure v else fb
theorem K8(ha:DE X a fa)(hb:DE X (.BoolOp .Or (b::rest) pos) fb):DE X (.BoolOp .Or (a::b::rest) pos) (Pe fa fb):= λ pins s G H Q I ⟨c,Y,S,T,d,J,sl,e,k⟩=>by obtain⟨v,o,e1,e⟩:=bind_some e;obtain⟨t,aa,e2,e⟩:=bind_some e;obtain⟨e3,rfl⟩:=aZ e2;refine PyProof.Rows.BoolOp_or (b9 (ha pins s G H (λ y H1=>Sl c o (v::S) G (y::T) H1) I ⟨c,Y,S,T,v,o,sl,e1,λ y H1 s1=>s1⟩) λ u s1 ⟨y,H1,I1,r1,U⟩=>?_);refine b9 (CP pins s1 G H1 y u (λ k' C=>k'=t/\C=H1) I1 r1 ⟨t,xq bq U.st.head e3,rfl,rfl⟩) λ k' s2 ⟨C,I2,ek,eH⟩=>?_;subst ek eH;cases k' with
 |true=>obtain⟨rfl,rfl⟩:=aU e;exact⟨y,C,I2,r1,k _ _ U⟩
 |false=>exact hb pins s2 G C Q I2 ⟨c,o,S,T,d,J,U.pop,e,k⟩
noncomputable def Ie:D->D->Option D
 | .tup (x::xs),.tup ys=>if xs.length+1+ys.length<=100000 then some (.tup ((x::xs)++ys))else none
 |_,_=>none
theorem B0:nc (zW K) Ie:= λ c Y S G T H x y v u d Q s e k=>by
 unfold Ie at e;split at e
 .rename_i x xs ys;split at e
  .cases e;obtain⟨p,ws,rfl,J,C⟩:=s.st.tail.head.tup;obtain⟨q,zs,rfl,U,o⟩:=s.st.head.tup;have hl:100000<sizeLine:=by decide
   have I:=C.length;have l2:=o.length;rw[QU]at I;refine⟨p,q,ws,zs,rfl,rfl,.of (bq _ _ J),.of (bq _ _ U),λ z=>(by rw[z]at I;simp at I),by omega,λ z=>?_,λ z r hr=>?_⟩;. rw[z]at o;cases ys with
    |nil=>rw[ZU]at k;exact k _ _ (s.stk (.cons s.st.tail.head s.st.tail.tail))
    |cons y ys=>obtain⟨_,_,e,_⟩:=o.inv;cases e
   .have s1:=s.stk ((C.append o).append s.st.tail.tail);exact k _ _ (s1.newTup (by rw[gE,gE,o.length,C.length]) hr)
  grind
 grind
noncomputable def fu:Nat->D->D->Option Bool
 |0,_,_=>none
 |n+1,.tup xs,.tup ys=>(go n xs ys).map λ b=>b&&xs.length==ys.length
 |n+1,.lst xs,.lst ys=>if xs.length=ys.length then go n xs ys else some false
 |_+1,x,y=>match flat x,flat y with
  |some v,some u=>some (yZ v u)
  |_,_=>none
where
 go(n:Nat):List D->List D->Option Bool
  |x::xs,y::ys=>match fu n x y,go n xs ys with
   |some a,some b=>some (a&&b)
   |_,_=>none
  |_,_=>some true
theorem vM:∀{a b:List (Int×Int)},(a.map λ p=>((.inl p.1,.int p.2):Key×V))=b.map (λ p=>(.inl p.1,.int p.2))->a=b
 |[],[],_=>rfl
 |[],_::_,h=>by cases h
 |_::_,[],h=>by cases h
 |(x,y)::a,(z,w)::b,h=>by simp at h;rw[vM h.2,h.1.1,h.1.2]
theorem wb:∀{a b:List ((Int×Int)×Int)},(a.map λ p=>(([.inl p.1.1,.inl p.1.2],.int p.2):List Key×V))=b.map (λ p=>([.inl p.1.1,.inl p.1.2],.int p.2))->a=b
 |[],[],_=>rfl
 |[],_::_,h=>by cases h
 |_::_,[],h=>by cases h
 |((x,o),y)::a,((z,C),w)::b,h=>by simp at h;rw[wb h.2,h.1.1.1,h.1.1.2,h.1.2]
mutual
theorem R.inj{H:Hp}(x y:D)(v:V)(h:R H x v)(g:R H y v):x=y:=by
 cases x <;> cases y <;> unfold R at h g
 case tup.tup xs ys=>obtain⟨a,vs,rfl,h1,h2⟩:=h;obtain⟨_,_,e,g1,g2⟩:=g;cases e;rw[h1]at g1;cases g1;rw[Rs.inj xs ys vs h2 g2]
 case lst.lst xs ys=>
  obtain⟨a,vs,rfl,h1,h2⟩:=h;obtain⟨_,ws,e,g1,g2⟩:=g;cases e;obtain rfl:ws=vs:=by grind[Rd]
  rw[Rs.inj xs ys _ h2 g2]
 case dic.dic=>obtain⟨a,rfl,h1⟩:=h;obtain⟨_,e,g1⟩:=g;cases e;rw[h1]at g1;rw[vM (HO.dK.inj (Q9 g1))]
 case dip.dip=>obtain⟨a,rfl,h1⟩:=h;obtain⟨_,e,g1⟩:=g;cases e;rw[h1]at g1;rw[wb (HO.dT.inj (Q9 g1))]
 all_goals grind[Rd,wK]
theorem Rs.inj{H:Hp}(xs ys:List D)(vs:List V)(h:Rs H xs vs)(g:Rs H ys vs):xs=ys:=by
 cases xs <;> cases ys <;> unfold Rs at h g
 case cons.cons x xs y ys=>obtain⟨v,r,rfl,h1,h2⟩:=h;obtain⟨_,_,e,g1,g2⟩:=g;cases e;rw[R.inj x y v h1 g1,Rs.inj xs ys r h2 g2]
 all_goals grind
end
theorem kY:∀{xs ys:List D}{b:Bool},fu.go n xs ys=some b->∃e:Nat->Bool,(∀(j:Nat) x y,xs[j]?=some x->ys[j]?=some y->fu n x y=some (e j))/\b=(List.range (min xs.length ys.length)).all e
 |[],ys,b,h=>by cases h;exact⟨λ _=>true,λ j x y o=>by simp at o,by simp⟩
 |x::xs,[],b,h=>by cases h;exact⟨λ _=>true,λ j x y o C=>by simp at C,by simp⟩
 |x::xs,y::ys,b,h=>by
  unfold fu.go at h;split at h
  .rename_i b1 U e1 I;cases h;obtain⟨e,he,J⟩:=kY I;refine⟨λ j=>match j with|0=>b1|j+1=>e j,λ j x' y' o C=>?_,?_⟩;. grind
   .rw[QU,QU,Nat.add_min_add_right,W5,WG,List.all_map,J];rfl
  grind
theorem vg{x:D}{v:V}(e:flat x=some v):gc v=true:=by cases x <;> first|(cases e;rfl)|cases e
theorem Du(h:gc v=true):yZ v v=true:=by cases v with
 |non=>rfl
 |bl b=>cases b <;> rfl
 |int i=>exact beq_self_eq_true i
 |str x=>exact beq_self_eq_true x
 |_=>cases h
theorem oy{x y:D}{b:Bool}(h:fu (n+1) x y=some b):(∃p q,flat x=some p/\flat y=some q/\b=yZ p q)\/(∃xs ys e,(∀(j:Nat) x y,xs[j]?=some x->ys[j]?=some y->fu n x y=some (e j))/\(x=.tup xs/\y=.tup ys/\b=((List.range (min xs.length ys.length)).all e&&xs.length==ys.length)\/x=.lst xs/\y=.lst ys/\xs.length=ys.length/\b=(List.range (min xs.length ys.length)).all e))\/∃xs ys,x=.lst xs/\y=.lst ys/\xs.length≠ys.length/\b=false:=by
 unfold fu at h;split at h
 .cases h
 .rename_i xs ys heq;cases heq;cases q:fu.go n xs ys with
  |none=>rw[q]at h;cases h
  |some c=>rw[q]at h;cases h;obtain⟨e,he,rfl⟩:=kY q;exact .inr (.inl ⟨xs,ys,e,he,.inl ⟨rfl,rfl,rfl⟩⟩)
 .rename_i xs ys heq;cases heq;split at h
  .obtain⟨e,he,rfl⟩:=kY h;exact .inr (.inl ⟨xs,ys,e,he,.inr ⟨rfl,rfl,by assumption,rfl⟩⟩)
  .cases h;exact .inr (.inr ⟨xs,ys,rfl,rfl,by assumption,rfl⟩)
 .rename_i heq _ _;cases heq;split at h
  .cases h;exact .inl ⟨_,_,by assumption,by assumption,rfl⟩
  .cases h
theorem s_:∀(n:Nat)(x:D)(b:Bool),fu n x x=some b->b=true
 |0,x,b,h=>by simp[fu]at h
 |n+1,x,b,h=>by
  rcases oy h with⟨p,q,h1,h2,rfl⟩|⟨xs,ys,e,he,h⟩|⟨xs,ys,rfl,h2,h3,_⟩
  .rw[h1]at h2;cases h2;exact Du (vg h1)
  .have g:∀zs:List D,(∀(j:Nat) x y,zs[j]?=some x->zs[j]?=some y->fu n x y=some (e j))->(List.range (min zs.length zs.length)).all e=true:=λ zs he=>by
    rw[Nat.min_self,ZV];intro j J;have o:=wL.mp J;exact s_ n _ _ (he j _ _ (kW o) (kW o))
   rcases h with⟨rfl,h2,rfl⟩|⟨rfl,h2,h3,rfl⟩ <;> cases h2 <;> rw[g xs he];simp
  .cases h2;exact absurd rfl h3
open SeqAt in
theorem u0{pins:List (Addr×Obj)}{G:St}{H Hh:Hp}{s:Shared}(I:Inv X pins G H s)(m:∀b o,Hh b=some o->H b=some o):∀(n:Nat)(A:Around),A.units+n<cLine->∀(x y:D)(v w:V)(u z:Value)(b:Bool),R Hh x v->R Hh y w->RelV v u->RelV w z->fu n x y=some b->
  EqAt A s u z b/\((∃xs,x=.tup xs\/x=.lst xs)->RcAt A s u z b)
 |0,A,_,x,y,v,w,u,z,b,_,_,_,_,h=>by simp[fu]at h
 |n+1,A,hu,x,y,v,w,u,z,b,rx,ry,ru,rz,h=>by
  have ih:=u0 I m n A.in1 (by show A.units+1+n<_;omega);have hu':A.units<cLine:=by omega
  have items:∀{xs ys:List D}{vs ws:List V}{is js:List Value}{e:Nat->Bool},Rs Hh xs vs->Rs Hh ys ws->Vals vs is->Vals ws js->(∀(j:Nat) x y,xs[j]?=some x->ys[j]?=some y->fu n x y=some (e j))->
    is.toArray.size=xs.length/\js.toArray.size=ys.length/\∀j (h1:j<is.toArray.size) (h2:j<js.toArray.size),EqAt A.in1 s is.toArray[j] js.toArray[j] (e j):=λ{xs ys vs ws is js e} r1 r2 v1 v2 he=>by
   refine⟨by rw[xS,<-v1.length,r1.length],by rw[xS,<-v2.length,r2.length],λ j h1 h2=>?_⟩
   obtain⟨v',e1,q1⟩:=r1.get (kW (by rw[<-r1.length,v1.length];simpa using h1));obtain⟨w',e2,q2⟩:=r2.get (kW (by rw[<-r2.length,v2.length];simpa using h2))
   obtain⟨u',e3,q3⟩:=v1.get e1;obtain⟨z',e4,q4⟩:=v2.get e2
   have:=(ih _ _ v' w' u' z' (e j) q1 q2 q3 q4 (he j _ _ (kW _) (kW _))).1
   rwa[List.getElem_toArray,List.getElem_toArray,(wV.mp e3).2,(wV.mp e4).2]
  have refs:∀{l k:Addr},v=.ref l->w=.ref k->RcAt A s u z b->EqAt A s u z b/\((∃xs,x=.tup xs\/x=.lst xs)->RcAt A s u z b):=λ{l k} ev ew rc=>⟨by
   subst ev ew;cases ru;cases rz;by_cases e:l=k
   .subst e;cases R.inj x y _ rx ry;rw[s_ _ _ _ h];exact EqAt.same _
   .exact EqAt.of_refs e rc,λ _=>rc⟩
  rcases oy h with⟨p,q,h1,h2,rfl⟩|⟨xs,ys,e,he,⟨rfl,rfl,rfl⟩|⟨rfl,rfl,l,rfl⟩⟩|⟨xs,ys,rfl,rfl,l,rfl⟩
  .obtain⟨rfl,f1⟩:=dP rx h1;obtain⟨rfl,f2⟩:=dP ry h2;exact⟨zf ru rz f1 f2,λ⟨_,z⟩=>by rcases z with rfl|rfl <;> cases h1⟩
  .obtain⟨l,vs,rfl,g1,g2⟩:=rx.tup;obtain⟨k,ws,rfl,k1,k2⟩:=ry.tup;refine refs rfl rfl ?_;cases ru;cases rz
   obtain⟨is,v1,p1,_⟩:=I.tuple (.of (m _ _ g1));obtain⟨js,v2,p2,_⟩:=I.tuple (.of (m _ _ k1));obtain⟨s1,s2,it⟩:=items g2 k2 v1 v2 he
   have:=RcAt.tuples p1 p2 hu' it;rwa[s1,s2]at this
  all_goals
   obtain⟨a,vs,rfl,g1,g2⟩:=rx.lst;obtain⟨k,ws,rfl,k1,k2⟩:=ry.lst;refine refs rfl rfl ?_;cases ru;cases rz
   obtain⟨is,v1,p1,_⟩:=I.list (.inl (Rd.mono m g1));obtain⟨js,v2,p2,_⟩:=I.list (.inl (Rd.mono m k1))
  .obtain⟨s1,s2,it⟩:=items g2 k2 v1 v2 he;have:=RcAt.lists p1.isList p2.isList (by rw[s1,s2,l]) hu' it;rw[s1]at this;rw[<-l,Nat.min_self];exact this
  .exact RcAt.lists_lengths p1.isList p2.isList (by rw[xS,xS,<-v1.length,<-v2.length,g2.length,k2.length];simpa using l) hu'
theorem g6(o:cb k A):A.units+20<cLine:=by have:=o.un;omega
noncomputable def j8:D->D->Bool
 | .tup _,.tup _=>true
 | .lst _,.lst _=>true
 |_,_=>false
noncomputable def km(neg:Bool)(x y:D):Option D:=if j8 x y=true then(fu 9 x y).map λ b=> .bl (if neg then !b else b)else eY neg x y
noncomputable def NV:R2:= λ v u H Q=>OZ v u H Q\/ ∃(C:Hp) (x y:D) (b:Bool),(∀b o,C b=some o->H b=some o)/\R C x v/\R C y u/\j8 x y=true/\fu 9 x y=some b/\Q (.bl b) H
theorem Cj(hu:X.A.units+20<cLine):ij X (compareOp .Eq) NV:=by
 intro pins s G H v w u z Q I o C h;rcases h with h|⟨Hh,x,y,b,m,J,U,hs,e,q⟩
 .exact Dw pins s G H v w u z Q I o C h
 .have:=(u0 I m 9 X.A (by omega) x y v w u z b J U o C e).2 (by cases x <;> first|grind|exact⟨_,.inr rfl⟩|(simp[j8]at hs));exact this _ _ _ _ ⟨.bl b,H,I,rfl,q⟩
theorem w_:nc NV (km false):= λ c o S G T H x y v u d Q s e k=>by
 unfold km at e;split at e;. rename_i hs;cases q:fu 9 x y with
  |none=>rw[q]at e;cases e
  |some b=>rw[q]at e;cases e;exact .inr ⟨_,x,y,b,bq,s.st.tail.head,s.st.head,hs,q,k _ _ (s.stk (.cons .mkB s.st.tail.tail))⟩
 .exact .inl (pA c o S G T H x y v u d Q s e k)
theorem Iy(o:cb k X.A)(C:DE X a fa)(I:DE X b fb):DE X (.Compare a [.Eq] [b] pos) (m2 (km false) fa fb):=iL (Cj (g6 o)) w_ C I
theorem nv(o:cb k X.A)(C:DE X a fa)(I:DE X b fb):DT X (.Compare a [.Eq] [b] pos) (m2 (km false) fa fb >>= qk):=fW (Cj (g6 o)) w_ C I
end
section
variable {X:Cx} {a b e:Expr} {fa fb:M D} {fs:M (List D)} {pos p:Pos} {x:Str}
open SeqAt in
theorem K6{G:St}{H Hh:Hp}{s:Shared}(I:Inv X pins G H s)(m:∀b o,Hh b=some o->H b=some o){n:Nat}{A:Around}(hu:A.units+(n+1)<cLine){x y:D}{v w:V}{u z:Value}{b:Bool}(rx:R Hh x v)(ry:R Hh y w)(ru:RelV v u)(rz:RelV w z)
  (hs:j8 x y=true)(h:fu (n+1) x y=some b):RcNeAt A s u z (!b):=by
 have U:A.units<cLine:=by omega
 have items:∀{xs ys:List D}{vs ws:List V}{is C:List Value}{e:Nat->Bool},Rs Hh xs vs->Rs Hh ys ws->Vals vs is->Vals ws C->(∀(j:Nat) x y,xs[j]?=some x->ys[j]?=some y->fu n x y=some (e j))->
   ∀j(h1:j<is.toArray.size)(J:j<C.toArray.size),EqAt A.in1 s is.toArray[j] C.toArray[j] (e j):= λ{xs ys vs ws is C e} r1 r2 v1 v2 he j h1 J=>by
  have l1:j<xs.length:=by rw[<- r1.length,v1.length];simpa using h1
  have l2:j<ys.length:=by rw[<- r2.length,v2.length];simpa using J
  obtain⟨v',e1,q1⟩:=r1.get (kW l1);obtain⟨w',e2,q2⟩:=r2.get (kW l2);obtain⟨u',e3,q3⟩:=v1.get e1;obtain⟨z',e4,q4⟩:=v2.get e2;have:=(u0 I m n A.in1 (by show A.units+1+n<_;omega) _ _ v' w' u' z' (e j) q1 q2 q3 q4 (he j _ _ (kW l1) (kW l2))).1;grind
 cases x with
 |tup xs=>cases y with
  |tup ys=>
   obtain⟨l,vs,rfl,h1,J⟩:=rx.tup;obtain⟨k,ws,rfl,g1,g2⟩:=ry.tup;cases ru;cases rz;obtain⟨is,v1,p1,_⟩:=I.tuple (.of (m _ _ h1));obtain⟨C,v2,p2,_⟩:=I.tuple (.of (m _ _ g1));have s1:is.toArray.size=xs.length:=by rw[xS,<- v1.length,J.length]
   have s2:C.toArray.size=ys.length:=by rw[xS,<- v2.length,g2.length]
   unfold fu at h;cases q:fu.go n xs ys with
   |none=>rw[q]at h;cases h
   |some b'=>rw[q]at h;cases h;obtain⟨e,he,hb⟩:=kY q;have:=RcNeAt.tuples p1 p2 U (items J g2 v1 v2 he);rw[s1,s2,<- hb]at this;exact this
  |_=>simp[j8]at hs
 |lst xs=>cases y with
  |lst ys=>
   obtain⟨l,vs,rfl,h1,J⟩:=rx.lst;obtain⟨k,ws,rfl,g1,g2⟩:=ry.lst;cases ru;cases rz;obtain⟨is,v1,p1,_⟩:=I.list (.inl (Rd.mono m h1));obtain⟨C,v2,p2,_⟩:=I.list (.inl (Rd.mono m g1));have s1:is.toArray.size=xs.length:=by rw[xS,<- v1.length,J.length]
   have s2:C.toArray.size=ys.length:=by rw[xS,<- v2.length,g2.length]
   unfold fu at h;split at h;. rename_i hl;obtain⟨e,he,hb⟩:=kY h;have:=RcNeAt.lists p1.isList p2.isList (by rw[s1,s2,hl]) U (items J g2 v1 v2 he);rw[hb,<- hl,Nat.min_self,<- s1];exact this
   .rename_i hl;cases h;exact RcNeAt.lists_lengths p1.isList p2.isList (by rw[s1,s2];simpa using hl) U
  |_=>simp[j8]at hs
 |_=>simp[j8]at hs
noncomputable def ME:R2:= λ v u H Q=>O9 v u H Q\/ ∃(C:Hp) (x y:D) (b:Bool),(∀b o,C b=some o->H b=some o)/\R C x v/\R C y u/\j8 x y=true/\fu 9 x y=some b/\Q (.bl (!b)) H
theorem AY(hu:X.A.units+20<cLine):ij X (compareOp .NotEq) ME:=by
 intro pins s G H v w u z Q I o C h;rcases h with h|⟨Hh,x,y,b,m,J,U,hs,e,q⟩
 .exact Ja pins s G H v w u z Q I o C h
 .exact K6 I m (n:=8) (A:=X.A) (by omega) J U o C hs e _ _ _ _ ⟨.bl (!b),H,I,rfl,q⟩
theorem EU:nc ME (km true):= λ c o S G T H x y v u d Q s e k=>by
 unfold km at e;split at e;. rename_i hs;cases q:fu 9 x y with
  |none=>rw[q]at e;cases e
  |some b=>rw[q]at e;cases e;exact .inr ⟨_,x,y,b,bq,s.st.tail.head,s.st.head,hs,q,k _ _ (s.stk (.cons .mkB s.st.tail.tail))⟩
 .exact .inl (vJ c o S G T H x y v u d Q s e k)
theorem gk(o:cb k X.A)(C:DE X a fa)(I:DE X b fb):DT X (.Compare a [.NotEq] [b] pos) (m2 (km true) fa fb >>= qk):=fW (AY (g6 o)) EU C I
noncomputable def Mg(ta:TA):TE:= λ G H Q=>ta G H λ vs H1=>∃j:Int,vs=[.int j]/\∀q,H1 q=none->Q (.ref q) (upd H1 q (.rng 0 j))
theorem nR(C:Gl X "range")(hm:X.mg "range"=none)(J:PA X [a] ta)(hs:autoParam (i4 X a) aQ0._auto_1):PE X (.Call (.Name "range" p) [a] [] pos) (Mg ta):=by intro pins s G H Q I h;refine WS (fv I C hm (show bootBuiltins "range"=some (.type "range")by decide+kernel) (ZN (b9 (J pos pins s G H _ I h) λ us s1 ⟨vs,H1,o,U,q1⟩=>?_) hs rfl));obtain⟨j,e,q⟩:=q1;subst e;cases U with
 |cons r rr=>cases rr;obtain⟨t,rfl⟩:=r;refine call_range_1 ⟨.ref s1.heap.objs.size,upd H1 s1.heap.objs.size (.rng 0 j),o.laid (λ b u e=>zS _ e) (wN _) ?_,rfl,q _ o.fresh⟩;exact⟨_,_,_,wF _ rfl⟩
theorem iR{acc:Array Value}(h:ItemsOf (λ i v=>∃t,v= .int (lo+i*1) t) acc n):Vals ((List.range n).map λ(i:Nat)=>V.int (lo+i)) acc.toList:=by
 obtain⟨U,I⟩:=h;have gen:∀(us:List Value)(k:Nat),(∀(j:Nat) v,us[j]?=some v->∃t,v= .int (lo+((k+j:Nat):Int)) t)->Vals ((List.range us.length).map λ i=>V.int (lo+((k+i:Nat):Int))) us:=by intro us;induction us with
  |nil=>intro k _;exact .nil
  |cons u us J=>
   intro k C;rw[QU,W5];obtain⟨t,e⟩:=C 0 u rfl;refine .cons ⟨t,by simpa using e⟩ ?_;have:=J (k+1) λ j v o=>by obtain⟨t,e⟩:=C (j+1) v (by simpa using o);exact⟨t,by rw[e];congr 2;omega⟩
   have e2:((λ i=>V.int (lo+((k+i:Nat):Int)))∘Nat.succ)= λ i=>V.int (lo+((k+1+i:Nat):Int)):=by funext i;show V.int _=V.int _;congr 2;omega
   simp_all
 have:=gen acc.toList 0 λ j v o=>by obtain⟨t,e⟩:=I j v (by simpa using o);exact⟨t,by rw[e];simp⟩
 grind
theorem uH(J:X.calm=true):c6 X (.type "list") (λ xs H Q=>∃q j,xs=[.ref q]/\H q=some (.rng 0 j)/\j<100000/\ -(2^62)<=j/\∀l,H l=none->Q (.ref l) (upd H l (.lst ((List.range j.toNat).map λ(i:Nat)=>V.int (0+i))))):=by
 intro pins s G H xs us Q I r h;obtain⟨q,j,rfl,U,hj,C,k⟩:=h;obtain⟨u,rfl,rx⟩:=r.one;cases rx;obtain⟨t,u',v,hr⟩:=I.hok q _ U;refine call_list_range (n:=j.toNat) (I.ok.hd J) hr (small_one (by omega) (by omega) C (by omega)) (by rw[rangeSize_one];split <;> omega) (by omega) λ h' tk o c' kp e hi=>?_;refine⟨.ref s.heap.objs.size,_,I.laid (t':=tk) kp (wN _) (show b4 X.prog X.w _ h' _ (.lst _)from⟨?_,o.toList,c',iR hi,by simpa using e⟩),rfl,k _ I.fresh⟩;have:100000<sizeLine:=by decide
 grind
noncomputable def iY:List D->Option (List D)
 |[.int j]=>if j<100000/\ -(2^62)<=j then some (cJ 0 j.toNat)else none
 |_=>none
theorem jT:Rs H (cJ lo n) ((List.range n).map λ(i:Nat)=>V.int (lo+i)):=by unfold cJ;induction(List.range n)with
 |nil=>rfl
 |cons i r o=>exact .cons .mkI o
theorem l0{p2 C:Pos}(I:X.mg "list"=none)(J:X.mg "range"=none)(ha:DA X [a] fs)(U:autoParam (Gl X "list") aQ0._auto_1)(aa:autoParam (Gl X "range") aQ0._auto_1)(hc:autoParam (X.calm=true) aQ0._auto_1)(hs:autoParam (i4 X a) aQ0._auto_1):
  DF X (.Call (.Name "list" p) [.Call (.Name "range" p2) [a] [] C] [] pos) (mC iY fs):=
 cw (d_ (uH hc) U I (by decide+kernel) (cN (nR aa J ha hs) dF) (by decide) (by decide) rfl rfl) λ G H Q ⟨c,Y,S,T,d,ae,s,e,k⟩=>by
  obtain⟨ds,ab,e1,e⟩:=bind_some e;obtain⟨o,rfl⟩:=aZ e;refine⟨c,Y,S,T,ds,ab,s,e1,λ vs H1 l s1=>?_⟩;unfold iY at o;split at o
  .rename_i j;split at o
   .rename_i hj;cases o;obtain⟨v,rfl,r⟩:=tE (s1.st.left l);cases r.int;refine⟨j,rfl,λ q hq=>⟨q,j,rfl,bf,hj.1,hj.2,λ m hm=>?_⟩⟩;have s2:=(s1.drop l).grow (eN hq (.rng 0 j));obtain⟨f1,f2,f3⟩:=s2.fresh hm;refine k m _ _ (jT (H:=H)).length ((s2.hide hm).stk ?_) f1 f2 f3;exact jT.append (s2.hide hm).st
   .cases o
  .cases o
end
section
variable {prog:Program} {w:World} {A:Around} {E:Value->Shared->Prop} {s:Shared}
theorem nj{r:Addr}{a b c:Int}{t u v:Tok}{n:Nat}(hh:A.handled=none)(hr:IsRange s.heap r a b c t u v)(C:Builtin.Range.small a b c=true)(hn:Builtin.Range.rangeSize a b c=n)(hlen:n<=2^24)
  (hQ:∀h' tk acc,(∀b I,s.heap.get? b=some I->h'.get? b=some I)->ItemsOf (λ i v=>∃t,v= .int (a+i*c) t) acc n->Q acc.toList { s with heap:=h',toks:=tk }):
  wpAny (model prog w) A (collect (.ref r)) Q E s:=by
 refine zN (wpAny_runValue (Z9 W9 ?_));refine zN (QZ ?_);refine kT ⟨WD Y0 _,Z9 F.entry_list_iadd ?_⟩;have hS:(s.heap.push { cls:= .type "list",data:= .seq ([]:List Value).toArray }).get? s.heap.objs.size=some { cls:= .type "list",data:= .seq #[] 0 }:=wF _ rfl;refine gO (wpAny_extend_range (A:=A) (R:= λ q s'=>q= .ok (.ret (.ref s.heap.objs.size))/\∃h' tk acc J,s'={ s with heap:=h',toks:=tk }/\(∀b I,s.heap.get? b=some I->h'.get? b=some I)/\h'.get? s.heap.objs.size=some { cls:= .type "list",dict:=none,data:= .seq acc J,slots:=#[] }/\ItemsOf (λ i v=>∃t,v= .int (a+i*c) t) acc n)
  (s:={ s with heap:=s.heap.push { cls:= .type "list",data:= .seq ([]:List Value).toArray } }) hh (zS _ hr) C hn hlen _ _ 0 hS λ h' tk aa J hk U hi=>⟨rfl,h',tk,aa,J,rfl,λ b o e=>hk b o (fR (wR e)) (zS _ e),U,hi⟩) (λ fin s' h=>?_) (λ e s' h=>?_)
 .have ab:∀s',(∃h' tk acc J,s'={ s with heap:=h',toks:=tk }/\(∀b I,s.heap.get? b=some I->h'.get? b=some I)/\h'.get? s.heap.objs.size=some { cls:= .type "list",dict:=none,data:= .seq acc J,slots:=#[] }/\ItemsOf (λ i v=>∃t,v= .int (a+i*c) t) acc n)->
    wpAny (model prog w) A (match Value.ref s.heap.objs.size with
     |Value.ref a=>do
      match(<- load a).data with
       |Data.seq xs _=>pure xs.toList
       |_=>unsupported "internal:collect"
     |_=>unsupported "internal:collect") Q E s':= λ s' ⟨h',tk,acc,J,e,hk,U,hi⟩=>by
   subst e;refine zN (wpAny_load U ?_);exact kT (hQ h' tk acc hk hi)
  cases fin with
  |done f=>grind
  |again J=>exact⟨h.1,VS h.2 λ r ae hr=>by obtain⟨rfl,hr⟩:=hr;exact ab ae hr⟩
 grind
end
theorem je(r:Addr){a b c:Int}{t u v:Tok}{n:Nat}(o:Builtin.Range.small a b c=true)(hn:Builtin.Range.rangeSize a b c=n)(hlen:n<=100000):
  Meets (Builtin.«tuple.__new__» ⟨[.type "tuple",.ref r],[]⟩)
   (λ A R s=>A.handled=none/\IsRange s.heap r a b c t u v/\∀(h':Heap)(tk:Nat)(acc:Array Value),(∀b U,s.heap.get? b=some U->h'.get? b=some U)->ItemsOf (λ i v=>∃t,v= .int (a+i*c) t) acc n->R (.ok (.ret (.ref h'.objs.size))) { s with heap:=h'.push { cls:= .type "tuple",data:= .seq acc },toks:=tk }):=
 .of_wp λ prog w A R s h=>by
  obtain⟨hp,g,d,tk,os⟩:=s;obtain⟨hh,C,h⟩:=h;have aa:=sub_tuple_self;have I:=init_tuple_lookup;have ab:=madeHere_tuple;have hT:Shared.TypeIs ⟨hp,g,d,tk,os⟩ (.ref r) "range":=⟨_,C,rfl⟩;wp_walk using wpAny_loadPart' C,WZ hT,nj (A:=A.in1) (show A.in1.handled=none from hh) C o hn (show n<=2^24 by omega);intro h' J acc hk hi;show wpAny _ _ (Builtin.Tuple.tupleExact acc.toList.toArray >>=λ v=>ret v) _ _ _;unfold Builtin.Tuple.tupleExact;have hz:acc.size<=sizeLine:=by rw[hi.1,ZW];omega
  refine zN (QZ ?_ (by show acc.toList.toArray.size<=sizeLine;simpa using hz));refine kT ⟨_,rfl,?_⟩;have e:acc.toList.toArray=acc:=by simp
  rw[e];exact h h' J acc hk hi
section
variable {X:Cx} {a b e:Expr} {fs:M (List D)} {pos p:Pos}
theorem qB(U:X.calm=true):c6 X (.type "tuple") (λ xs H Q=>∃q j,xs=[.ref q]/\H q=some (.rng 0 j)/\j<100000/\ -(2^62)<=j/\∀l,H l=none->Q (.ref l) (upd H l (.tup ((List.range j.toNat).map λ(i:Nat)=>V.int (0+i))))):=by
 intro pins s G H xs us Q I r h;obtain⟨q,j,rfl,hq,hj,C,k⟩:=h;obtain⟨u,rfl,rx⟩:=r.one;cases rx;obtain⟨t,u',v,hr⟩:=I.hok q _ hq;refine callType_new F.called_tuple (by decide) (F.typeCall_tuple_1 _) (F.newCall_tuple_1 _) (λ obj=>F.args_object_init_2 obj _) F.entry_tuple_new
  (je q (n:=j.toNat) (small_one (by omega) (by omega) C (by omega)) (by rw[rangeSize_one];split <;> omega) (by omega)) ⟨I.ok.hd U,hr,λ h' tk acc kp hi=>⟨⟨_,wF _ rfl,rfl⟩,?_⟩⟩;have J:Inv X pins G H { s with heap:=h',toks:=tk }:=I.kept kp;refine⟨.ref h'.objs.size,_,J.laid (t':=tk) (λ b o e=>zS _ e) (wN _) (show b4 X.prog X.w _ _ _ (.tup _)from⟨?_,acc.toList,iR hi,by simpa using t8.new _ _⟩),rfl,k _ (J.hok.fresh (wN _))⟩;have:100000<sizeLine:=by decide
 grind
theorem jx{p2 C:Pos}(I:X.mg "tuple"=none)(J:X.mg "range"=none)(ha:DA X [a] fs)(U:autoParam (Gl X "tuple") aQ0._auto_1)(aa:autoParam (Gl X "range") aQ0._auto_1)(hc:autoParam (X.calm=true) aQ0._auto_1)(hs:autoParam (i4 X a) aQ0._auto_1):
  DE X (.Call (.Name "tuple" p) [.Call (.Name "range" p2) [a] [] C] [] pos) (do let xs<- mC iY fs;pure (.tup xs)):=
 cw (d_ (qB hc) U I (by decide+kernel) (cN (nR aa J ha hs) dF) (by decide) (by decide) rfl rfl) λ G H Q ⟨c,Y,S,T,d,ae,s,e,k⟩=>by
  obtain⟨xs,af,e0,e⟩:=bind_some e;obtain⟨rfl,rfl⟩:=aU e;obtain⟨ds,ab,e1,e⟩:=bind_some e0;obtain⟨o,rfl⟩:=aZ e;refine⟨c,Y,S,T,ds,ab,s,e1,λ vs H1 l s1=>?_⟩;unfold iY at o;split at o
  .rename_i j;split at o;. rename_i hj;cases o;obtain⟨v,rfl,r⟩:=tE (s1.st.left l);cases r.int;refine⟨j,rfl,λ q hq=>⟨q,j,rfl,bf,hj.1,hj.2,λ m hm=>?_⟩⟩;have s2:=(s1.drop l).grow (eN hq (.rng 0 j));exact k _ _ ((s2.stk (jT.append s2.st)).newTup (jT (H:=H)).length hm)
   .cases o
  .cases o
end
section
variable {X:Cx} {a b e:Expr} {fa:M D} {pos p:Pos}
inductive Ty where
 | int | bool | tup | lst | str
noncomputable def Ty.name:Ty->String
 | .int=>"int"
 | .bool=>"bool"
 | .tup=>"tuple"
 | .lst=>"list"
 | .str=>"str"
noncomputable def rG:Ty->D->Option Bool
 | .int,.int _=>some true
 | .int,.bl _=>some true
 | .bool,.bl _=>some true
 | .tup,.tup _=>some true
 | .lst,.lst _=>some true
 | .str,.str _=>some true
 |_,_=>some false
theorem dictAt {a:Addr} (I:Inv X pins G H s) (h:H a=some (wK a)):∃o,s.heap.get? a=some o/\o.cls=.type "dict":= by
 obtain ⟨⟨_,o,_,h1,h2,_⟩,_⟩:=I.hok a _ h
 grind
theorem Nz{G:St}{H:Hp}{s:Shared}{a:Addr}{kvs:List (Int×Int)}(I:Inv X pins G H s)(h:H a=some (jq kvs)):∃o,s.heap.get? a=some o/\o.cls= .type "dict":=by obtain⟨_,_,vs,_,o,_,_,C,J,_⟩:=(show b4 X.prog X.w H s.heap a (jq kvs)from I.hok a _ h);exact⟨o,C,J.1⟩
theorem Nu{G:St}{H:Hp}{s:Shared}{a:Addr}{kvs:List ((Int×Int)×Int)}(I:Inv X pins G H s)(h:H a=some (eW kvs)):∃o,s.heap.get? a=some o/\o.cls= .type "dict":=by obtain⟨_,_,xs,_,o,_,_,C,J,_⟩:=(show b4 X.prog X.w H s.heap a (eW kvs)from I.hok a _ h);exact⟨o,C,J.1⟩
theorem Br:c6 X (.builtin "isinstance") (λ xs H Q=>∃(Hh:Hp) (d:D) (v:V) (T:Ty) (k:Bool),xs=[v,.ty T.name]/\(∀b o,Hh b=some o->H b=some o)/\R Hh d v/\rG T d=some k/\Q (.bl k) H):=by intro pins s G H xs us Q I r h;obtain⟨Hh,d,v,T,k,rfl,m,rd,ek,q⟩:=h;obtain⟨u,z,rfl,ru,rz⟩:=r.two;cases rz;have fin:∀tk,EP X pins G Q (.bool k) { s with toks:=tk }:= λ tk=>⟨.bl k,H,I.tok _,rfl,q⟩;have U:EP X pins G Q (.bool k) s:=⟨.bl k,H,I,rfl,q⟩;cases d with
 |non=>
  cases rd.non;cases ru;cases T <;> cases ek;. exact IsiPair.NoneType_int (fin _)
  .exact IsiPair.NoneType_bool (fin _)
  .exact IsiPair.NoneType_tuple (fin _)
  .exact IsiPair.NoneType_list (fin _)
  .exact IsiPair.NoneType_str (fin _)
 |int i=>
  cases rd.int;obtain⟨t,rfl⟩:=ru;cases T <;> cases ek;. exact IsiPair.int_int U
  .exact IsiPair.int_bool (fin _)
  .exact IsiPair.int_tuple (fin _)
  .exact IsiPair.int_list (fin _)
  .exact IsiPair.int_str (fin _)
 |bl i=>
  cases rd.bl;cases ru;cases T <;> cases ek;. exact IsiPair.bool_int U
  .exact IsiPair.bool_bool U
  .exact IsiPair.bool_tuple (fin _)
  .exact IsiPair.bool_list (fin _)
  .exact IsiPair.bool_str (fin _)
 |str i=>
  cases rd.str;obtain⟨t,rfl⟩:=ru;cases T <;> cases ek;. exact IsiPair.str_int (fin _)
  .exact IsiPair.str_bool (fin _)
  .exact IsiPair.str_tuple (fin _)
  .exact IsiPair.str_list (fin _)
  .exact IsiPair.str_str U
 |tup ds=>
  obtain⟨q',vs,rfl,h1,h2⟩:=rd.tup;cases ru;obtain⟨its,_,⟨o,C,J,_⟩,_⟩:=I.tuple (.of (m _ _ h1));cases T <;> cases ek;. exact IsiPair.tuple_int C J (fin _)
  .exact IsiPair.tuple_bool C J (fin _)
  .exact IsiPair.tuple_tuple C J U
  .exact IsiPair.tuple_list C J (fin _)
  .exact IsiPair.tuple_str C J (fin _)
 |lst ds=>
  obtain⟨q',vs,rfl,h1,h2⟩:=rd.lst;cases ru;obtain⟨its,_,pl,_⟩:=I.list (.inl (Rd.mono m h1));obtain⟨o,C,J,_⟩:=pl.isList;cases T <;> cases ek;. exact IsiPair.list_int C J (fin _)
  .exact IsiPair.list_bool C J (fin _)
  .exact IsiPair.list_tuple C J (fin _)
  .exact IsiPair.list_list C J U
  .exact IsiPair.list_str C J (fin _)
 |dct=>
  obtain⟨q',rfl,h1⟩:=rd.dct;cases ru;obtain⟨o,C,J⟩:=dictAt I (m _ _ h1);cases T <;> cases ek;. exact IsiPair.dict_int C J (fin _)
  .exact IsiPair.dict_bool C J (fin _)
  .exact IsiPair.dict_tuple C J (fin _)
  .exact IsiPair.dict_list C J (fin _)
  .exact IsiPair.dict_str C J (fin _)
 |dic kvs=>
  obtain⟨q',rfl,h1⟩:=rd.dic;cases ru;obtain⟨o,C,J⟩:=Nz I (m _ _ h1);cases T <;> cases ek;. exact IsiPair.dict_int C J (fin _)
  .exact IsiPair.dict_bool C J (fin _)
  .exact IsiPair.dict_tuple C J (fin _)
  .exact IsiPair.dict_list C J (fin _)
  .exact IsiPair.dict_str C J (fin _)
 |dip kvs=>
  obtain⟨q',rfl,h1⟩:=rd.dip;cases ru;obtain⟨o,C,J⟩:=Nu I (m _ _ h1);cases T <;> cases ek;. exact IsiPair.dict_int C J (fin _)
  .exact IsiPair.dict_bool C J (fin _)
  .exact IsiPair.dict_tuple C J (fin _)
  .exact IsiPair.dict_list C J (fin _)
  .exact IsiPair.dict_str C J (fin _)
noncomputable def E5(T:Ty)(fa:M D):M D:=do
 let d<- fa
 let k<- lift (rG T d)
 pure (.bl k)
theorem LY(T:Ty){y:Str}{py:Pos}(o:Gl X y)(hm:X.mg y=none)(C:bootBuiltins y=some (.type T.name))(I:autoParam (y≠"__name__") aQ1._auto_1)(hd:autoParam ((y==("__debug__":Str))=false) aQ1._auto_1):PE X (.Name y py) (tC (.ty T.name)):=Gj o hm C rfl I hd
theorem mI(T:Ty){y:Str}{py:Pos}(o:X.mg "isinstance"=none)(C:X.mg y=none)(ha:DE X a fa)(hv:bootBuiltins y=some (.type T.name):=by decide+kernel)(I:autoParam (Gl X "isinstance") aQ0._auto_1)(J:autoParam (Gl X y) aQ0._auto_1)(hn:autoParam (y≠"__name__") aQ1._auto_1)(hd:autoParam ((y==("__debug__":Str))=false) aQ1._auto_1)
  (he:autoParam (starEach [a,.Name y py] X.env=(false,eval a X.env)::starEach [.Name y py] X.env) aQ0._auto_1):DE X (.Call (.Name "isinstance" p) [a,.Name y py] [] pos) (E5 T fa):=
 cw (eT Br I o (by decide+kernel) (cN ha (cN (LY T J C hv hn hd) dF) he) (by decide) (by decide) he rfl) λ G H Q ⟨c,Y,S,TT,d,aa,s,e,k⟩=>by obtain⟨x,U,e1,e⟩:=bind_some e;obtain⟨b,ab,e2,e⟩:=bind_some e;obtain⟨e3,rfl⟩:=aZ e2;obtain⟨rfl,rfl⟩:=aU e;exact⟨c,Y,S,TT,x,U,s,e1,λ v H1 s1=>⟨_,x,v,T,b,rfl,bq,s1.st.head,e3,k _ _ (s1.stk (.cons .mkB s1.st.tail))⟩⟩
end
noncomputable def yQ(x:Int):List Int->List Int
 |[]=>[x]
 |y::r=>if x<=y then x::y::r else y::yQ x r
noncomputable def bP:List Int->List Int
 |[]=>[]
 |x::r=>yQ x (bP r)
theorem jE(x:Int):∀l,(yQ x l).Perm (x::l)
 |[]=>VG _
 |y::r=>by
  unfold yQ;split;. rfl
  .exact((jE x r).cons y).trans (List.Perm.swap _ _ _)
theorem eJ:∀l,(bP l).Perm l
 |[]=>VG _
 |x::r=>(jE x _).trans ((eJ r).cons x)
theorem wA(x:Int):∀l:List Int,l.Pairwise (. <= .)->(yQ x l).Pairwise (. <= .)
 |[],_=>V0 _ _
 |y::r,h=>by
  obtain⟨o,C⟩:=ZI.mp h;unfold yQ;split
  .rename_i hx;refine ZI.mpr ⟨λ z hz=>?_,h⟩;rcases wW.mp hz with e|hz
   .rw[e];exact hx
   .exact Int.le_trans hx (o z hz)
  .refine ZI.mpr ⟨λ z hz=>?_,wA x r C⟩;rcases wW.mp ((jE x r).mem_iff.mp hz)with e|hz
   .omega
   simp_all
theorem l4:∀l,(bP l).Pairwise (. <= .)
 |[]=>List.Pairwise.nil
 |x::r=>wA x _ (l4 r)
theorem nJ:∀{a b:List Int},a.Perm b->a.Pairwise (. <= .)->b.Pairwise (. <= .)->a=b
 |[],b,p,_,_=>(List.nil_perm.mp p).symm
 |x::a,[],p,_,_=>absurd p (by simp)
 |x::a,y::b,p,o,C=>by
  obtain⟨a1,a2⟩:=ZI.mp o;obtain⟨b1,I⟩:=ZI.mp C;have e:x=y:=by have hx:x∈y::b:=p.mem_iff.mp uT;have J:y∈x::a:=p.mem_iff.mpr uT;grind
  subst e;rw[nJ ((List.perm_cons x).mp p) a2 I]
theorem A4(p:a.Perm b)(h:a.Pairwise (. <= .)):a=bP b:=nJ (p.trans (eJ b).symm) h (l4 b)
noncomputable def gZ:List Int->List Int
 |[]=>[]
 |x::r=>if x∈gZ r then gZ r else x::gZ r
theorem dt:∀{l:List Int},z∈gZ l↔z∈l
 |[]=>Iff.rfl
 |x::r=>by
  unfold gZ;split;. rename_i h;rw[dt,wW];exact⟨.inr,λ q=>q.elim (λ e=>e▸dt.mp h) id⟩
  .rw[wW,wW,dt]
theorem dI:∀(l:List Int),(gZ l).Nodup
 |[]=>WX
 |x::r=>by
  unfold gZ;split;. exact dI r
  .rename_i h;exact Q8.mpr ⟨h,dI r⟩
theorem vf(l:List Int):(gZ l).length<=l.length:=by induction l with
 |nil=>exact wN _
 |cons x r o=>unfold gZ;grind
theorem CM{a b:List Int}(nd:a.Nodup)(h:∀z,z∈a↔z∈b):a.Perm (gZ b):=by refine(ZZ nd (dI b)).mpr λ z=>?_;rw[h z,dt]
inductive Qg (K:PySem.W.Frag) (f:M (List D)) (G:St) (H:Hp) (Q:VK):Prop
 | mk (c:Ct) (Y:DS) (S:List D) (T:List V) (xs:List D) (δ':DS) (s:Sl c Y S G T H) (e:f Y=some (xs,δ')) (q:∀p vs H',vs.length=xs.length->(iE K H' p vs ∨ fQ K H' p vs)->Sl c δ' (xs ++ S) G (vs ++ T) H' -> Q (.ref p) H'):Qg K f G H Q
noncomputable abbrev DQ(X:Cx)(e:Expr)(f:M (List D)):Prop:=PE X e (Qg X.K f)
section
variable {X:Cx} {b e:Expr} {fa:M D} {fq:M (List D)} {pos p:Pos} {x:Str}
theorem j4(h:DE X e fa):DQ X e (do let x<- fa;lift (lJ x)):=cw h λ G H Q ⟨c,U,S,T,xs,aa,s,e,k⟩=>by obtain⟨d,C,e1,e⟩:=bind_some e;obtain⟨I,rfl⟩:=aZ e;refine⟨c,U,S,T,d,C,s,e1,λ v H' s'=>?_⟩;cases d with
 |tup ds=>cases I;obtain⟨q,vs,rfl,J,o⟩:=s'.st.head.tup;exact k q vs H' o.length (.inr (.of (bq _ _ J))) (s'.stk (o.append s'.st.tail))
 |lst ds=>cases I;obtain⟨q,vs,rfl,J,o⟩:=s'.st.head.lst;exact k q vs H' o.length (.inl (.inl (Rd.mono bq J))) (s'.stk (o.append s'.st.tail))
 |_=>cases I
theorem KL(i:Nat){px:Pos}(C:autoParam (Nm X i x) aQ2._auto_1):
  DQ X (.Name x px) (cZ i):=cw (fH C) λ G H Q ⟨c,Y,S,T,xs,J,s,e,k⟩=>by obtain⟨⟨b,U⟩,rfl⟩:=bF e;obtain⟨q,vs,ev,hq,hx⟩:=s.own U;exact⟨_,ev,k q vs H hx.length (.inl (.of hq)) (s.stk (hx.append s.st))⟩
theorem Inv.kd{G:St}{H:Hp}{s:Shared}{h':Heap}{t':Nat}{d':Drawn}(I:Inv X pins G H s)(k:∀b u,s.heap.get? b=some u->h'.get? b=some u):Inv X pins G H { s with heap:=h',toks:=t',drawn:=d' }:=by have o:=I.kept (t':=t') k;exact⟨o.ok,o.os,o.bare,o.base,o.loc,o.cell,o.free,o.freeC,o.pin,o.hok,o.len⟩
theorem ia:∀{us:List Value},PyProof.Rows.IntsAre us ns->Vals (ns.map V.int) us:=by induction ns with
 |nil=>intro us h;cases h;exact .nil
 |cons n ns o=>intro us h;cases h with
  |cons _ t h=>exact .cons ⟨t,rfl⟩ (o h)
theorem kO{G:St}{H:Hp}{s:Shared}{ns ms:List Int}{Q:VK}{C h':Heap}{tk:Nat}{d:Drawn}{out:List Value}{e:Nat}(I:Inv X pins G H s)(k:∀b o,s.heap.get? b=some o->C.get? b=some o)(k2:∀b o,C.get? b=some o->h'.get? b=some o)
  (hg:h'.get? C.objs.size=some { cls:= .type "list",data:= .seq out.toArray e })(hi:PyProof.Rows.IntsAre out ms)(J:ms.Perm ns)(hu:ms.Pairwise (. <= .))(hl:ns.length<64)(q:∀l,H l=none->Q (.ref l) (upd H l (.lst ((bP ns).map V.int)))):
  EP X pins G Q (.ref C.objs.size) { s with heap:=h',toks:=tk,drawn:=d }:=by have U:Inv X pins G H { s with heap:=C,toks:=tk,drawn:=d }:=Inv.kd I k;have em:=A4 J hu;refine⟨.ref C.objs.size,_,U.laid (t':=tk) (o:= .lst ((bP ns).map V.int)) k2 (wN _) ⟨?_,out,e,em▸ia hi,hg⟩,rfl,q _ (U.hok.fresh (wN _))⟩;rw[uL,<- em,J.length_eq,ZW];omega
theorem qO:c6 X (.builtin "sorted") (λ xs H Q=>∃p ns,xs=[.ref p]/\(iE X.K H p (ns.map V.int)\/fQ X.K H p (ns.map V.int))/\ns.length<64/\∀l,H l=none->Q (.ref l) (upd H l (.lst ((bP ns).map V.int)))):=by
 intro pins s G H xs us Q I r h;obtain⟨p,ns,rfl,C,hl,q⟩:=h;obtain⟨u,rfl,ru⟩:=r.one;cases ru;refine j6 (ns:=ns) (λ A' Q' E' hA J=>?_) hl λ h1 h' tk d out ms e k k2 hg hi hp hu=>kO I k k2 hg hi hp hu hl q;rcases C with C|C
 .obtain⟨its,U,pl,hz⟩:=I.list C;obtain⟨o,ho,hc,n,hd⟩:=pl.isList;exact W6 p (.inl rfl) ho hc hd (λ h' k=>J _ ns h' s.toks s.drawn (by simpa using intsAre_of U) (VG _) k) (by rw[xS,<- U.length];omega)
 .obtain⟨its,U,⟨o,ho,hc,n,hd⟩,hz⟩:=I.tuple C;exact W6 p (.inr rfl) ho hc hd (λ h' k=>J _ ns h' s.toks s.drawn (by simpa using intsAre_of U) (VG _) k) (by rw[xS,<- U.length];exact hz)
noncomputable def b_:List D->Option (List Int)
 |[]=>some []
 | .int i::r=>(b_ r).map (i:: .)
 |_=>none
theorem c_:∀{ds:List D}{vs:List V}{ns:List Int},Rs H ds vs->b_ ds=some ns->vs=ns.map V.int
 |[],vs,ns,h,e=>by cases e;exact h.inv0
 |d::ds,vs,ns,h,e=>by obtain⟨v,r,ev,o,C⟩:=h.inv;cases d with
  |int b=>unfold b_ at e;cases q:b_ ds with
   |none=>simp_all
   |some I=>rw[q]at e;cases e;rw[ev,o.int,c_ C q];rfl
  |_=>cases e
theorem fL:∀(ns:List Int),Rs H (ns.map D.int) (ns.map V.int)
 |[]=> .nil
 |n::ns=> .cons .mkI (fL ns)
noncomputable def sortI(xs:List D):Option (List D):=match b_ xs with
 |some ns=>if ns.length<64 then some ((bP ns).map D.int)else none
 |none=>none
noncomputable def mQ{B:Type}(g:List D->Option B)(f:M (List D)):M B:=do
 let xs<- f
 lift (g xs)
theorem jM(hm:X.mg "sorted"=none)(h:DQ X e fq)(J:autoParam (Gl X "sorted") aQ0._auto_1)(he:autoParam (i4 X e) aQ0._auto_1):DF X (.Call (.Name "sorted" p) [e] [] pos) (mQ sortI fq):=
 cw (eT qO J hm WI (cN h dF he) (by decide) (by decide) he rfl) λ G H Q ⟨c,U,S,T,xs,aa,s,e,k⟩=>by
  obtain⟨ds,I,e1,e⟩:=bind_some e;obtain⟨C,rfl⟩:=aZ e;refine⟨c,U,S,T,ds,I,s,e1,λ q vs H1 l hq s1=>?_⟩;unfold sortI at C;split at C
  .rename_i ns en;split at C
   .rename_i hn;cases C;have ev:=c_ (s1.st.left l) en;subst ev;refine⟨q,ns,rfl,hq,hn,λ m hm=>?_⟩;obtain⟨f1,f2,f3⟩:=s1.fresh hm;have s2:=(s1.drop l).hide (o:= .lst ((bP ns).map V.int)) hm;exact k m _ _ (by simp) (s2.stk ((fL _).append s2.st)) f1 f2 f3
   .cases C
  grind
noncomputable def l5(w:World)(S:Addr)(ns:List Int):HO:= .ext λ h=>∃l o t,b8 w h S l o t/\(l.map (·.1)).Perm (gZ ns)
theorem Ab(hc:X.calm=true):c6 X (.type "set") (λ xs H Q=>∃p ns,xs=[.ref p]/\(iE X.K H p (ns.map V.int)\/fQ X.K H p (ns.map V.int))/\ns.length<4000/\∀l,H l=none->Q (.ref l) (upd H l (l5 X.w l ns))):=by
 intro pins s G H xs us Q I r h;obtain⟨p,ns,rfl,C,hl,q⟩:=h;obtain⟨u,rfl,ru⟩:=r.one;cases ru;have fin:∀(h':Heap)(tk:Nat)(ls:List (Int×Tok))(J:Nat)(t:SetTable),b8 X.w h' s.heap.objs.size ls J t->(ls.map (·.1)).Nodup->(∀z,z∈ls.map (·.1)↔z∈ns)->(∀b o,s.heap.get? b=some o->h'.get? b=some o)->
   EP X pins G Q (.ref s.heap.objs.size) { s with heap:=h',toks:=tk }:= λ h' tk ls J t x nd mem k=>by refine⟨.ref s.heap.objs.size,_,I.laid (t':=tk) (o:=l5 X.w s.heap.objs.size ns) k (wN _) ⟨⟨ls,J,t,x,CM nd mem⟩,?_,λ h1 h2 ⟨l,J,t,x,p⟩ k=>⟨l,J,t,x.at k,p⟩⟩,rfl,q _ I.fresh⟩;obtain⟨o,ho,_⟩:=x.obj;simp_all
 rcases C with C|C
 .obtain⟨its,U,pl,hz⟩:=I.list C;have hn:its.toArray.size=ns.length:=by rw[xS,<- U.length,uL]
  exact nQ (ns:=ns) (.inl pl.isList) (I.ok.hd hc) (by simpa using intsAre_of U) (by show _<4096;omega) fin
 .obtain⟨its,U,pl,hz⟩:=I.tuple C;have hn:its.toArray.size=ns.length:=by rw[xS,<- U.length,uL]
  exact nQ (ns:=ns) (.inr pl) (I.ok.hd hc) (by simpa using intsAre_of U) (by show _<4096;omega) fin
theorem lZ(U:X.calm=true):c6 X (.builtin "sorted") (λ xs H Q=>∃p ns,xs=[.ref p]/\H p=some (l5 X.w p ns)/\ns.length<64/\∀l,H l=none->Q (.ref l) (upd H l (.lst ((bP (gZ ns)).map V.int)))):=by
 intro pins s G H xs us Q I r h;obtain⟨p,ns,rfl,hq,hl,q⟩:=h;obtain⟨u,rfl,ru⟩:=r.one;cases ru;obtain⟨⟨l,ep,t,x,pm⟩,_⟩:=I.hok p _ hq;have C:(gZ ns).length<64:=Nat.lt_of_le_of_lt (vf ns) hl;refine j6 (ns:=gZ ns) (λ A' Q' E' hA J=>?_) C λ h1 h' tk d out ms e k k2 hg hi hp hu=>kO I k k2 hg hi hp hu C q;refine pB (hA.trans (I.ok.hd U)) x λ ord h' tk d po k=>J _ (ord.map (·.1)) h' tk d ?_ ((po.map _).trans pm) k;have:∀o:List (Int×Tok),PyProof.Rows.IntsAre (o.map λ p=>Value.int p.1 p.2) (o.map (·.1)):= λ o=>by induction o with
  |nil=>exact .nil
  |cons x r ih=>exact .cons _ _ ih
 simp_all
theorem r6:c6 X (.builtin "len") (λ xs H Q=>∃p ns,xs=[.ref p]/\H p=some (l5 X.w p ns)/\Q (.int (gZ ns).length) H):=by
 intro pins s G H xs us Q I r h;obtain⟨p,ns,rfl,C,q⟩:=h;obtain⟨u,rfl,J⟩:=r.one;cases J;obtain⟨⟨l,ep,t,x,pm⟩,_⟩:=I.hok p _ C;obtain⟨o,U,hx,hd⟩:=x.obj;have hs:(l.map eo).toArray.size=l.length:=by simp
 have hn:l.length=(gZ ns).length:=by rw[<- pm.length_eq,uL]
 have hf:=x.few;have hb:scanBound=4096:=rfl;refine call_len_set U hx hd (by rw[hs];exact x.fits) (by omega) ?_;rw[hs,hn];exact⟨.int _,H,I.tok _,⟨_,rfl⟩,q⟩
noncomputable def ku(xs:List D):Option (List D):=match b_ xs with
 |some ns=>if ns.length<64 then some ((bP (gZ ns)).map D.int)else none
 |none=>none
noncomputable def ud(xs:List D):Option D:=match b_ xs with
 |some ns=>if ns.length<4000 then some (.int (gZ ns).length)else none
 |none=>none
noncomputable def MA(K:PySem.W.Frag)(w:World)(te:TE):TE:= λ G H Q=>te G H λ x H1=>∃p ns,[x]=[V.ref p]/\(iE K H1 p (ns.map V.int)\/fQ K H1 p (ns.map V.int))/\ns.length<4000/\∀l,H1 l=none->Q (.ref l) (upd H1 l (l5 w l ns))
theorem CK(hm:X.mg "set"=none)(h:PE X e te)(o:autoParam (Gl X "set") aQ0._auto_1)(C:autoParam (X.calm=true) aQ0._auto_1)(he:autoParam (i4 X e) aQ0._auto_1):PE X (.Call (.Name "set" p) [e] [] pos) (MA X.K X.w te):=
 cw (d_ (Ab C) o hm (by rfl) (cN h dF he) (by decide) (by rfl) he rfl) λ G H Q h=>h
theorem oU{p2 I:Pos}(hm:X.mg "sorted"=none)(C:X.mg "set"=none)(h:DQ X e fq)(hg:autoParam (Gl X "sorted") aQ0._auto_1)(U:autoParam (Gl X "set") aQ0._auto_1)(hc:autoParam (X.calm=true) aQ0._auto_1)(he:autoParam (i4 X e) aQ0._auto_1):
  DF X (.Call (.Name "sorted" p) [.Call (.Name "set" p2) [e] [] I] [] pos) (mQ ku fq):=
 cw (eT (lZ hc) hg hm WI (cN (CK C h U hc he) dF rfl) (by decide) (by decide) rfl rfl) λ G H Q ⟨c,Y,S,T,xs,ab,s,e,k⟩=>by
  obtain⟨ds,aa,e1,e⟩:=bind_some e;obtain⟨J,rfl⟩:=aZ e;refine⟨c,Y,S,T,ds,aa,s,e1,λ q vs H1 l hq s1=>?_⟩;unfold ku at J;split at J
  .rename_i ns en;split at J
   .rename_i hn;cases J;have ev:=c_ (s1.st.left l) en;subst ev;refine⟨q,ns,rfl,hq,by omega,λ m hm=>⟨m,ns,rfl,bf,hn,λ m2 C=>?_⟩⟩;have s2:=(s1.drop l).grow (eN hm (l5 X.w m ns));obtain⟨f1,f2,f3⟩:=s2.fresh C;have s3:=s2.hide (o:= .lst ((bP (gZ ns)).map V.int)) C;exact k m2 _ _ (by simp) (s3.stk ((fL _).append s3.st)) f1 f2 f3
   .cases J
  grind
theorem yD{p2 o:Pos}(hm:X.mg "len"=none)(I:X.mg "set"=none)(h:DQ X e fq)(hg:autoParam (Gl X "len") aQ0._auto_1)(J:autoParam (Gl X "set") aQ0._auto_1)(hc:autoParam (X.calm=true) aQ0._auto_1)(he:autoParam (i4 X e) aQ0._auto_1):
  DE X (.Call (.Name "len" p) [.Call (.Name "set" p2) [e] [] o] [] pos) (mQ ud fq):=
 cw (eT r6 hg hm PySem.boot_len (cN (CK I h J hc he) dF rfl) (by decide) (by decide) rfl rfl) λ G H Q ⟨c,Y,S,T,xs,aa,s,e,k⟩=>by
  obtain⟨ds,U,e1,e⟩:=bind_some e;obtain⟨C,rfl⟩:=aZ e;refine⟨c,Y,S,T,ds,U,s,e1,λ q vs H1 l hq s1=>?_⟩;unfold ud at C;split at C
  .rename_i ns en;split at C;. cases C;have ev:=c_ (s1.st.left l) en;subst ev;refine⟨q,ns,rfl,hq,by omega,λ m hm=>⟨m,ns,rfl,bf,?_⟩⟩;have s2:=(s1.drop l).grow (eN hm (l5 X.w m ns));exact k _ _ (s2.stk (.cons .mkI s2.st))
   .cases C
  grind
noncomputable def P7(xs ys:List D):Option (List D):=if xs.length+ys.length<=100000 then some (xs++ys)else none
end
inductive Hn where
 | th (x:D) | ls (j:Nat)
noncomputable def JS(c:Ct)(o:DS)(S:List D)(G:St)(T:List V)(H:Hp)(v:V):Hn->Prop
 | .th d=>Sl c o (d::S) G (v::T) H
 | .ls i=>Sl c o S G T H/\G[i]?=some (some v)
inductive Ik (f:M Hn) (G:St) (H:Hp) (Q:VK):Prop
 | mk (c:Ct) (Y:DS) (S:List D) (T:List V) (h:Hn) (δ':DS) (s:Sl c Y S G T H) (e:f Y=some (h,δ')) (q:∀v H',JS c δ' S G T H' v h->Q v H'):Ik f G H Q
noncomputable abbrev DH(X:Cx)(e:Expr)(f:M Hn):Prop:=PE X e (Ik f)
noncomputable def Hn.ds:Hn->List D
 | .th z=>[z]
 | .ls _=>[]
noncomputable def Hn.vs(v:V):Hn->List V
 | .th _=>[v]
 | .ls _=>[]
theorem Hn.len(v:V)(h:Hn):(h.vs v).length=h.ds.length:=by cases h <;> rfl
noncomputable def qi(h:Hn):M D:= λ o=>match h with
 | .th d=>some (d,o)
 | .ls i=>match o[i]? with
  |some (.ow _ xs)=>some (.lst xs,o)
  |_=>none
theorem JS.sl(k:JS c o S G T H v h):Sl c o (h.ds++S) G (h.vs v++T) H:=by cases h with
 |th d=>exact k
 |ls i=>exact k.1
theorem rD{S:List D}{G:St}{T:List V}{H:Hp}{v:V}{h:Hn}{d:D}(s:Sl c o S G T H)(hs:∀d',h= .th d'->R (dC c o G H) d' v)(U:∀i,h= .ls i->G[i]?=some (some v))(e:qi h o=some (d,C)):o=C/\R H d v/\
  (∀xs,d= .lst xs->∃p vs,v= .ref p/\Rd H p (.lst vs)/\Rs (dC c o G H) xs vs)/\((∀xs,d≠ .lst xs)->R (dC c o G H) d v):=by cases h with
 |th d0=>cases e;have r:=hs d rfl;refine⟨rfl,r.mono bq,λ xs ex=>?_,λ _=>r⟩;subst ex;obtain⟨p,vs,ev,h1,h2⟩:=r.lst;exact⟨p,vs,ev,Rd.mono bq h1,h2⟩
 |ls i=>
  unfold qi at e;dsimp only at e;split at e;. rename_i b xs hx;cases e;obtain⟨p,vs,ev,I,J⟩:=s.own hx;rw[U i rfl]at ev;cases ev;exact⟨rfl,.mkL (.inl I) (J.mono bq),λ ys ey=>by cases ey;exact⟨p,vs,rfl,.inl I,J⟩,λ z=>absurd rfl (z xs)⟩
  grind
section
variable {X:Cx} {a b e:Expr} {fa fb:M D} {ha' hb':M Hn} {fs:M (List D)} {pos p:Pos} {x:Str}
theorem vR(h:DE X e fa):DH X e (do let x<- fa;pure (.th x)):=cw h λ G H Q ⟨c,C,S,T,h,I,s,e,k⟩=>by obtain⟨d,o,J,e⟩:=bind_some e;obtain⟨rfl,rfl⟩:=aU e;exact⟨c,C,S,T,d,o,s,J,λ v H' s'=>k v H' s'⟩
noncomputable def Gz(i:Nat):M Hn:=do
 let _<- cZ i
 pure (.ls i)
theorem BC(i:Nat){px:Pos}(C:autoParam (Nm X i x) aQ2._auto_1):
  DH X (.Name x px) (Gz i):=cw (fH C) λ G H Q ⟨c,Y,S,T,h,J,s,e,k⟩=>by obtain⟨xs,U,e1,e⟩:=bind_some e;obtain⟨rfl,rfl⟩:=aU e;obtain⟨⟨b,hi⟩,rfl⟩:=bF e1;obtain⟨q,vs,ev,hq,hx⟩:=s.own hi;exact⟨_,ev,k _ H ⟨s,ev⟩⟩
noncomputable def HZ{B:Type}(g:D->D->Option B)(fa fb:M Hn):M B:=do
 let o<- fa
 let C<- fb
 let x<- qi o
 let y<- qi C
 lift (g x y)
structure Qc (c:Ct) (Y:DS) (S:List D) (G:St) (T:List V) (H:Hp) (x y:D) (v u:V):Prop where
 sl:Sl c Y S G T H
 rx:R H x v
 ry:R H y u
 lx:∀xs,x=.lst xs->∃p vs,v=.ref p/\Rd H p (.lst vs)/\Rs (dC c Y G H) xs vs
 ly:∀xs,y=.lst xs->∃p vs,u=.ref p/\Rd H p (.lst vs)/\Rs (dC c Y G H) xs vs
theorem Nq{g:D->D->Option B}{W:Ct->DS->List D->St->List V->VK->B->Prop}
  (hr:∀c o S G T H x y v u z Q,Qc c o S G T H x y v u->g x y=some z->W c o S G T Q z->r v u H Q):
  ∀G H Q,(∃c o S T z C,Sl c o S G T H/\HZ g ha' hb' o=some (z,C)/\W c C S G T Q z)->HK r (Ik ha') (Ik hb') G H Q:= λ G H Q ⟨c,o,S,T,z,C,s,e,k⟩=>by obtain⟨J,U,e1,e⟩:=bind_some e;obtain⟨h2,I,e2,e⟩:=bind_some e;obtain⟨x,aa,e3,e⟩:=bind_some e;obtain⟨y,ab,e4,e⟩:=bind_some e;obtain⟨e5,rfl⟩:=aZ e;refine⟨c,o,S,T,J,U,s,e1,λ v H1 k1=>?_⟩;refine⟨c,U,J.ds++S,J.vs v++T,h2,I,k1.sl,e2,λ u H2 k2=>?_⟩;have s2:=k2.sl;have s3:Sl c I S G T H2:=(s2.drop (Hn.len u h2)).drop (Hn.len v J);obtain⟨rfl,r1,l1,_⟩:=rD s3 (v:=v) (h:=J) (λ d' ed=>by subst ed;exact(s2.drop (Hn.len u h2)).st.head) (λ i ei=>by subst ei;exact k1.2) e3;obtain⟨rfl,r2,l2,_⟩:=rD s3 (v:=u) (h:=h2) (λ d' ed=>by subst ed;exact s2.st.head) (λ i ei=>by subst ei;exact k2.2) e4;exact hr c I S G T H2 x y v u z Q ⟨s3,r1,r2,l1,l2⟩ e5 k
noncomputable def Nr:R2:= λ x y H Q=>∃l b xs zs,x= .ref l/\y= .ref b/\Rd H l (.lst xs)/\Rd H b (.lst zs)/\xs.length+zs.length<=sizeLine/\∀p,H p=none->Q (.ref p) (upd H p (.lst (xs++zs)))
theorem GN:ij X (binaryOp .Add) Nr:=by intro pins s G H x y v u Q I J U h;obtain⟨l,b,xs,zs,rfl,rfl,hH,hB,hz,q⟩:=h;cases J;cases U;obtain⟨z,its,n,r,e⟩:=hH.ok I.hok;obtain⟨z2,o,n2,C,e2⟩:=hB.ok I.hok;refine PySem.P.add_list e e2 ?_ (by rw[xS,xS,<- r.length,<- C.length];omega);rw[show its.toArray++o.toArray=(its++o).toArray by simp];exact⟨.ref _,_,I.lnew (t':=s.toks) (r.append C) (by rw[gE];exact hz),rfl,q _ I.fresh⟩
noncomputable def LB:D->D->Option (List D)
 | .lst xs,.lst ys=>P7 xs ys
 |_,_=>none
theorem Jb(ha:DH X a ha')(hb:DH X b hb'):DF X (.BinOp a .Add b pos) (HZ LB ha' hb'):=cw (Ht GN ha hb) λ G H Q ⟨c,U,S,T,z,o,s,e,k⟩=>by refine Nq (W:= λ c o S G T Q z=>∀l vs H',vs.length=z.length->Sl { c with Z:=upd c.Z l (.lst vs) } o (z++S) G (vs++T) H'->c.Z l=none->l∉c.B->c.H0 l=none->Q (.ref l) H') (λ c U S G T H x y v u z Q t I w=>?_) G H Q ⟨c,U,S,T,z,o,s,e,k⟩;cases x with
 |lst xs=>cases y with
  |lst ys=>
   have C:(if xs.length+ys.length<=100000 then some (xs++ys)else none)=some z:=I;split at C
   .cases C;obtain⟨p1,vs,rfl,a1,a2⟩:=t.lx xs rfl;obtain⟨p2,us,rfl,b1,J⟩:=t.ly ys rfl;have hl:100000<sizeLine:=by decide
    refine⟨p1,p2,vs,us,rfl,rfl,a1,b1,by rw[a2.length,J.length];omega,λ q hq=>?_⟩;have s1:=t.sl.stk ((a2.append J).append t.sl.st);obtain⟨f1,f2,f3⟩:=s1.fresh hq;exact w q _ _ (by rw[gE,gE,a2.length,J.length]) (s1.hide hq) f1 f2 f3
   grind
  |_=>cases I
 |_=>cases I
noncomputable def OG(neg:Bool)(x y:D):Option D:=if j8 x y=true then(fu 9 x y).map λ b=> .bl (if neg then !b else b)else eY neg x y
theorem Fi{x y:D}{v u:V}{z:D}{Q:VK}{neg:Bool}{r:R2}(t:Qc c I S G T H x y v u)(o:OG neg x y=some z)(w:∀v H',Sl c I (z::S) G (v::T) H'->Q v H')
  (hs:∀(b:Bool),j8 x y=true->fu 9 x y=some b->Q (.bl (if neg then !b else b)) H->r v u H Q)(hf:mN v u=true->Q (.bl (if neg then !decide (v=u)else decide (v=u))) H->r v u H Q):r v u H Q:=by
 unfold OG at o;split at o;. rename_i J;cases q:fu 9 x y with
  |none=>rw[q]at o;cases o
  |some b=>rw[q]at o;cases o;exact hs b J q (w _ _ (t.sl.stk (.cons .mkB t.sl.st)))
 .unfold eY at o;split at o
  .rename_i w1 z1 U e2;split at o
   .rename_i C;cases o;obtain⟨rfl,_⟩:=dP t.rx U;obtain⟨rfl,_⟩:=dP t.ry e2;exact hf C (w _ _ (t.sl.stk (.cons .mkB t.sl.st)))
   .cases o
  grind
theorem Qw(w:∀G H Q,tM (HZ g ha' hb') G H Q->HK r (Ik ha') (Ik hb') G H Q):∀G H Q,qj (HZ g ha' hb' >>= qk) G H Q->HA (HK r (Ik ha') (Ik hb')) G H Q:= λ G H Q ⟨c,C,S,T,d,I,s,e,k⟩=>by obtain⟨x,o,J,e⟩:=bind_some e;obtain⟨rfl,rfl⟩:=k5 e;exact w G H _ ⟨c,C,S,T,.bl d,o,s,J,λ v H' s'=>⟨d,s'.st.head.bl,k _ s'.pop⟩⟩
theorem Dj(I:cb k X.A)(J:DH X a ha')(U:DH X b hb'):DT X (.Compare a [.NotEq] [b] pos) (HZ (OG true) ha' hb' >>= qk):=Fu (vE (AY (g6 I)) J U (tP _)) (Qw λ G H Q ⟨c,C,S,T,z,o,s,e,k⟩=>
 Nq (W:= λ c o S G T Q z=>∀v H',Sl c o (z::S) G (v::T) H'->Q v H') (λ c C S G T H x y v u z Q t eg w=>Fi t eg w (λ b hs he q=> .inr ⟨H,x,y,b,λ _ _ h=>h,t.rx,t.ry,hs,he,q⟩) λ hs q=> .inl ⟨hs,q⟩) G H Q ⟨c,C,S,T,z,o,s,e,k⟩)
noncomputable def um(fa:M Hn)(fs:M (List D)):M (List D):=do
 let h<- fa
 let xs<- fs
 let x<- qi h
 pure (x::xs)
noncomputable def flatOnly(d:D):Option D:=match flat d with
 |some _=>some d
 |none=>none
noncomputable def Qq(n:Nat)(mf:List D->Option D)(ds:List D):Option D:=if ds.length=n then(mf ds).bind flatOnly else none
noncomputable def cutD(xs:List D)(lo C:Option Int):List D:=(xs.drop (HT.sIx xs.length 0 lo)).take (HT.sIx xs.length xs.length C-HT.sIx xs.length 0 lo)
theorem A8(h:Rs H ds vs)(lo I:Option Int):Rs H (cutD ds lo I) (pS vs lo I):=by
 unfold cutD pS;rw[h.length];have U:∀(n:Nat){ds:List D}{vs:List V},Rs H ds vs->Rs H (ds.drop n) (vs.drop n):=by intro n;induction n with
  |zero=>intro ds vs h;exact h
  |succ n o=>intro ds vs h;cases ds with
   |nil=>rw[h.inv0];exact .nil
   |cons d ds=>obtain⟨v,r,e,J,C⟩:=h.inv;subst e;exact o C
 have tk:∀(n:Nat){ds:List D}{vs:List V},Rs H ds vs->Rs H (ds.take n) (vs.take n):=by intro n;induction n with
  |zero=>intro ds vs h;exact .nil
  |succ n o=>intro ds vs h;cases ds with
   |nil=>rw[h.inv0];exact .nil
   |cons d ds=>obtain⟨v,r,e,J,C⟩:=h.inv;subst e;exact .cons J (o C)
 grind
theorem tp{items:Array Value}{vl vu:Value}{lo hi:Option Int}{prog:Program}{w:World}{A:Around}{E:Value->Shared->Prop}{s:Shared}{Q:Value->Shared->Prop}(C:PyProof.Rows.IsTup s.heap t items)(hs:s.heap.IsSliceOf sl vl vu .none)(pl:IsPart vl lo)(pu:IsPart vu hi)
  (hw:HT.sIx items.size 0 lo=0/\HT.sIx items.size items.size hi=items.size)(h:Q (.ref t) s):wpAny (model prog w) A (getItem (.ref t) (.ref sl)) Q E s:=by
 obtain⟨os,hos,hcs,hds⟩:=id hs;have hTs:s.TypeIs (.ref sl) "slice":=⟨os,hos,hcs⟩;unfold getItem;try with_reducible refine Q1 ?_
 refine zN (wpAny_sequenceKey C.typeIs (by decide) ?_);refine zN (Q6 (name:=Str.ofString "__getitem__") C.typeIs VP (Q5 VP C.typeIs PyProof.Rows.entry_tuple_getitem ?_ (PyProof.Rows.args_tuple_getitem _ _)));show wpAny (model prog w) _ (Builtin.Tuple.tupleItemsOf (.ref t) >>= _) _ _ s;refine zN (PyProof.Rows.tupleItemsOf_ C (zN (WZ hTs ?_)));refine zN (HT.sliceApplied_gen hs pl pu ?_);have hyes:(((HT.sIx items.size 0 lo:Nat):Int)==0&&(1:Int)==1&&(HT.sIx items.size items.size hi-HT.sIx items.size 0 lo)==items.size)=true:=by rw[hw.1,hw.2];simp
 show wpAny (model prog w) _ (if(((HT.sIx items.size 0 lo:Nat):Int)==0&&1==1&&(HT.sIx items.size items.size hi-HT.sIx items.size 0 lo)==items.size)=true then _ else _) _ _ s;rw[gA hyes];refine zN ?_;refine zN (WZ C.typeIs (kT ?_));exact zN (V5 (zN (kT (kT ⟨_,rfl,kT h⟩))))
end
section
variable {X:Cx} {pins:List (Addr × Obj)} {G:St} {H:Hp} {s:Shared} {h':Heap}
theorem _root_.L2.Inv.turnedN{fp:List Addr}{p:Addr}{o:HO}(I:Inv X pins G H s)(k:∀b o,b∉fp->s.heap.get? b=some o->h'.get? b=some o)(hf:∀b∈fp,dj X pins H b)(hp:s.heap.objs.size<=p)(new:b4 X.prog X.w (upd H p o) h' p o):
  Inv X pins G (upd H p o) { s with heap:=h',toks:=t' }:=by
 have C:H p=none:=I.hok.fresh hp;have aa:∀b u,H b=some u->b∉fp:= λ b u e z=>by rw[(hf b z).1]at e;cases e
 refine I.step (g':=s.gens) (d':=s.drawn) (ch:=fp) (λ b U=>?_) (λ b o _ _ J e _=>k b o J e) (λ b o _ _ J e _=>⟨o.slots,k b o J e⟩) (λ b o _ e n=>?_)
  (λ b o J e=>⟨o,k b o J e⟩) (λ b xs e=>by rw[a_ (bz e C)];exact e) (λ b o u e=>by rw[a_ (bz e C)];exact e) (λ b ps e=>⟨#[],by rw[a_ (bz e C),e];simp⟩) (λ m hm=>?_) (λ b u e=>?_) I.bare;. obtain⟨_,f1,_,f3,f4,f5⟩:=hf b U;exact⟨f3,f1,f4,f5⟩
 .rw[a_ λ z=>by subst z;exact QX _ (QK (wR e) hp)];exact n
 .obtain⟨o',es,ep,ho,r⟩:=hm;exact⟨o',es,ep,k _ o' (λ z=>(hf _ z).2.1 rfl) ho,r⟩
 .by_cases U:b=p;. subst U;rw[bf]at e;cases e;exact new
  .rw[a_ U]at e;refine(I.hok b u e).stay (λ c v J q=>k c v ?_ q) (λ c q=>by rw[a_ (bz q C)];exact q) (λ c xs q=>by rw[a_ (bz q C)];exact q) λ c ob v q=>by rw[a_ (bz q C)];exact q
   grind
theorem _root_.L2.Inv.turnedL{fp:List Addr}(I:Inv X pins G H s)(k:∀b o,b∉fp->s.heap.get? b=some o->h'.get? b=some o)(hf:∀b∈fp,dj X pins H b):Inv X pins G H { s with heap:=h',toks:=t' }:=by
 have U:∀b u,H b=some u->b∉fp:= λ b u e z=>by rw[(hf b z).1]at e;cases e
 refine I.step (g':=s.gens) (d':=s.drawn) (ch:=fp) (λ b hb=>?_) (λ b o _ _ C e _=>k b o C e) (λ b o _ _ C e _=>⟨o.slots,k b o C e⟩) (λ _ _ _ _ n=>n)
  (λ b o C e=>⟨o,k b o C e⟩) (λ _ _ e=>e) (λ _ _ _ e=>e) (λ b ps e=>⟨#[],by rw[e];simp⟩) (λ m hm=>?_) (λ b u e=>?_) I.bare;. obtain⟨_,f1,_,f3,f4,f5⟩:=hf b hb;grind
 .obtain⟨J,es,ep,ho,r⟩:=hm;exact⟨J,es,ep,k _ J (λ z=>(hf _ z).2.1 rfl) ho,r⟩
 .refine(I.hok b u e).stay (λ c v C q=>k c v ?_ q) (λ _ q=>q) λ _ _ q=>q;grind
noncomputable def Sq(b:Bool)(K:PySem.W.Frag)(H:Hp)(q:Addr)(xs:List V):Prop:=match b with
 |true=>fQ K H q xs
 |false=>iE K H q xs
theorem _root_.L2.Inv.sq(I:Inv X pins G H s)(h:Sq b X.K H q xs):∃its:List Value,Vals xs its/\kJ b s.heap q its.toArray:=by cases b with
 |true=>obtain⟨its,r,p,_⟩:=I.tuple h;exact⟨its,r,p⟩
 |false=>obtain⟨its,r,p,_⟩:=I.list h;exact⟨its,r,p.isList⟩
theorem _root_.L2.Inv.sq_inj(I:Inv X pins G H s)(h:Sq b X.K H q xs)(h':Sq b X.K H q ys):xs=ys:=by cases b with
 |true=>exact I.tuple_inj h h'
 |false=>exact I.list_inj h h'
noncomputable def Pd(K:PySem.W.Frag)(b1 o:Bool)(C I:Addr):It:=
 ⟨λ i H=>∃xs ys x y,Sq b1 K H C xs/\Sq o K H I ys/\xs[i]?=some x/\ys[i]?=some y,
   λ i H x H'=>∃p v u,x= .ref p/\H p=none/\H'=upd H p (.tup [v,u])/\(∀xs,Sq b1 K H C xs->xs[i]?=some v)/\∀ys,Sq o K H I ys->ys[i]?=some u,
   λ i H=>∃xs ys,Sq b1 K H C xs/\Sq o K H I ys/\(xs.length<=i\/ys.length<=i)⟩
noncomputable def Zt(b1 I:Bool)(z TI TO o C J U:Addr)(k:Nat)(h:Heap):Prop:=IsZip h z TI TO .none/\IsPair h TI (.ref o) (.ref C)/\(∃a c,IsPair h TO a c)/\mM b1 h o J k/\mM I h C U k
theorem Bc{pt:Pos}(b1 b2:Bool){z TI TO J U l1 l2:Addr}(D:Lq z TI TO J U l1 l2)(au:l1∉[z,TI,TO,J,U])(av:l2∉[z,TI,TO,J,U]):
  Turn P w K (.Tuple es x1 pt) (Pd K b1 b2 l1 l2) [z,TI,TO,J,U] z (Zt b1 b2 z TI TO J U l1 l2) where
 mem:=by simp
 obj:= λ i h st b C=>by
  obtain⟨s1,s2,⟨a,c,s3⟩,s4,s5⟩:=st;have af:∀{bb:Bool}{it l:Addr},mM bb h it l i->∃o,h.get? it=some o/\∀v,o.data≠ .cell v:= λ{bb it l} q=>by cases bb with
   |true=>obtain⟨o,e,_,d⟩:=q;exact⟨o,e,λ v z=>by rw[d]at z;cases z⟩
   |false=>obtain⟨o,e,_,d⟩:=q;exact⟨o,e,λ v z=>by rw[d]at z;cases z⟩
  simp only[wW,ZC,YD]at C;rcases C with e|e|e|e|e <;> subst e
  .exact⟨_,s1,λ v q=>by cases q⟩
  .exact⟨_,s2,λ v q=>by cases q⟩
  .exact⟨_,s3,λ v q=>by cases q⟩
  .exact af s4
  .exact af s5
 keep:= λ i h h' st k=>by obtain⟨s1,s2,⟨a,c,s3⟩,s4,s5⟩:=st;exact⟨k z (by simp) _ s1,k TI (by simp) _ s2,⟨a,c,k TO (by simp) _ s3⟩,s4.at (k J (by simp)),s5.at (k U (by simp))⟩
 item:=by
  intro X hP hw hK hc i pins s G H E I hf st hg;subst hP hw hK;obtain⟨xs,ys,x,y,aa,ab,hx,hy⟩:=hg;obtain⟨ah,r1,p1⟩:=I.sq aa;obtain⟨ai,r2,p2⟩:=I.sq ab;obtain⟨u1,e1,aj⟩:=r1.get hx;obtain⟨u2,e2,ak⟩:=r2.get hy;obtain⟨s1,s2,s3,s4,s5⟩:=st;refine BL D ⟨s1,s2,s3,s4,s5,p1,p2⟩ (by simpa using e1) (by simpa using e2) λ h' ao hp kp=>?_;obtain⟨t1,t2,⟨a,c,t3⟩,t4,t5,_,_⟩:=ao;have aq:∀b o,b∉[z,TI,TO,J,U]->s.heap.get? b=some o->h'.get? b=some o:= λ b o C e=>kp b o (λ hm=>C (by simp only[wW,ZC,YD]at hm|-;rcases hm with e|e|e|e <;> simp[e])) e;refine⟨.ref s.heap.objs.size,rfl,wpAny_letOwnedTupleGo_zip (s:={ s with heap:=h' }) t1 λ h2 z2 sb=>?_⟩;obtain⟨n1,n2,n3,n4,n5,n6,n7,n8,n9,aw,m1,m2,m3,m4,m5,m6,m7,m8⟩:=D.ne;have ag:z<s.heap.objs.size:=wR s1;have ae:IsPair h2 s.heap.objs.size u1 u2:=sb.extBut _ _ (VI ag) hp;refine⟨.ref s.heap.objs.size,upd H s.heap.objs.size (.tup [x,y]),I.turnedN (t':=s.toks) (fp:=[z,TI,TO,J,U]) (λ b o C e=>sb.extBut _ _ (λ q=>C (by rw[q];simp)) (aq b o C e)) hf (wN _) ⟨by show 2<=_;decide,[u1,u2],.cons aj (.cons ak .nil),⟨_,ae,rfl,_,rfl⟩,_,ae,rfl⟩,rfl,
   ⟨_,x,y,rfl,I.fresh,rfl,λ zs hz=>by rw[I.sq_inj hz aa];exact hx,λ zs hz=>by rw[I.sq_inj hz ab];exact hy⟩,⟨z2,sb.extBut _ _ n1 t2,⟨a,c,sb.extBut _ _ n2 t3⟩,t4.at λ o e=>sb.extBut _ _ n3 e,t5.at λ o e=>sb.extBut _ _ n4 e⟩,λ b C=>?_⟩;have ar:=(hf b C).1;rw[a_ λ q=>?_];. exact ar
  .have:b<s.heap.objs.size:=by
    simp only[wW,ZC,YD]at C;rcases C with e|e|e|e|e <;> subst e
    .exact ag
    .exact wR s2
    .obtain⟨_,_,s3⟩:=s3;exact wR s3
    .exact s4.lt
    .exact s5.lt
   rw[q]at this;exact QX _ this
 done:=by intro X hP hw hK hc i pins s G H E I hf st hg;subst hP hw hK;obtain⟨xs,ys,aa,ab,hx⟩:=hg;obtain⟨ah,r1,p1⟩:=I.sq aa;obtain⟨ai,r2,p2⟩:=I.sq ab;obtain⟨s1,s2,s3,s4,s5⟩:=st;have l1:=r1.length;have l2:=r2.length;refine Gk (I.ok.hd hc) D ⟨s1,s2,s3,s4,s5,p1,p2⟩ (hx.elim (λ q=> .inl (by simp;omega)) λ q=> .inr (by simp;omega)) λ h' kp=>⟨rfl,I.turnedL (t':=s.toks) (fp:=[z,TI,TO,J,U]) (λ b o C e=>kp b o (λ hm=>C (by simp only[wW,ZC,YD]at hm|-;rcases hm with e|e|e|e <;> simp[e])) e) hf⟩
 self:= λ A i s Q E st h=>wpAny_pyIter_zip st.1 h
noncomputable def Pz(K:PySem.W.Frag)(b:Bool)(l:Addr):It:=
 ⟨λ i H=>∃xs x,Sq b K H l xs/\xs[i]?=some x,
   λ i H x H'=>∃p v,x= .ref p/\H p=none/\H'=upd H p (.tup [.int i,v])/\∀xs,Sq b K H l xs->xs[i]?=some v,
   λ i H=>∃xs,Sq b K H l xs/\xs.length<=i⟩
noncomputable def Et(b:Bool)(e it l:Addr)(k:Nat)(h:Heap):Prop:=(∃old,IsEnum h e it k old)/\mM b h it l k
theorem Ee{s:Shared}{es:List Expr}{C}{pos:Pos}{e it T:Addr}{i:Int}{v:Value}{Q:Unit->Shared->Prop}(he:IsEnumOut s.heap e it i v T)
  (I:∀h',(∃old,IsEnum h' e it i old)->Heap.SameBut e s.heap h'->Q () { s with heap:=h' }):wpAny (model prog w) A (letOwnedTupleGo (.Tuple es C pos) (.ref e) (.ref T)) Q E s:=by
 refine zN (wpAny_load he ?_);dsimp only;split;. exact QV he (by simp) λ h' o J=>I h' ⟨v,o⟩ J
 grind
theorem yU(b:Bool){e it l:Addr}(aa:e≠it)(ae:l≠e)(af:l≠it):Turn P w K (.Tuple es x1 pt) (Pz K b l) [e,it] e (Et b e it l) where
 mem:=by simp
 obj:= λ i h st c hc=>by
  obtain⟨⟨old,s1⟩,s2⟩:=st;simp only[wW,ZC,YD]at hc;rcases hc with q|q <;> subst q
  .exact⟨_,s1,λ v q=>by cases q⟩
  .cases b with
   |true=>obtain⟨o,e,_,d⟩:=s2;exact⟨o,e,λ v z=>by rw[d]at z;cases z⟩
   |false=>obtain⟨o,e,_,d⟩:=s2;exact⟨o,e,λ v z=>by rw[d]at z;cases z⟩
 keep:= λ i h h' st k=>by obtain⟨⟨old,s1⟩,s2⟩:=st;exact⟨⟨old,k e (by simp) _ s1⟩,s2.at (k it (by simp))⟩
 item:=by
  intro X hP hw hK hc i pins s G H E I hf st hg;subst hP hw hK;obtain⟨xs,x,C,hx⟩:=hg;obtain⟨ag,r1,p1⟩:=I.sq C;obtain⟨u1,e1,ah⟩:=r1.get hx;obtain⟨s1,s2⟩:=st;refine x9 aa ae af ⟨s1,s2,p1⟩ (by simpa using e1) λ h' t1 t2 t3 hp kp=>?_;have ab:e<s.heap.objs.size:=by obtain⟨_,s1⟩:=s1;exact wR s1
  refine⟨.ref s.heap.objs.size,rfl,Ee (s:={ s with heap:=h',toks:=s.toks+1 }) t1 λ h2 z2 sb=>?_⟩;have U:IsPair h2 s.heap.objs.size (.int i s.toks) u1:=sb.extBut _ _ (VI ab) hp;refine⟨.ref s.heap.objs.size,upd H s.heap.objs.size (.tup [.int i,x]),I.turnedN (t':=s.toks+1) (fp:=[e,it]) (λ c o J q=>sb.extBut _ _ (λ z=>J (by rw[z];simp)) (kp c o (λ z=>J (by rw[z];simp)) (λ z=>J (by rw[z];simp)) q)) hf (wN _) ⟨by show 2<=_;decide,[.int i s.toks,u1],.cons ⟨_,rfl⟩ (.cons ah .nil),⟨_,U,rfl,_,rfl⟩,_,U,rfl⟩,rfl,
   ⟨_,x,rfl,I.fresh,rfl,λ zs hz=>by rw[I.sq_inj hz C];exact hx⟩,⟨by obtain⟨old,z2⟩:=z2;exact⟨old,by simpa using z2⟩,t2.at λ o q=>sb.extBut _ _ aa.symm q⟩,λ c J=>?_⟩;have ai:=(hf c J).1;rw[a_ λ q=>?_];. exact ai
  .have:c<s.heap.objs.size:=by
    simp only[wW,ZC,YD]at J;rcases J with e|e <;> subst e
    .exact ab
    .exact s2.lt
   rw[q]at this;exact QX _ this
 done:=by intro X hP hw hK hc i pins s G H E I hf st hg;subst hP hw hK;obtain⟨xs,C,hx⟩:=hg;obtain⟨ag,r1,p1⟩:=I.sq C;obtain⟨s1,s2⟩:=st;have l1:=r1.length;exact B1 (I.ok.hd hc) ⟨s1,s2,p1⟩ (by simp;omega) λ h' kp=>⟨rfl,I.turnedL (t':=s.toks) (fp:=[e,it]) (λ c o J q=>kp c o (λ z=>J (by rw[z];simp)) q) hf⟩
 self:= λ A i s Q E st h=>by obtain⟨⟨old,s1⟩,_⟩:=st;exact wpAny_pyIter_enum s1 h
end
section
variable {X:Cx} {a b c0 e:Expr} {fa fb fc:M D} {fs:M (List D)} {pos p p2 pt:Pos} {es:List Expr} {x:Str} {x1:Nat}
noncomputable def pV:D->Option (Bool × List D)
 | .tup ds=>some (true,ds)
 | .lst ds=>some (false,ds)
 | _=>none
theorem ie {c:Ct} {Y:DS} {G:St} {H:Hp} {K:PySem.W.Frag} {d:D} {v:V} {b:Bool} {xs:List D} (r:R (dC c Y G H) d v) (e:pV d=some (b,xs)):∃p vs,v=.ref p/\Sq b K H p vs/\Rs (dC c Y G H) xs vs:= by
 cases d with
 | tup ds=>
  cases e
  obtain ⟨p,vs,ev,h1,h2⟩:=r.tup
  exact ⟨p,vs,ev,.of (bq _ _ h1),h2⟩
 | lst ds=>
  cases e
  obtain ⟨p,vs,ev,h1,h2⟩:=r.lst
  exact ⟨p,vs,ev,.inl (Rd.mono bq h1),h2⟩
 | _=>cases e
noncomputable def jo:List D->List D->List D
 | x :: xs,y :: ys=>.tup [x,y] :: jo xs ys
 | _,_=>[]
theorem sR:∀{xs ys:List D} {i:Nat} {d:D},(jo xs ys)[i]? = some d->∃x y,xs[i]? = some x/\ys[i]? = some y/\d=.tup [x,y]
 | x :: xs,y :: ys,0,d,h=>by cases h;exact ⟨x,y,rfl,rfl,rfl⟩
 | x :: xs,y :: ys,i + 1,d,h=>by
  obtain ⟨x',y',h1,h2,h3⟩:=sR (xs:=xs) (ys:=ys) (i:=i) (by simpa [jo] using h)
  exact ⟨x',y',by simpa using h1,by simpa using h2,h3⟩
 | [],_,i,d,h=>by simp [jo] at h
 | _ :: _,[],i,d,h=>by simp [jo] at h
theorem qN:∀(xs ys:List D),(jo xs ys).length=min xs.length ys.length
 | x :: xs,y :: ys=>by simp [jo,qN xs ys,Nat.add_min_add_right]
 | [],_=>by simp [jo]
 | _ :: _,[]=>by simp [jo]
theorem K2 {ta:TA} (hg:Gl X "zip") (hm:X.mg "zip" = none) (ha:PA X [a,b] ta) (hs:autoParam (starEach [a,b] X.env=[(false,eval a X.env),(false,eval b X.env)]) aQ0._auto_1) (hs2:autoParam (i4 X b) aQ0._auto_1) :
  PI X (.Tuple es x1 pt) (.Call (.Name "zip" p) [a,b] [] pos) (fun G H R=>ta G H fun vs H1=>∃b1 b2 l1 l2 xs ys,vs=[.ref l1,.ref l2]/\Sq b1 X.K H1 l1 xs/\Sq b2 X.K H1 l2 ys/\R (Pd X.K b1 b2 l1 l2) H1):= by
 intro pins s G H R I h
 refine WS (fv I hg hm (show bootBuiltins "zip" = some (.type "zip") by decide +kernel) (ZN (b9 (ha pos pins s G H _ I h) fun us s1 ⟨vs,H1,I1,r1,q1⟩=>?_) (by rw [hs,hs2]) (by rw [hs2];rfl)))
 obtain ⟨b1,b2,l1,l2,xs,ys,e,h1,h2,q⟩:=q1
 subst e
 obtain ⟨u1,u2,rfl,ru1,ru2⟩:=r1.two
 cases ru1
 cases ru2
 obtain ⟨i1s,rv1,p1⟩:=I1.sq h1
 obtain ⟨i2s,rv2,p2⟩:=I1.sq h2
 refine EC p1 p2 fun h' z TI TO i1 i2 D st kp hnew=>?_
 have I2:Inv X pins G H1 { s1 with heap:=h' }:=I1.kept (t':=s1.toks) kp
 obtain ⟨t1,t2,t3,t4,t5,_,_⟩:=st
 refine wpAny_pyIter_zip (s:={ s1 with heap:=h' }) t1 ⟨z,[z,TI,TO,i1,i2],_,_,H1,rfl,I2,Bc b1 b2 D ?_ ?_,⟨t1,t2,t3,t4,t5⟩,fun c hc=>?_,q⟩
 .intro hc
  exact QX _ (QK p1.lt (hnew _ hc))
 .intro hc
  exact QX _ (QK p2.lt (hnew _ hc))
 .exact I1.fpOk (hnew c hc) (I1.hok.fresh (hnew c hc))
noncomputable def uW:List D->Option iQ
 | [x,y]=>match pV x,pV y with
  | some (_,xs),some (_,ys)=>some (bp (jo xs ys))
  | _,_=>none
 | _=>none
theorem E7 {K:PySem.W.Frag} {b1 b2:Bool} {dx dy:D} {xs ys:List D} {l1 l2:Addr} (e1:pV dx=some (b1,xs)) (e2:pV dy=some (b2,ys)):Jw (Pd K b1 b2 l1 l2) (bp (jo xs ys)) [dx,dy] [.ref l1,.ref l2]:=fun c Y S G T H i s=>by
 obtain ⟨p1,vs,q1,h1,r1⟩:=ie (K:=K) s.st.head e1
 obtain ⟨p2,us,q2,h2,r2⟩:=ie (K:=K) s.st.tail.head e2
 cases q1
 cases q2
 refine ⟨fun act d ha hd=>?_,fun ei _=>⟨vs,us,h1,h2,?_⟩⟩
 .obtain ⟨x,y,g1,g2,rfl⟩:=sR (eA ha hd)
  obtain ⟨v,gv,rv⟩:=r1.get g1
  obtain ⟨u,gu,ru⟩:=r2.get g2
  refine ⟨⟨vs,us,v,u,h1,h2,gv,gu⟩,fun z H' yl=>?_⟩
  obtain ⟨q,v',u',rfl,hq,rfl,y1,y2⟩:=yl
  have ev:=y1 vs h1
  have eu:=y2 us h2
  rw [gv] at ev;cases ev
  rw [gu] at eu;cases eu
  exact (s.stk (.cons rv (.cons ru s.st))).newTup (ds:=[x,y]) (vs:=[v,u]) rfl hq
 .rw [r1.length,r2.length]
  have:(bp (jo xs ys)).1.length=min xs.length ys.length:=by simp [bp,qN]
  omega
theorem K1 (hm:X.mg "zip" = none) (ha:DA X [a,b] fs) (hg:autoParam (Gl X "zip") aQ0._auto_1) (hs:autoParam (starEach [a,b] X.env=[(false,eval a X.env),(false,eval b X.env)]) aQ0._auto_1) (hs2:autoParam (i4 X b) aQ0._auto_1) :
  DI X (.Tuple es x1 pt) (.Call (.Name "zip" p) [a,b] [] pos) (mC uW fs):=qp (K2 hg hm ha hs hs2) fun G H Rr ⟨c,Y,S,T,it,δ',s,e,k⟩=>by
 obtain ⟨ds,δ1,e1,e⟩:=bind_some e
 obtain ⟨e2,rfl⟩:=aZ e
 refine ⟨c,Y,S,T,ds,δ1,s,e1,fun vs H1 l s1=>?_⟩
 unfold uW at e2
 split at e2
 .rename_i dx dy
  split at e2
  .rename_i b1 xs b2 ys q1 q2
   cases e2
   obtain ⟨v,u,rfl,r1,r2⟩:=OE (s1.st.left l)
   obtain ⟨p1,vs,rfl,h1,_⟩:=ie (K:=X.K) r1 q1
   obtain ⟨p2,us,rfl,h2,_⟩:=ie (K:=X.K) r2 q2
   exact ⟨b1,b2,p1,p2,vs,us,rfl,h1,h2,k _ [dx,dy] [.ref p1,.ref p2] H1 rfl (E7 q1 q2) s1⟩
  .cases e2
 .cases e2
noncomputable def jQ:Nat->List D->List D
 | _,[]=>[]
 | n,x :: xs=>.tup [.int n,x] :: jQ (n + 1) xs
theorem sG:∀{xs:List D} {n i:Nat} {d:D},(jQ n xs)[i]? = some d->∃x,xs[i]? = some x/\d=.tup [.int ((n + i:Nat):Int),x]
 | x :: xs,n,0,d,h=>by cases h;exact ⟨x,rfl,rfl⟩
 | x :: xs,n,i + 1,d,h=>by
  obtain ⟨x',h1,h2⟩:=sG (xs:=xs) (n:=n + 1) (i:=i) (by simpa [jQ] using h)
  exact ⟨x',by simpa using h1,by rw [h2];congr 4;omega⟩
 | [],n,i,d,h=>by simp [jQ] at h
theorem rj:∀(xs:List D) (n:Nat),(jQ n xs).length=xs.length
 | [],_=>rfl
 | x :: xs,n=>by simp [jQ,rj xs]
theorem FH {ta:TA} (hg:Gl X "enumerate") (hm:X.mg "enumerate" = none) (ha:PA X [a] ta) (hs:autoParam (i4 X a) aQ0._auto_1) :
  PI X (.Tuple es x1 pt) (.Call (.Name "enumerate" p) [a] [] pos) (fun G H R=>ta G H fun vs H1=>∃b1 l1 xs,vs=[.ref l1]/\Sq b1 X.K H1 l1 xs/\R (Pz X.K b1 l1) H1):= by
 intro pins s G H R I h
 refine WS (fv I hg hm (show bootBuiltins "enumerate" = some (.type "enumerate") by decide +kernel) (ZN (b9 (ha pos pins s G H _ I h) fun us s1 ⟨vs,H1,I1,r1,q1⟩=>?_) hs rfl))
 obtain ⟨b1,l1,xs,e,h1,q⟩:=q1
 subst e
 obtain ⟨u1,rfl,ru1⟩:=r1.one
 cases ru1
 obtain ⟨i1s,rv1,p1⟩:=I1.sq h1
 refine Ag p1 fun h' e it n1 n2 n3 st kp f1 f2=>?_
 have I2:Inv X pins G H1 { s1 with heap:=h' }:=I1.kept (t':=s1.toks) kp
 obtain ⟨⟨old,t1⟩,t2,_⟩:=st
 refine wpAny_pyIter_enum (s:={ s1 with heap:=h' }) t1 ⟨e,[e,it],_,_,H1,rfl,I2,yU b1 n1 n2 n3,⟨⟨old,t1⟩,t2⟩,fun c hc=>?_,q⟩
 have hc':s1.heap.objs.size ≤ c:= by
  simp only [wW,ZC,YD] at hc
  rcases hc with z | z <;> rw [z] <;> assumption
 exact I1.fpOk hc' (I1.hok.fresh hc')
noncomputable def p_:List D->Option iQ
 | [x]=>match pV x with
  | some (_,xs)=>some (bp (jQ 0 xs))
  | _=>none
 | _=>none
theorem Fj {K:PySem.W.Frag} {b1:Bool} {dx:D} {xs:List D} {l1:Addr} (e1:pV dx=some (b1,xs)):Jw (Pz K b1 l1) (bp (jQ 0 xs)) [dx] [.ref l1]:=fun c Y S G T H i s=>by
 obtain ⟨p1,vs,q1,h1,r1⟩:=ie (K:=K) s.st.head e1
 cases q1
 refine ⟨fun act d ha hd=>?_,fun ei _=>⟨vs,h1,?_⟩⟩
 .obtain ⟨x,g1,rfl⟩:=sG (eA ha hd)
  obtain ⟨v,gv,rv⟩:=r1.get g1
  refine ⟨⟨vs,v,h1,gv⟩,fun z H' yl=>?_⟩
  obtain ⟨q,v',rfl,hq,rfl,y1⟩:=yl
  have ev:=y1 vs h1
  rw [gv] at ev;cases ev
  rw [Nat.zero_add]
  exact (s.stk (.cons .mkI (.cons rv s.st))).newTup (ds:=[.int i,x]) (vs:=[.int i,v]) rfl hq
 .rw [r1.length]
  have:(bp (jQ 0 xs)).1.length=xs.length:=by simp [bp,rj]
  omega
theorem vO (hm:X.mg "enumerate" = none) (ha:DA X [a] fs) (hg:autoParam (Gl X "enumerate") aQ0._auto_1) (hs:autoParam (i4 X a) aQ0._auto_1) :
  DI X (.Tuple es x1 pt) (.Call (.Name "enumerate" p) [a] [] pos) (mC p_ fs):=qp (FH hg hm ha hs) fun G H Rr ⟨c,Y,S,T,it,δ',s,e,k⟩=>by
 obtain ⟨ds,δ1,e1,e⟩:=bind_some e
 obtain ⟨e2,rfl⟩:=aZ e
 refine ⟨c,Y,S,T,ds,δ1,s,e1,fun vs H1 l s1=>?_⟩
 unfold p_ at e2
 split at e2
 .rename_i dx
  split at e2
  .rename_i b1 xs q1
   cases e2
   obtain ⟨v,rfl,r1⟩:=tE (s1.st.left l)
   obtain ⟨p1,vs,rfl,h1,_⟩:=ie (K:=X.K) r1 q1
   exact ⟨b1,p1,vs,rfl,h1,k _ [dx] [.ref p1] H1 rfl (Fj q1) s1⟩
  .cases e2
 .cases e2
noncomputable def b6 (T:Ty) (d:D):Bool:=(rG T d).getD false
theorem xV (T:Ty) (d:D):rG T d=some (b6 T d):=by cases T <;> cases d <;> rfl
noncomputable def MB (r1 r2:D->D->Option D) (fa fb fc:M D):M D:=do
 let x <- fa
 let y <- fb
 let z <- lift (r1 x y)
 match z with
 | .bl true=>do
  let w <- fc
  lift (r2 y w)
 | .bl false=>pure (.bl false)
 | _=>lift none
theorem AQ {op op':CmpOp} {g g':Int->Int->V} {h h':Int->Int->D} (ho:ij X (compareOp op) (y_ g)) (ho':ij X (compareOp op') (y_ g')) (hg:∀H i j,R H (h i j) (g i j)) (hg':∀H i j,R H (h' i j) (g' i j)) (ha:DE X a fa) (hb:DE X b fb) (hc:DE X c0 fc)
  (hm:autoParam (lastMarks [op,op'] [b,c0]=false) aQ4._auto_1):DE X (.Compare a [op,op'] [b,c0] pos) (MB (di (fun _ _=>true) h) (di (fun _ _=>true) h') fa fb fc):=cw (zQ ho ho' ha hb hc hm) fun G H Q ⟨c,Y,S,T,d,δ',s,e,k⟩=>by
 obtain ⟨x,δ1,e1,e⟩:=bind_some e
 obtain ⟨y,δ2,e2,e⟩:=bind_some e
 obtain ⟨z,δ3,e3,e⟩:=bind_some e
 obtain ⟨e4,rfl⟩:=aZ e3
 obtain ⟨i,j,rfl,rfl,_,rfl⟩:=fM e4
 refine ⟨c,Y,S,T,.int i,δ1,s,e1,fun v H1 s1=>⟨c,δ1,.int i :: S,v :: T,.int j,δ2,s1,e2,fun u H2 s2=>?_⟩⟩
 refine ⟨i,j,s2.st.tail.head.int,s2.st.head.int,?_⟩
 have rg:=hg (dC c δ2 G H2) i j
 cases hz:h i j with
 | bl q=>
  rw [hz] at e rg
  refine ⟨q,rg.bl,?_⟩
  cases q with
  | true=>
   obtain ⟨w,δ4,e5,e⟩:=bind_some e
   obtain ⟨e6,rfl⟩:=aZ e
   rw [gA rfl]
   obtain ⟨i',j',ei,rfl,_,rfl⟩:=fM e6
   cases ei
   exact ⟨c,δ2,.int j :: .int i :: S,u :: v :: T,.int j',δ4,s2,e5,fun w' H4 s4=>⟨j,j',s4.st.tail.head.int,s4.st.head.int,k _ _ (s4.stk (.cons (hg' _ _ _) s4.st.tail.tail.tail))⟩⟩
  | false=>
   obtain ⟨rfl,rfl⟩:=aU e
   rw [gL uS]
   exact k _ _ (s2.stk (.cons .mkB s2.st.tail.tail))
 | _=>rw [hz] at e;cases e
theorem Gr (ha:DE X a fa) (hb:DE X b fb) (hc:DE X c0 fc) (hm:autoParam (lastMarks [.LtE,.Lt] [b,c0]=false) aQ4._auto_1):DE X (.Compare a [.LtE,.Lt] [b,c0] pos) (MB P2 y9 fa fb fc):=AQ M4 w9 (fun _ _ _=>.mkB) (fun _ _ _=>.mkB) ha hb hc hm
noncomputable def AU:D->Bool
 | .non=>true
 | _=>false
theorem sF {H:Hp} {d:D} {v:V} (r:R H d v):decide (v=.non)=AU d:= by
 cases d with
 | non=>rw [r.non];rfl
 | bl b=>rw [r.bl];rfl
 | int b=>rw [r.int];rfl
 | str b=>rw [r.str];rfl
 | tup b=>obtain ⟨_,_,rfl,_⟩:=r.tup;rfl
 | lst b=>obtain ⟨_,_,rfl,_⟩:=r.lst;rfl
 | dct=>obtain ⟨_,rfl,_⟩:=r.dct;rfl
 | dic _=>obtain ⟨_,rfl,_⟩:=r.dic;rfl
 | dip _=>obtain ⟨_,rfl,_⟩:=r.dip;rfl
noncomputable def vk (neg:Bool):D->D->Option D
 | x,.non=>some (.bl (if neg then !AU x else AU x))
 | _,_=>none
theorem Fz:nc (fun x y H Q=>y=.non/\Q (.bl (decide (x=.non))) H) (vk false):=fun c Y S G T H x y v u d Q s e k=>by
 cases y with
 | non=>
  cases e
  refine ⟨s.st.head.non,?_⟩
  rw [sF s.st.tail.head]
  exact k _ _ (s.stk (.cons .mkB s.st.tail.tail))
 | _=>cases e
theorem C5:nc (fun x y H Q=>y=.non/\Q (.bl (!decide (x=.non))) H) (vk true):=fun c Y S G T H x y v u d Q s e k=>by
 cases y with
 | non=>
  cases e
  refine ⟨s.st.head.non,?_⟩
  rw [sF s.st.tail.head]
  exact k _ _ (s.stk (.cons .mkB s.st.tail.tail))
 | _=>cases e
theorem vz (ha:DE X a fa) (hb:DE X b fb):DE X (.Compare a [.IsNot] [b] pos) (m2 (vk true) fa fb):=iL FU C5 ha hb
theorem Jy (ha:DE X a fa) (hb:DE X b fb):DT X (.Compare a [.Is] [b] pos) (m2 (vk false) fa fb >>= qk):=fW JC Fz ha hb
noncomputable def Hj (tt:M Bool) (body:M Fl):Nat->M Fl
 | 0=>lift none
 | n + 1=>do
  let b <- tt
  if b=true then do
   let fl <- body
   match fl with
   | .nx=>Hj tt body n
   | .ct=>Hj tt body n
   | .bk=>pure .nx
   | .rt d=>pure (.rt d)
   | .rf d=>pure (.rf d)
  else pure .nx
theorem qG {t:Expr} {sts:List Stmt} {tt:M Bool} {body:M Fl} (n:Nat) (ht:DT X t tt) (hb:m_ X sts body) (hp:PassesOwn (model X.prog X.w) X.A X.env X.xe:=by exact PassesOwn.never):nV X (.While t sts [] pos) (Hj tt body n) :=
 i5 (Av hp ht hb) fun E σ0 H0 ⟨c,δ0,S,T,fl,δ',s0,e0,k⟩=>by
  refine ⟨fun m G H=>∃Y,Sl c Y S G T H/\Hj tt body m Y=some (fl,δ'),⟨n,δ0,s0,e0⟩,?_⟩
  rintro m G H ⟨Y,s,e⟩
  cases m with
  | zero=>cases e
  | succ m=>
   obtain ⟨b,δ1,e1,e⟩:=bind_some e
   refine ⟨c,Y,S,T,b,δ1,s,e1,fun H1 s1=>?_⟩
   cases b with
   | false=>
    rw [gL uS] at e ⊢
    obtain ⟨rfl,rfl⟩:=aU e
    exact k _ _ s1
   | true=>
    rw [gA rfl] at e ⊢
    obtain ⟨fl1,δ2,e2,e⟩:=bind_some e
    refine ⟨fun σ' H'=>∃δi,Sl c δi S σ' T H' /\ Hj tt body m δi=some (fl,δ'),fun σ' H' q=>⟨m,Z2 m,q⟩,c,δ1,S,T,fl1,δ2,s1,e2,?_⟩
    cases fl1 with
    | nx=>exact fun σ' H' s'=>⟨δ2,s',e⟩
    | ct=>exact fun σ' H' s'=>⟨δ2,s',e⟩
    | bk=>obtain ⟨rfl,rfl⟩:=aU e;exact k
    | rt d'=>obtain ⟨rfl,rfl⟩:=aU e;exact k
    | rf xs=>obtain ⟨rfl,rfl⟩:=aU e;exact k
inductive Qe (f:M (Option Int)) (G:St) (H:Hp) (Q:Option Int->Hp->Prop):Prop
 | mk (c:Ct) (Y:DS) (S:List D) (T:List V) (o:Option Int) (δ':DS) (s:Sl c Y S G T H) (e:f Y=some (o,δ')) (q:∀H',Sl c δ' S G T H' -> Q o H'):Qe f G H Q
noncomputable abbrev DO (X:Cx) (e:Option Expr) (f:M (Option Int)):Prop:=PO X e (Qe f)
theorem MF {e:Option Expr} {t t':TO} (h:PO X e t) (w:∀G H Q,t' G H Q->t G H Q):PO X e t':=fun pins s G H Q I q=>h pins s G H Q I (w G H Q q)
theorem EH:DO X none (pure none):=MF Fs fun G H Q ⟨c,Y,S,T,o,δ',s,e,k⟩=>by
 obtain ⟨rfl,rfl⟩:=aU e
 exact k _ s
noncomputable def N_:D->M (Option Int)
 | .int i=>pure (some i)
 | _=>lift none
theorem E4 (h:DE X e fa):DO X (some e) (fa >>= N_):=MF (Gw h) fun G H Q ⟨c,Y,S,T,o,δ',s,e,k⟩=>by
 obtain ⟨d,δ1,e1,e⟩:=bind_some e
 refine ⟨c,Y,S,T,d,δ1,s,e1,fun v H' s'=>?_⟩
 cases d with
 | int i=>
  obtain ⟨rfl,rfl⟩:=aU e
  exact ⟨i,s'.st.head.int,k _ s'.pop⟩
 | _=>cases e
noncomputable def O5 (K:PySem.W.Frag):V->Option Int->Option Int->Hp->VK->Prop:=fun x lo hi H Q=>∃a xs,x=.ref a/\fQ K H a xs/\(HT.sIx xs.length 0 lo=0/\HT.sIx xs.length xs.length hi=xs.length)/\Q (.ref a) H
theorem Dx:I_ X (O5 X.K):= by
 intro pins s G H x v vl vu lo hi sl Q I rx hs pl pu h
 obtain ⟨a,xs,rfl,hx,hw,q⟩:=h
 cases rx
 obtain ⟨its,r,ht,hz⟩:=I.tuple hx
 have hlen:its.toArray.size=xs.length:=by rw [xS];exact r.length.symm
 refine ⟨"tuple",_,PyProof.Rows.slot_tuple_getitem.lookup,ht.typeIs,?_⟩
 exact tp ht hs pl pu (by rw [hlen];exact hw) ⟨.ref a,H,I,rfl,q⟩
noncomputable def Ot (x:D) (lo hi:Option Int):Option D:=match x with
 | .tup xs=>some (.tup (cutD xs lo hi))
 | .lst xs=>some (.lst (cutD xs lo hi))
 | _=>none
noncomputable def OA (fa:M D) (fl fh:M (Option Int)):M D:=do
 let x <- fa
 let lo <- fl
 let hi <- fh
 lift (Ot x lo hi)
theorem yw {B:Type} (xs:List B) (lo hi:Option Int) (h1:HT.sIx xs.length 0 lo=0) (h2:HT.sIx xs.length xs.length hi=xs.length):(xs.drop (HT.sIx xs.length 0 lo)).take (HT.sIx xs.length xs.length hi - HT.sIx xs.length 0 lo)=xs:= by
 rw [h1,h2];simp
theorem B5 {lo hi:Option Expr} {fl fh:M (Option Int)} (he:DE X e fa) (hl:DO X lo fl) (hh:DO X hi fh):DE X (.Subscript e (.Slice lo hi none p2) pos) (OA fa fl fh):=cw (zI ((Ki.or Dx).or E2) he hl hh) fun G H Q ⟨c,Y,S,T,d,δ',s,e,k⟩=>by
 obtain ⟨x,δ1,e1,e⟩:=bind_some e
 obtain ⟨l,δ2,e2,e⟩:=bind_some e
 obtain ⟨h,δ3,e3,e⟩:=bind_some e
 obtain ⟨e4,rfl⟩:=aZ e
 refine ⟨c,Y,S,T,x,δ1,s,e1,fun v H1 s1=>⟨c,δ1,x :: S,v :: T,l,δ2,s1,e2,fun H2 s2=>⟨c,δ2,x :: S,v :: T,h,δ3,s2,e3,fun H3 s3=>?_⟩⟩⟩
 cases x with
 | tup xs=>
  cases e4
  obtain ⟨q,vs,rfl,h1,h2⟩:=s3.st.head.tup
  by_cases hw:HT.sIx vs.length 0 l=0/\HT.sIx vs.length vs.length h=vs.length
  .refine .inl (.inr ⟨q,vs,rfl,.of (bq _ _ h1),hw,k _ _ ?_⟩)
   rw [h2.length] at hw
   rw [show cutD xs l h=xs from yw xs l h hw.1 hw.2]
   exact s3
  .refine .inl (.inl ⟨q,vs,rfl,.of (bq _ _ h1),hw,fun m hm=>k _ _ ?_⟩)
   have rc:=A8 h2 l h
   exact (s3.stk (rc.append s3.st.tail)).newTup rc.length hm
 | lst xs=>
  cases e4
  obtain ⟨q,vs,rfl,h1,h2⟩:=s3.st.head.lst
  refine .inr ⟨q,vs,rfl,.inl (Rd.mono bq h1),fun m hm=>k _ _ ?_⟩
  have rc:=A8 h2 l h
  have s4:=s3.stk (rc.append s3.st.tail)
  obtain ⟨f1,f2,f3⟩:=s4.fresh hm
  exact (s4.hide (o:=.lst (pS vs l h)) hm).unhideL rc.length f1
 | _=>cases e4
end
section
variable {X:Cx} {b e:Expr} {pos p:Pos} {x:Str}
theorem yG(i:Nat){px:Pos}(hm:X.mg "tuple"=none)(C:autoParam (Gl X "tuple") aQ0._auto_1)(I:autoParam (Nm X i x) aQ2._auto_1):
  DE X (.Call (.Name "tuple" p) [.Name x px] [] pos) (do let xs<- cZ i;pure (.tup xs)):=cw (d_ iz C hm (by decide+kernel) (cN (fH I) dF) (by decide) (by decide) rfl rfl) λ G H Q ⟨c,Y,S,T,fl,U,s,e,k⟩=>by obtain⟨xs,aa,e1,e⟩:=bind_some e;obtain⟨rfl,rfl⟩:=aU e;obtain⟨⟨b,hi⟩,rfl⟩:=bF e1;obtain⟨q,vs,ev,hq,hx⟩:=s.own hi;exact⟨_,ev,q,vs,rfl,.inl ⟨.of hq,λ m hm=>k _ _ ((s.stk (hx.append s.st)).newTup hx.length hm)⟩⟩
end
noncomputable abbrev dg{B:Type}(n:Nat)(mf:List D->Option B):List D->Option B:= λ ds=>if ds.length=n then mf ds else none
section
variable {K:PySem.W.Frag} {n:Nat}
noncomputable def Ae(K:PySem.W.Frag):Bool:=K.all λ p=> !(p.2.cls==Value.type "list")
theorem rd_of(J:Ae K=true)(h:iE K H a xs):Rd H a (.lst xs):=by
 rcases h with h|⟨o,its,n,C,hc,_⟩
 .exact h
 .have hm:∃p∈K,p.2=o:=by clear J;induction K with
   |nil=>cases C
   |cons q r U=>
    rw[List.lookup_cons]at C;split at C;. cases C;exact⟨q,uT,rfl⟩
    .obtain⟨p,I,e⟩:=U C;exact⟨p,uN _ I,e⟩
  obtain⟨p,I,e⟩:=hm;have:=ZV.mp J p I;simp_all
end
noncomputable def Ok{B:Type}(m:M B)(C:DS)(Q:B->DS->Prop):Prop:=∃a o,m C=some (a,o)/\Q a o
theorem Ok.mono(h:Ok m C Q)(k:∀a o,Q a o->I a o):Ok m C I:=let⟨a,o,e,q⟩:=h;⟨a,o,e,k a o q⟩
section
variable {B:Type} {Y:DS} {Q:B->DS->Prop}
@[simp ↓]theorem bA:Ok (m >>= f) Y Q ↔ Ok m Y fun a δ'=>Ok (f a) δ' Q:= by
 constructor
 .rintro ⟨a,δ',e,q⟩
  obtain ⟨b,δ1,e1,e2⟩:=bind_some e
  exact ⟨b,δ1,e1,a,δ',e2,q⟩
 .rintro ⟨b,δ1,e1,a,δ',e2,q⟩
  exact ⟨a,δ',by rw [M.bind_def,e1];exact e2,q⟩
@[simp ↓]theorem bK:Ok (pure a) Y Q↔Q a Y:=by
 constructor;. rintro⟨b,o,e,q⟩;obtain⟨rfl,rfl⟩:=aU e;exact q
 .exact λ q=>⟨a,Y,rfl,q⟩
@[simp ↓]theorem kj:Ok (lift (some a)) Y Q↔Q a Y:=by
 constructor;. rintro⟨b,o,e,q⟩;obtain⟨C,rfl⟩:=aZ e;simp_all
 .exact λ q=>⟨a,Y,rfl,q⟩
@[simp ↓]theorem GV:Ok (lift none) Y Q↔False:=⟨λ⟨_,_,e,_⟩=>(by cases e),False.elim⟩
theorem jv(h:o=some a)(q:Q a Y):Ok (lift o) Y Q:=by simp_all
@[simp ↓]theorem Qb [Decidable c]:Ok (if c then m else n) Y Q ↔ (if c then Ok m Y Q else Ok n Y Q):=by grind
end
section
variable {Y:DS}
@[simp ↓]theorem ik:Ok (cB i) Y Q↔ ∃d,Y[i]?=some (.pu d)/\Q d Y:=by
 constructor;. rintro⟨d,o,e,q⟩;obtain⟨C,rfl⟩:=jL e;grind
 .rintro⟨d,e,q⟩;exact⟨d,Y,by unfold cB;rw[e],q⟩
@[simp ↓ high]theorem Oh{d:D}{r:DS}{Q:D->DS->Prop}:Ok (cB 0) (.pu d::r) Q↔Q d (.pu d::r):=(⟨λ ⟨_,_,e,q⟩=>by cases e;exact q,λ q=>⟨_,_,rfl,q⟩⟩)
@[simp ↓ high]theorem Od{a0:Jt.Slot}{d:D}{r:DS}{Q:D->DS->Prop}:Ok (cB 1) (a0::.pu d::r) Q↔Q d (a0::.pu d::r):=(⟨λ ⟨_,_,e,q⟩=>by cases e;exact q,λ q=>⟨_,_,rfl,q⟩⟩)
@[simp ↓ high]theorem Oz{a0 a1:Jt.Slot}{d:D}{r:DS}{Q:D->DS->Prop}:Ok (cB 2) (a0::a1::.pu d::r) Q↔Q d (a0::a1::.pu d::r):=(⟨λ ⟨_,_,e,q⟩=>by cases e;exact q,λ q=>⟨_,_,rfl,q⟩⟩)
@[simp ↓ high]theorem Oo{a0 a1 a2:Jt.Slot}{d:D}{r:DS}{Q:D->DS->Prop}:Ok (cB 3) (a0::a1::a2::.pu d::r) Q↔Q d (a0::a1::a2::.pu d::r):=(⟨λ ⟨_,_,e,q⟩=>by cases e;exact q,λ q=>⟨_,_,rfl,q⟩⟩)
@[simp ↓ high]theorem Og{a0 a1 a2 a3:Jt.Slot}{d:D}{r:DS}{Q:D->DS->Prop}:Ok (cB 4) (a0::a1::a2::a3::.pu d::r) Q↔Q d (a0::a1::a2::a3::.pu d::r):=(⟨λ ⟨_,_,e,q⟩=>by cases e;exact q,λ q=>⟨_,_,rfl,q⟩⟩)
@[simp ↓ high]theorem N9{a0 a1 a2 a3 a4:Jt.Slot}{d:D}{r:DS}{Q:D->DS->Prop}:Ok (cB 5) (a0::a1::a2::a3::a4::.pu d::r) Q↔Q d (a0::a1::a2::a3::a4::.pu d::r):=(⟨λ ⟨_,_,e,q⟩=>by cases e;exact q,λ q=>⟨_,_,rfl,q⟩⟩)
@[simp ↓ high]theorem OB{a0 a1 a2 a3 a4 a5:Jt.Slot}{d:D}{r:DS}{Q:D->DS->Prop}:Ok (cB 6) (a0::a1::a2::a3::a4::a5::.pu d::r) Q↔Q d (a0::a1::a2::a3::a4::a5::.pu d::r):=(⟨λ ⟨_,_,e,q⟩=>by cases e;exact q,λ q=>⟨_,_,rfl,q⟩⟩)
@[simp ↓ high]theorem N8{a0 a1 a2 a3 a4 a5 a6:Jt.Slot}{d:D}{r:DS}{Q:D->DS->Prop}:Ok (cB 7) (a0::a1::a2::a3::a4::a5::a6::.pu d::r) Q↔Q d (a0::a1::a2::a3::a4::a5::a6::.pu d::r):=(⟨λ ⟨_,_,e,q⟩=>by cases e;exact q,λ q=>⟨_,_,rfl,q⟩⟩)
@[simp ↓ high]theorem Oc{a0 a1 a2 a3 a4 a5 a6 a7:Jt.Slot}{d:D}{r:DS}{Q:D->DS->Prop}:Ok (cB 8) (a0::a1::a2::a3::a4::a5::a6::a7::.pu d::r) Q↔Q d (a0::a1::a2::a3::a4::a5::a6::a7::.pu d::r):=(⟨λ ⟨_,_,e,q⟩=>by cases e;exact q,λ q=>⟨_,_,rfl,q⟩⟩)
@[simp ↓]theorem ff:Ok (ka i d) Y Q↔i<Y.length/\Q () (Y.set i (.pu d)):=by
 constructor;. rintro⟨u,o,e,q⟩;obtain⟨h,rfl⟩:=g9 e;simp_all
 .rintro⟨h,q⟩;exact⟨(),_,by unfold ka;rw[gA h],q⟩
@[simp ↓]theorem Ov:Ok (Ai i d) Y Q↔i<Y.length/\Q () (Y.set i (.ow false d)):=by
 constructor;. rintro⟨u,o,e,q⟩;obtain⟨h,rfl⟩:=oD e;simp_all
 .rintro⟨h,q⟩;exact⟨(),_,by unfold Ai;rw[gA h],q⟩
@[simp ↓]theorem eK:Ok (cZ i) Y Q↔ ∃b xs,Y[i]?=some (.ow b xs)/\Q xs Y:=by
 constructor;. rintro⟨d,o,e,q⟩;obtain⟨⟨b,C⟩,rfl⟩:=bF e;grind
 .rintro⟨b,d,e,q⟩;exact⟨d,Y,by unfold cZ;rw[e],q⟩
@[simp ↓]theorem mE:Ok (setOw i xs) Y Q↔ ∃b ys,Y[i]?=some (.ow b ys)/\Q () (Y.set i (.ow b xs)):=by
 constructor;. rintro⟨u,o,e,q⟩;obtain⟨b,ys,h,rfl⟩:=eI e;grind
 .rintro⟨b,ys,h,q⟩;exact⟨(),_,by unfold setOw;rw[h],q⟩
@[simp ↓]theorem AZ:Ok (oC i) Y Q↔ ∃xs,Y[i]?=some (.ow false xs)/\Q xs (Y.set i .un):=by
 constructor;. rintro⟨d,o,e,q⟩;unfold oC at e;grind
 .rintro⟨d,e,q⟩;exact⟨d,_,by unfold oC;rw[e],q⟩
@[simp ↓]theorem tW:Ok (uj i C) Y Q↔Ok C Y λ d o=>i<o.length/\Q .nx (o.set i (.pu d)):=by unfold uj;simp
@[simp ↓]theorem Ji:Ok (Lp i C) Y Q↔Ok C Y λ d o=>i<o.length/\Q .nx (o.set i (.ow false d)):=by unfold Lp;simp
@[simp ↓]theorem ck:Ok (d8 f g) Y Q↔Ok f Y λ C o=>match C with
  | .nx=>Ok g o Q
  |C=>Q C o:=by
 unfold d8;rw[bA];constructor <;>
 .intro h;refine h.mono λ C o q=>?_;cases C <;> simpa using q
theorem c5(P:DS->Prop)(h:Ok f Y λ C o=>C= .nx/\P o)(k:∀o,P o->Ok g o Q):Ok (d8 f g) Y Q:=by rw[ck];refine h.mono λ C o ⟨e,p⟩=>?_;grind
theorem fg{Q:Fl->DS->Prop}(b:Bool)(U:Ok t Y λ C o=>C=b/\o=Y)(h1:b=true->Ok J Y λ I o=>∃d,I= .rt d/\Q (.rt d) o)(h2:b=false->Ok g Y Q):Ok (d8 (zw t J (pure .nx)) g) Y Q:=by rw[ck];unfold zw;rw[bA];refine U.mono λ C o ⟨e1,e2⟩=>?_;subst e1 e2;cases C with
 |true=>refine Ok.mono (m:=J) (h1 rfl) λ I aa ⟨d,e,q⟩=>?_;simp_all
 |false=>exact(bK (Q:= λ I o=>_)).mpr (h2 rfl)
theorem yv{Q:B->DS->Prop}(P:Bool->DS->Prop)(C:Ok t Y P)(U:∀o,P true o->Ok I o Q)(h2:∀o,P false o->Ok J o Q):Ok (zw t I J) Y Q:=by unfold zw;rw[bA];refine C.mono λ b o p=>?_;grind
@[simp ↓]theorem CB{Q:B->DS->Prop}:Ok (zw t C I) Y Q↔Ok t Y λ b o=>if b=true then Ok C o Q else Ok I o Q:=by unfold zw;simp
@[simp ↓]theorem EE:Ok (Ew ta tb) Y Q↔Ok ta Y λ b o=>if b=true then Ok tb o Q else Q false o:=by unfold Ew;simp
@[simp ↓]theorem JK:Ok (Ox ta tb) Y Q↔Ok ta Y λ b o=>if b=true then Q true o else Ok tb o Q:=by unfold Ox;simp
@[simp ↓]theorem Ft:Ok (G7 ta) Y Q↔Ok ta Y λ b o=>Q (!b) o:=by unfold G7;simp
@[simp ↓]theorem C6:Ok (m2 f I J) Y Q↔Ok I Y λ x o=>Ok J o λ y C=>Ok (lift (f x y)) C Q:=by unfold m2;simp
@[simp ↓]theorem xu:Ok (mC f fs) Y Q↔Ok fs Y λ ds o=>Ok (lift (f ds)) o Q:=by unfold mC;simp
@[simp ↓]theorem MN:Ok (mQ f fs) Y Q↔Ok fs Y λ ds o=>Ok (lift (f ds)) o Q:=by unfold mQ;simp
@[simp ↓]theorem fP:Ok (iG I fs) Y Q↔Ok I Y λ x o=>Ok fs o λ xs C=>Q (x::xs) C:=by unfold iG;simp
@[simp ↓]theorem kD:Ok (Cg fs) Y Q↔Ok fs Y λ xs o=>Ok (lift (few xs.length)) o λ _ C=>Q (.tup xs) C:=by unfold Cg;simp
@[simp ↓]theorem EI:Ok (FK fs) Y Q↔Ok fs Y λ xs o=>Ok (lift (few xs.length)) o λ _ C=>Q xs C:=by unfold FK;simp
@[simp ↓]theorem fA:Ok (lift (few n)) Y Q↔n<=100000/\Q () Y:=by
 unfold few;split;. simp_all
 .rename_i h;rw[GV];exact⟨False.elim,λ q=>h q.1⟩
@[simp ↓]theorem K_:Ok (qk d) Y Q↔ ∃b,d= .bl b/\Q b Y:=by
 constructor;. rintro⟨b,o,e,q⟩;obtain⟨C,rfl⟩:=k5 e;grind
 .rintro⟨b,rfl,q⟩;exact⟨b,Y,rfl,q⟩
@[simp ↓]theorem KI:Ok (N_ d) Y Q↔ ∃i,d= .int i/\Q (some i) Y:=by cases d <;> simp[N_]
@[simp ↓]theorem Eu:Ok (GI i C) Y Q↔(∃b xs,Y[i]?=some (.ow b xs))/\Ok C Y λ y o=>∃b xs,o[i]?=some (.ow b xs)/\Ok (lift (j_ (.lst xs) y)) o Q:=by unfold GI;simp
@[simp ↓]theorem Ba:Ok (vB i) Y Q↔ ∃b xs,Y[i]?=some (.ow b xs)/\Q (.int xs.length) Y:=by unfold vB;simp
@[simp ↓]theorem Lk:Ok (vb i I k) Y Q↔Ok I Y λ d o=>∃b xs,o[i]?=some (.ow b xs)/\Ok (lift (vv xs.length k)) o λ j C=>∃b ys,C[i]?=some (.ow b ys)/\Q .nx (C.set i (.ow b (xs.set j d))):=by unfold vb;simp
theorem fV(h0:∃b xs,Y[i]?=some (.ow b xs))(h:Ok fs Y λ ds o=>∃d b xs,ds=[d]/\o[i]?=some (.ow b xs)/\xs.length<=100000/\Q .nx (o.set i (.ow b (xs++[d])))):Ok (jt i fs) Y Q:=by unfold jt;obtain⟨b,xs,e⟩:=h0;simp only[bA,eK];refine⟨b,xs,e,h.mono λ ds o q=>?_⟩;obtain⟨d,C,ys,rfl,I,J,q⟩:=q;simp only[bA,eK,fA,mE,bK];grind
theorem vp(h0:∃b xs,Y[i]?=some (.ow b xs))(h:Ok fs Y λ ds o=>∃(j:Nat) (b:Bool) (xs:List D) (d:D),ds=[.int j]/\o[i]?=some (.ow b xs)/\j<100000/\xs[j]?=some d/\Q d (o.set i (.ow b (xs.eraseIdx j)))):Ok (F3 i fs) Y Q:=by
 unfold F3;obtain⟨b,xs,e⟩:=h0;simp only[bA,eK];refine⟨b,xs,e,h.mono λ ds o q=>?_⟩;obtain⟨j,C,ys,d,rfl,I,U,J,q⟩:=q;simp only[bA,eK,mE,bK];refine⟨C,ys,I,jv (a:=d) ?_ ⟨C,ys,I,?_⟩⟩;. rw[gA (by omega)];exact J
 .exact q
@[simp ↓]theorem G4:Ok (D5 C I) Y Q↔Ok C Y λ x o=>match x with
  | .bl true=>Ok I o Q
  | .bl false=>Q (.bl false) o
  |_=>False:=by
 unfold D5;rw[bA];constructor <;>
 .intro h;refine h.mono λ x o q=>?_;cases x with
  |bl b=>cases b <;> simpa using q
  |_=>simp_all
@[simp ↓]theorem Oj:Ok (KD C) Y Q↔Ok C Y λ x o=>match x with
  | .bl b=>Q (.bl (!b)) o
  |_=>False:=by
 unfold KD;rw[bA];constructor <;>
 .intro h;refine h.mono λ x o q=>?_;cases x <;> simpa using q
@[simp ↓]theorem EW:Ok (E5 T C) Y Q↔Ok C Y λ d o=>Q (.bl (b6 T d)) o:=by unfold E5;simp[xV]
@[simp ↓]theorem Jz:Ok (Pe I J) Y Q↔Ok I Y λ v C=>Ok (lift (iq v)) C λ t o=>if t=true then Q v o else Ok J o Q:=by unfold Pe;simp
@[simp ↓]theorem Jm:Ok (OA J U fh) Y Q↔Ok J Y λ x o=>Ok U o λ l C=>Ok fh C λ h I=>Ok (lift (Ot x l h)) I Q:=by unfold OA;simp
@[simp ↓]theorem KA:Ok (HZ g U fb) Y Q↔Ok U Y λ h1 o=>Ok fb o λ h2 C=>Ok (qi h1) C λ x I=>Ok (qi h2) I λ y J=>Ok (lift (g x y)) J Q:=by unfold HZ;simp
@[simp ↓]theorem Kx:Ok (qi (.th x)) Y Q↔Q x Y:=by
 constructor;. rintro⟨b,o,e,q⟩;cases e;exact q
 .exact λ q=>⟨x,Y,rfl,q⟩
@[simp ↓]theorem Ko:Ok (qi (.ls i)) Y Q↔ ∃b xs,Y[i]?=some (.ow b xs)/\Q (.lst xs) Y:=by
 constructor;. rintro⟨d,o,e,q⟩;unfold qi at e;grind
 .rintro⟨b,xs,h,q⟩;exact⟨_,Y,by unfold qi;dsimp only;rw[h],q⟩
@[simp ↓]theorem FE:Ok (Gz i) Y Q↔ ∃b xs,Y[i]?=some (.ow b xs)/\Q (.ls i) Y:=by unfold Gz;simp
@[simp ↓]theorem xG:Ok (um J fs) Y Q↔Ok J Y λ h o=>Ok fs o λ xs C=>Ok (qi h) C λ x I=>Q (x::xs) I:=by unfold um;simp
@[simp ↓]theorem FF:Ok (rP i n mf fs) Y Q↔Ok fs Y λ ds o=>∃b xs,o[i]?=some (.ow b xs)/\ds.length+1=n/\∃r,mf xs ds=some r/\Q r.1 (o.set i (.ow b r.2)):=by
 constructor
 .rintro⟨d,aa,e,q⟩;unfold rP at e;split at e;. cases e
  .rename_i ds o I;split at e
   .rename_i b xs J;split at e
    .rename_i U;split at e;. cases e
     .rename_i d' C e3;cases e;exact⟨ds,o,I,b,xs,J,U,(d,C),e3,q⟩
    .cases e
   grind
 .rintro⟨ds,o,e,b,xs,I,U,⟨d,C⟩,J,q⟩;exact⟨d,_,by unfold rP;rw[e];dsimp only;rw[I];dsimp only;rw[gA U,J],q⟩
@[simp ↓]theorem kZ:Ok (gp gt tt te d) Y Q↔Ok (gt d) Y λ _ C=>Ok tt C λ b o=>if b=true then Ok te o λ x I=>Q (some x) I else Q none o:=by unfold gp;simp
@[simp ↓]theorem oQ:Ok (jZ n g (.tup ds)) Y Q↔(if ds.length=n then Ok (g ds) Y Q else False):=by show Ok (if ds.length=n then g ds else lift none) Y Q↔_;simp
@[simp ↓]theorem jI:Ok (md f g (d::ds)) Y Q↔Ok (f d) Y λ _ o=>Ok (g ds) o Q:=by show Ok (f d >>=λ _=>g ds) Y Q↔_;simp
@[simp ↓]theorem mL:Ok (vH []) Y Q↔Q () Y:=by show Ok (pure ()) Y Q↔_;simp
end
section
variable {Y:DS}
theorem bx{B:Type}{lo own:Nat}{J:M iQ}{turn:D->M (Option D)}{Q:List D->DS->Prop}(as:List B)(e:B->D)(g:B->Option D)(hl:Y.length=lo)(hi:Ok J Y λ it C=>it=bp (as.map e)/\C=Y)(hn:as.length<=100000)
  (ht:∀a∈as,Ok (turn (e a)) (Y++List.replicate own .un) λ o I=>o=g a/\I.take lo=Y)(hQ:Q (as.filterMap g) Y):Ok (f_ lo own J turn) Y Q:=by
 have gen:∀es:List B,(∀d∈es,d∈as)->eR own turn (λ _=>true) (bp (es.map e)).1 Y=some (es.filterMap g,Y):=by intro es;induction es with
  |nil=>intro _;rfl
  |cons d es ih=>intro hs;obtain⟨o,I,U,e0,e2⟩:=ht d (hs d uT);show eR own turn (λ _=>true) ((λ _=>some (e d))::(bp (es.map e)).1) Y=_;unfold eR;grind
 unfold f_;simp only[bA];refine⟨(),Y,by unfold gz;rw[gA hl],hi.mono λ it C ⟨U,e2⟩=>?_⟩;subst U e2;exact fA.mpr ⟨by simpa[bp]using hn,as.filterMap g,C,gen as λ _ h=>h,hQ⟩
theorem bX{B A:Type}(p:B->Bool)(f:B->A)(as:List B):(as.filterMap λ a=>if p a=true then some (f a)else none)=(as.filter p).map f:=by induction as with
 |nil=>rfl
 |cons a r o=>grind
theorem gB{fi:M iQ}{turn:D->M (Option D)}{Q:List D->DS->Prop}(ds:List D)(I:Nat->List D->DS->Prop)(hl:Y.length=lo)(hi:Ok fi Y λ it C=>it=bp ds/\C=Y)(hn:ds.length<=100000)(h0:I 0 [] Y)
  (ht:∀k(hk:k<ds.length) acc Y,acc.length<=k->Y.length=lo->I k acc Y->Ok (turn ds[k]) (Y++List.replicate own .un) λ o J=>(J.take lo).length=lo/\I (k+1) (acc++o.toList) (J.take lo))(hQ:∀xs C,xs.length<=ds.length->C.length=lo->I ds.length xs C->Q xs C):Ok (f_ lo own fi turn) Y Q:=by
 have gen:∀(n k:Nat)(acc:List D)(Y:DS),ds.length-k=n->k<=ds.length->acc.length<=k->Y.length=lo->I k acc Y->∃xs C,eR own turn (λ _=>true) (bp (ds.drop k)).1 Y=some (xs,C)/\C.length=lo/\I ds.length (acc++xs) C/\(acc++xs).length<=ds.length:=by intro n;induction n with
  |zero=>
   intro k acc Y hk aa h0 h1 h2;have:k=ds.length:=by omega
   subst this;rw[Z4];exact⟨[],Y,rfl,h1,by simpa using h2,by simpa using h0⟩
  |succ n ih=>
   intro k acc Y hk aa h0 h1 h2;have U:k<ds.length:=by omega
   rw[QM U];obtain⟨o,J,e,q1,q2⟩:=ht k U acc Y h0 h1 h2;have ho:o.toList.length<=1:=by cases o <;> simp
   obtain⟨xs,C,e',r1,r2,r3⟩:=ih (k+1) (acc++o.toList) (J.take lo) (by omega) U (by rw[gE];omega) q1 q2;refine⟨o.toList++xs,C,?_,r1,by simpa using r2,by simpa using r3⟩;show eR own turn (λ _=>true) ((λ _=>some ds[k])::(bp (ds.drop (k+1))).1) Y=_;unfold eR;dsimp only;rw[e];dsimp only;rw[h1,e']
 unfold f_;simp only[bA];refine⟨(),Y,by unfold gz;rw[gA hl],hi.mono λ it C ⟨e1,e2⟩=>?_⟩;subst e1 e2;obtain⟨xs,J,e,r1,r2,r3⟩:=gen ds.length 0 [] C (by omega) (ZG _) (wN _) hl h0;exact fA.mpr ⟨by simpa[bp]using hn,xs,J,e,hQ xs J (by simpa using r3) r1 (by simpa using r2)⟩
theorem uJ{i n k:Nat}{b:Bool}{xs:List D}(h:k<(c8 i n).1.length)(hx:Y[i]?=some (.ow b xs))(o:xs.length=n):(c8 i n).1[k] Y=xs[k]?:=by have e:=List.getElem_map (λ j (Y:DS)=>(match Y[i]? with|some (.ow _ xs)=>if xs.length=n then xs[j]? else none|_=>none:Option D)) (l:=List.range n) (i:=k) (h:=by simpa[c8]using h);refine Eq.trans (congrFun e Y) ?_;grind
theorem sM{B:Type}{lo own i:Nat}{b:Bool}{fi:M iQ}{turn:D->M (Option D)}{Q:List D->DS->Prop}(as:List B)(e:B->D)(g:B->Option D)(hl:Y.length=lo)(hx:Y[i]?=some (.ow b (as.map e)))(hi:Ok fi Y λ it J=>it=c8 i as.length/\J=Y)(hn:as.length<=100000)
  (ht:∀a∈as,Ok (turn (e a)) (Y++List.replicate own .un) λ o U=>o=g a/\U.take lo=Y)(hQ:Q (as.filterMap g) Y):Ok (f_ lo own fi turn) Y Q:=by
 have gen:∀(n k:Nat),as.length-k=n->k<=as.length->eR own turn (c8 i as.length).2 ((c8 i as.length).1.drop k) Y=some ((as.drop k).filterMap g,Y):=by intro n;induction n with
  |zero=>
   intro k hk aa;have:k=as.length:=by omega
   subst this;rw[Z4,W7 (by simp[c8])];have ef:(c8 i as.length).2 Y=true:=by simp[c8,hx]
   unfold eR;rw[gA ef];rfl
  |succ n ih=>
   intro k hk aa;have C:k<as.length:=by omega
   have I:k<(c8 i as.length).1.length:=by simpa[c8]using C
   rw[QM C,QM I];obtain⟨o,U,e1,e0,e2⟩:=ht as[k] (QT C);unfold eR;have ea:(c8 i as.length).1[k] Y=some (e as[k]):=by rw[uJ I hx (by simp)];simp[C]
   rw[ea];dsimp only;rw[e1];dsimp only;rw[hl,e2,ih (k+1) (by omega) C,XN,<- e0];cases o <;> rfl
 unfold f_;simp only[bA];refine⟨(),Y,by unfold gz;rw[gA hl],hi.mono λ it J ⟨e1,e2⟩=>?_⟩;subst e1 e2;refine fA.mpr ⟨by simpa[c8]using hn,as.filterMap g,J,?_,hQ⟩;have:=gen as.length 0 (by omega) (ZG _);simp_all
noncomputable def LP(gt:D->M Unit)(body:M Fl)(its:List (DS->Option D))(o:Fl):M Fl:=match o with
 | .nx=>forM gt body (λ _=>true) its
 | .ct=>forM gt body (λ _=>true) its
 | .bk=>pure .nx
 | .rt d=>pure (.rt d)
 | .rf d=>pure (.rf d)
theorem ym(gt:D->M Unit)(body:M Fl)(its:List (DS->Option D)){d:D}{Y o C:DS}{u:Unit}{I:Fl}(J:gt d Y=some (u,o))(U:body o=some (I,C)):forM gt body (λ _=>true) ((λ _=>some d)::its) Y=LP gt body its I C:=by rw[forM];dsimp only;rw[M.bind_def,J];dsimp only;rw[M.bind_def,U];rfl
theorem mF(ds:List D)(I:Nat->DS->Prop)(h0:I 0 Y)
  (ht:∀k(hk:k<ds.length) Y,I k Y->Ok (gt ds[k]) Y λ _ U=>Ok body U λ fl o=>match fl with
   | .nx=>I (k+1) o
   | .ct=>I (k+1) o
   | .bk=>Q .nx o
   | .rt d=>Q (.rt d) o
   | .rf d=>Q (.rf d) o)(hQ:∀Y,I ds.length Y->Q .nx Y):Ok (forM gt body (bp ds).2 (bp ds).1) Y Q:=by
 have gen:∀(n k:Nat)(Y:DS),ds.length-k=n->k<=ds.length->I k Y->Ok (forM gt body (λ _=>true) (bp (ds.drop k)).1) Y Q:=by intro n;induction n with
  |zero=>
   intro k Y hk aa h;have:k=ds.length:=by omega
   subst this;rw[Z4];exact⟨.nx,Y,rfl,hQ Y h⟩
  |succ n ih=>
   intro k Y hk aa h;have C:k<ds.length:=by omega
   rw[QM C];have ab:=ht k C Y h;obtain⟨u,U,e1,fl,o,e2,q⟩:=ab;have st:forM gt body (λ _=>true) (bp (ds[k]::ds.drop (k+1))).1 Y=LP gt body (bp (ds.drop (k+1))).1 fl o:=ym gt body _ e1 e2;cases fl with
   |nx=>obtain⟨a,J,e,q'⟩:=ih (k+1) o (by omega) C q;exact⟨a,J,st.trans e,q'⟩
   |ct=>obtain⟨a,J,e,q'⟩:=ih (k+1) o (by omega) C q;exact⟨a,J,st.trans e,q'⟩
   |bk=>exact⟨.nx,o,st,q⟩
   |rt d=>exact⟨.rt d,o,st,q⟩
   |rf d=>exact⟨.rf d,o,st,q⟩
 have:=gen ds.length 0 Y (by omega) (ZG _) h0;rwa [List.drop_zero]at this
theorem we(ds:List D)(I:Nat->DS->Prop)(U:Ok fi Y λ it C=>it=bp ds/\C=Y)(h0:I 0 Y)
  (ht:∀k(hk:k<ds.length) Y,I k Y->Ok (gt ds[k]) Y λ _ J=>Ok body J λ fl o=>match fl with
   | .nx=>I (k+1) o
   | .ct=>I (k+1) o
   | .bk=>Q .nx o
   | .rt d=>Q (.rt d) o
   | .rf d=>Q (.rf d) o)(hQ:∀Y,I ds.length Y->Q .nx Y):Ok (do let it<- fi;Jt.forM gt body it.2 it.1) Y Q:=by rw[bA];refine U.mono λ it C ⟨e1,e2⟩=>?_;subst e1 e2;exact mF ds I h0 ht hQ
end
theorem br{body:M Fl}{ds:List D}{d:D}(h:Ok body (entry N ds) λ o _=>o= .rt d):bL N body ds=some d:=by obtain⟨o,C,e,rfl⟩:=h;unfold bL;rw[e]
theorem kE{body:M Fl}{ds:List D}{d:List D}(h:Ok body (entry N ds) λ o _=>o= .rf d):gK N body ds=some d:=by obtain⟨o,C,e,rfl⟩:=h;unfold gK;rw[e]
theorem kr{body:M Fl}{xs ds:List D}{Q:D->List D->Prop}(h:Ok body (fT N xs ds) λ C Y=>∃d o,C= .rt d/\Y[0]?=some (.ow true o)/\Q d o):∃d o,jr N body xs ds=some (d,o)/\Q d o:=by obtain⟨C,I,e,d,o,rfl,J,q⟩:=h;unfold jr;grind
theorem Fg{body:M Fl}{ds:List D}{Q:D->Prop}(h:Ok body (entry N ds) λ o _=>∃d,o= .rt d/\Q d):∃d,bL N body ds=some d/\Q d:=by obtain⟨o,C,e,d,rfl,q⟩:=h;exact⟨d,by unfold bL;rw[e],q⟩
theorem EK{body:M Fl}{ds:List D}{Q:List D->Prop}(h:Ok body (entry N ds) λ o _=>∃d,o= .rf d/\Q d):∃d,gK N body ds=some d/\Q d:=by obtain⟨o,C,e,d,rfl,q⟩:=h;exact⟨d,by unfold gK;rw[e],q⟩
end Jt
namespace Jt
open PySem L2 PySem.Spec PyProof.Rows
noncomputable def LZ{B:Type}(g:Nat->Nat->Bool):PySem.W.KasT B->B
 | .ret a=>a
 | .ask i j k=>LZ g (k (g i j))
section
noncomputable def OC(K:PySem.W.Frag)(H:Hp):List V->List (List Int)->Prop
 |[],o=>o=[]
 |v::vs,o=>∃p ns r,v= .ref p/\fQ K H p (ns.map V.int)/\o=ns::r/\OC K H vs r
theorem ic:∀{vs:List V}{us:List Value},Vals vs us->∀i:Nat,RelV (vs.getD i V.non) (us.getD i Value.none)
 |_,_,.nil,i=>by rfl
 |_,_,.cons r _,0=>by grind
 |_,_,.cons _ h,i+1=>by simpa using ic h i
theorem mi(h:∀i,RelV (f i) (g i)):∀l:List Nat,Vals (l.map f) (l.map g)
 |[]=> .nil
 |i::l=> .cons (h i) (mi h l)
end
noncomputable def tupsD:List D->Option (List (List Int))
 |[]=>some []
 | .tup ds::r=>match b_ ds,tupsD r with
  |some ns,some o=>some (ns::o)
  |_,_=>none
 |_=>none
theorem Ah{K:PySem.W.Frag}{c:Ct}{U:DS}{G:L2.St}{H:Hp}:∀{ds:List D}{vs:List V}{o:List (List Int)},Rs (dC c U G H) ds vs->tupsD ds=some o->OC K H vs o
 |[],vs,o,h,e=>by cases e;rw[h.inv0];rfl
 |d::ds,vs,o,h,e=>by obtain⟨v,r,ev,h1,h2⟩:=h.inv;cases d with
  |tup xs=>unfold tupsD at e;cases C:b_ xs with
   |none=>rw[C]at e;cases e
   |some ns=>cases I:tupsD ds with
    |none=>rw[C,I]at e;cases e
    |some nr=>rw[C,I]at e;cases e;obtain⟨p,us,eu,g1,g2⟩:=h1.tup;subst ev eu;have J:=c_ g2 C;subst J;exact⟨p,ns,nr,rfl,.of (bq _ _ g1),rfl,Ah h2 I⟩
  |_=>cases e
theorem xw:∀{ds:List D}{vs:List V},Rs H ds vs->∀i:Nat,R H (ds.getD i D.non) (vs.getD i V.non)
 |[],vs,h,i=>by rw[h.inv0];rfl
 |d::ds,vs,h,i=>by obtain⟨v,r,ev,o,C⟩:=h.inv;subst ev;cases i with
  |zero=>simpa using o
  |succ i=>simpa using xw C i
theorem zG(h:∀i,R H (f i) (g i)):∀l:List Nat,Rs H (l.map f) (l.map g)
 |[]=> .nil
 |i::l=> .cons (h i) (zG h l)
end Jt
namespace Jt
open PySem L2
section
variable {X:Cx}
noncomputable def never{B:Type}:M B:= λ _=>none
theorem gS:nV X st never:= λ pins s G H E I h=>by obtain⟨c,C,S,T,J,o,s,e,k⟩:=h;cases e
noncomputable def P4(i:Int):Value->Bool
 | .int n _=>n==i
 |_=>false
theorem kz:∀{us:List Value}{ns:List Int},PyProof.Rows.IntsAre us ns->∀(j:Nat)(y:Value),us[j]?=some y->∃n t,ns[j]?=some n/\y= .int n t
 |_,_,.nil,j,y,h=>by grind
 |_,_,.cons n t r,0,y,h=>by grind
 |_,_,.cons n t r,j+1,y,h=>by obtain⟨m,u,o,C⟩:=kz r j y (by grind);grind
theorem AH{B A:Type}(f:B->A):∀(l:List B)(j:Nat),(l.map f).eraseIdx j=(l.eraseIdx j).map f
 |[],_=>rfl
 |_::_,0=>rfl
 |a::r,j+1=>by show f a::(r.map f).eraseIdx j=f a::(r.eraseIdx j).map f;rw[AH f r j]
noncomputable def DZ:V->List V->Hp->VK->Prop:= λ x vs H Q=>∃(l:Addr) (ns:List Int) (i:Int),x= .ref l/\vs=[.int i]/\H l=some (.lst (ns.map V.int))/\i∈ns/\Q .non (upd H l (.lst ((ns.eraseIdx (ns.idxOf i)).map V.int)))
theorem xN:NQ X "list.remove" DZ:=by
 intro pins s G H x vs v us Q I rx rv h;obtain⟨l,ns,i,rfl,rfl,hH,hi,q⟩:=h;cases rx;obtain⟨u,rfl,ru⟩:=rv.one;obtain⟨t,rfl⟩:=ru;obtain⟨z,its,n,r,hl,e⟩:=I.lstM hH;have o:PyProof.Rows.IntsAre its ns:=intsAre_of r;have U:its.length=ns.length:=o.length;have J:ns.idxOf i<its.length:=by rw[U];exact WJ.mpr hi
 refine call_meets F.slot_list_remove ⟨_,e,rfl⟩ F.entry_list_remove (F.args_list_remove_2 _ _)
  (MeetsSeq.list_remove l its.toArray n (.int i t) (P4 i) (λ y hy=>?_) (ns.idxOf i) (by simpa using J) ?_ (λ m hm aa=>?_) (by rw[xS];omega)) ⟨e,?_⟩;. obtain⟨j,J,e⟩:=ZF (show y∈its by simpa using hy);obtain⟨m,t',_,rfl⟩:=kz o j y (by rw[kW J,e]);exact MeetsSeq.EqGives.int m i t' t
 .obtain⟨m,t',C,h2⟩:=kz o (ns.idxOf i) (its[ns.idxOf i]) (kW J);have e3:ns[ns.idxOf i]?=some i:=by rw[kW (by omega),List.getElem_idxOf]
  rw[e3]at C;cases C;have:(its.toArray)[ns.idxOf i]'(by simpa using J)=its[ns.idxOf i]:=by simp
  rw[this,h2];simp[P4]
 .have ab:m<its.length:=by simpa using hm
  obtain⟨k,t',C,h2⟩:=kz o m (its[m]) (kW ab);have:(its.toArray)[m]=its[m]:=by simp
  rw[this,h2];have ae:k≠i:=by have:=List.not_of_lt_findIdx (p:= λ x=>x==i) (xs:=ns) (i:=m) aa;rw[kW (by omega)]at C;simp at C;rw[C]at this;simpa using this
  simpa[P4]using ae
 .refine⟨.non,_,I.lset (ys:=(ns.eraseIdx (ns.idxOf i)).map V.int) (its':=its.eraseIdx (ns.idxOf i)) hH e ?_ ?_ ?_,rfl,q⟩;. rw[List.eraseIdxIfInBounds_toArray]
  .have:=r.eraseIdx (ns.idxOf i);rwa [AH]at this
  grind
end
section
variable {X:Cx} {a:Expr} {fs:M (List D)} {pos p apos cpos:Pos} {x:Str}
noncomputable def p8(i:Nat)(fs:M (List D)):M Fl:=do
 let _<- cZ i
 let ds<- fs
 match ds with
 |[.int j]=>do
  let xs<- cZ i
  let ns<- lift (b_ xs)
  let _<- lift (if j∈ns then some ()else none)
  setOw i ((ns.eraseIdx (ns.idxOf j)).map .int)
  pure .nx
 |_=>lift none
theorem yC(i:Nat)(ha:DA X [a] fs)(hN:autoParam (Nm X i x) aQ2._auto_1)
  (I:((backTo cpos (starEach [a] X.env)).all (λ x=> !x.1)&&(backToKw cpos (keywordEach [] X.env)).all (λ x=>x.1.isSome)
   &&decide (([a]:List Expr).length+([]:List Keyword).length+(if([]:List Keyword).isEmpty then 0 else 1)<30))=true:=by rfl)
  (o:autoParam ((apos.endLine==cpos.line)=true) aQ0._auto_1)(hs:autoParam (i4 X a) aQ0._auto_1)(ab:autoParam (swapsWith (.Call (.Attribute (.Name x p) "remove" apos) [a] [] cpos) none pos.line X.env=pure false) aQ0._auto_1):
  nV X (.Expr (.Call (.Attribute (.Name x p) "remove" apos) [a] [] cpos) pos) (p8 i fs):=
 i5 (qg (B2 WV PySem.F.slot_list_remove PySem.F.type_list_remove xN (fH hN) ha rfl I o hs rfl) ab) λ E G H ⟨c,Y,S,T,fl,ai,s,e,k⟩=>by
  obtain⟨aj,ak,e0,e⟩:=bind_some e;obtain⟨⟨b0,ae⟩,rfl⟩:=bF e0;obtain⟨q,af,eq,hq,_⟩:=s.own ae;obtain⟨ds,ag,e1,e⟩:=bind_some e;refine⟨_,eq,.inl ⟨rfl,af,.of hq⟩,c,Y,S,T,ds,ag,s,e1,λ vs H1 l s1=>?_⟩;split at e
  .rename_i j;obtain⟨xs,ao,e2,e⟩:=bind_some e;obtain⟨⟨b1,C⟩,rfl⟩:=bF e2;obtain⟨ns,aq,e3,e⟩:=bind_some e;obtain⟨e4,rfl⟩:=aZ e3;obtain⟨_,ar,e6,e⟩:=bind_some e;obtain⟨e7,rfl⟩:=aZ e6;obtain⟨_,au,e5,e⟩:=bind_some e;obtain⟨rfl,rfl⟩:=aU e;obtain⟨b2,ys,J,rfl⟩:=eI e5;rw[C]at J;cases J;obtain⟨q',ws,U,ah,hx⟩:=s1.own C;rw[eq]at U;cases U;obtain⟨v,rfl,r⟩:=tE (s1.st.left l);cases r.int;have ew:=c_ hx e4;subst ew;split at e7;. rename_i hj;exact⟨q,ns,j,rfl,rfl,ah,hj,k _ _ ((s1.drop l).mut C eq (fL _))⟩
   .cases e7
  .cases e
end
section
open Classical in
end
section
variable {X:Cx} {a:Expr} {fa:M D} {pos:Pos}
noncomputable def uV:D->Option D
 | .int i=>some (.int (-i))
 |_=>none
noncomputable def m1(f:D->Option D)(fa:M D):M D:=do
 let x<- fa
 lift (f x)
theorem Lg(I:DE X a fa):DE X (.UnaryOp .USub a pos) (m1 uV fa):=cw (Nv K9 I) λ G H Q ⟨c,J,S,T,d,U,s,e,k⟩=>by obtain⟨x,o,e1,e⟩:=bind_some e;obtain⟨C,rfl⟩:=aZ e;refine⟨c,J,S,T,x,o,s,e1,λ v H' s'=>?_⟩;cases x with
 |int i=>cases C;exact⟨i,s'.st.head.int,k _ _ (s'.pop.stk (.cons .mkI s'.pop.st))⟩
 |_=>cases C
end
section
variable {Y:DS}
@[simp ↓]theorem Mz:Ok (m1 f C) Y Q↔Ok C Y λ x o=>Ok (lift (f x)) o Q:=by unfold m1;simp
@[simp ↓]theorem J_:Ok (MB U r2 fa fb fc) Y Q↔Ok fa Y λ x C=>Ok fb C λ y I=>Ok (lift (U x y)) I λ z o=>match z with
  | .bl true=>Ok fc o λ w J=>Ok (lift (r2 y w)) J Q
  | .bl false=>Q (.bl false) o
  |_=>False:=by
 unfold MB;simp;constructor <;>
 .intro h;refine h.mono λ x C h=>h.mono λ y I h=>h.mono λ z o h=>?_;cases z with
  |bl b=>cases b <;> simpa using h
  |_=>simp_all
theorem wI(I:Nat->DS->Prop)(h:∀k Y,I k Y->Ok tt Y λ b o=>(b=true->∃j,k=j+1/\Ok body o λ U C=>U= .nx/\I j C)/\(b=false->Q .nx o)):
  ∀(f n:Nat)(Y:DS),n<f->I n Y->Ok (Hj tt body f) Y Q
 |0,n,Y,hf,_=>by omega
 |f+1,n,Y,hf,hI=>by unfold Hj;rw[bA];refine(h n Y hI).mono λ b o hb=>?_;cases b with
  |false=>simp_all
  |true=>obtain⟨j,rfl,hj⟩:=hb.1 rfl;show Ok (body >>= _) o Q;rw[bA];refine hj.mono λ U C ⟨e,J⟩=>?_;subst e;exact wI I h f j C (by omega) J
theorem uY(h0:∃b xs,Y[i]?=some (.ow b xs))(h:Ok fs Y λ ds o=>∃(j:Int) (b:Bool) (ns:List Int),ds=[.int j]/\o[i]?=some (.ow b (ns.map .int))/\j∈ns/\Q .nx (o.set i (.ow b ((ns.eraseIdx (ns.idxOf j)).map .int)))):Ok (p8 i fs) Y Q:=by
 have im:∀h:List Int,b_ (h.map .int)=some h:= λ h=>by induction h with
  |nil=>rfl
  |cons a r C=>simp[b_,C]
 unfold p8;obtain⟨b,xs,e⟩:=h0;simp only[bA,eK];refine⟨b,xs,e,h.mono λ ds o q=>?_⟩;obtain⟨j,I,ns,rfl,J,U,q⟩:=q;simp only[bA,eK,mE,bK];refine⟨I,_,J,?_⟩;rw[im];simp only[kj,U,W0];grind
end
end Jt
namespace Jt
open PySem L2 PySem.Spec PyProof.Rows
section
variable {prog:Program} {w:World} {A:Around} {E:Value->Shared->Prop} {s:Shared}
theorem zj {ws:List Value} (ht:IsTup s.heap t #[]) (hb:IsTup s.heap b ws.toArray) (h:Q (.ref b) s):wpAny (model prog w) A (binaryOp .Add (.ref t) (.ref b)) Q E s:= by
 obtain ⟨⟨cls,dd,data,sl⟩,ho,hc,n,hd⟩:=id ht
 obtain ⟨⟨cls2,dd2,data2,sl2⟩,ho2,hc2,n2,hd2⟩:=id hb
 simp at hc hd hc2 hd2
 subst hc hd hc2 hd2
 exact concat_meets ⟨_,ho,rfl⟩ ⟨_,ho2,rfl⟩ noFill_tuple_add seq_tuple_add W3 WU (WE _ _) (tuple_addW0 t b #[] ws.toArray n n2 dd dd2 sl sl2 rfl) ⟨ho,ho2,h⟩
end
section
variable {X:Cx} {a b e:Expr} {fa fb:M D} {pos:Pos}
noncomputable def IH(K:PySem.W.Frag):R2:= λ x y H Q=>zW K x y H Q\/ ∃p q ys,x= .ref p/\y= .ref q/\fQ K H p []/\fQ K H q ys/\Q (.ref q) H
theorem Eh:ij X (binaryOp .Add) (IH X.K):=by
 intro pins s G H x y v u Q I o C h;rcases h with h|⟨p,q,ys,rfl,rfl,U,hq,k⟩
 .exact FZ pins s G H x y v u Q I o C h
 .cases o;cases C;obtain⟨its,r1,p1,_⟩:=I.tuple U;obtain⟨J,r2,p2,_⟩:=I.tuple hq;have e:its=[]:=r1.nil_iff.mpr rfl;subst e;exact zj p1 p2 ⟨.ref q,H,I,rfl,k⟩
noncomputable def wm:D->D->Option D
 | .tup xs,.tup ys=>if xs.length+ys.length<=100000 then some (.tup (xs++ys))else none
 |_,_=>none
theorem AE{K:PySem.W.Frag}:nc (IH K) wm:= λ c C S G T H x y v u d Q s e k=>by
 unfold wm at e;split at e
 .rename_i xs ys;split at e;. rename_i I;cases e;cases xs with
   |cons x xs=>refine .inl (B0 c C S G T H (.tup (x::xs)) (.tup ys) v u _ Q s ?_ k);show(if xs.length+1+ys.length<=100000 then _ else _)=_;rw[gA (by simpa using I)]
   |nil=>obtain⟨p,ws,rfl,o,J⟩:=s.st.tail.head.tup;obtain⟨q,zs,rfl,U,h5⟩:=s.st.head.tup;rw[J.inv0]at o;exact .inr ⟨p,q,zs,rfl,rfl,.of (bq _ _ o),.of (bq _ _ U),k _ _ (s.stk (.cons s.st.head s.st.tail.tail))⟩
  grind
 grind
theorem G_(o:DE X a fa)(C:DE X b fb):DE X (.BinOp a .Add b pos) (m2 wm fa fb):=oH Eh AE o C
end
theorem dq(neg:Bool)(a b:Int):eY neg (.int a) (.int b)=some (.bl (if neg then !decide (a=b)else decide (a=b))):=by show(if mN (.int a) (.int b)=true then some (D.bl (if neg then !decide (V.int a=V.int b)else decide (V.int a=V.int b)))else none)=_;rw[gA (show mN (.int a) (.int b)=true from rfl)];simp
@[simp]theorem GR:b6 .int .non=false:=rfl
@[simp]theorem IB(b:Bool):b6 .int (.bl b)=true:=rfl
@[simp]theorem Gq(i:Int):b6 .int (.int i)=true:=rfl
@[simp]theorem EL(x:Str):b6 .int (.str x)=false:=rfl
@[simp]theorem GW(xs:List D):b6 .int (.tup xs)=false:=rfl
@[simp]theorem D9(xs:List D):b6 .int (.lst xs)=false:=rfl
@[simp]theorem GP:b6 .int .dct=false:=rfl
@[simp]theorem Gf(k:List (Int×Int)):b6 .int (.dic k)=false:=rfl
@[simp]theorem ED(k:List ((Int×Int)×Int)):b6 .int (.dip k)=false:=rfl
@[simp]theorem DJ:b6 .bool .non=false:=rfl
@[simp]theorem D6(b:Bool):b6 .bool (.bl b)=true:=rfl
@[simp]theorem DP(i:Int):b6 .bool (.int i)=false:=rfl
@[simp]theorem DN(x:Str):b6 .bool (.str x)=false:=rfl
@[simp]theorem Dy(xs:List D):b6 .bool (.tup xs)=false:=rfl
@[simp]theorem DR(xs:List D):b6 .bool (.lst xs)=false:=rfl
@[simp]theorem Dz:b6 .bool .dct=false:=rfl
@[simp]theorem DU(k:List (Int×Int)):b6 .bool (.dic k)=false:=rfl
@[simp]theorem DK(k:List ((Int×Int)×Int)):b6 .bool (.dip k)=false:=rfl
@[simp]theorem Fx:b6 .tup .non=false:=rfl
@[simp]theorem Ig(b:Bool):b6 .tup (.bl b)=false:=rfl
@[simp]theorem Fc(i:Int):b6 .tup (.int i)=false:=rfl
@[simp]theorem GX(x:Str):b6 .tup (.str x)=false:=rfl
@[simp]theorem Es(xs:List D):b6 .tup (.tup xs)=true:=rfl
@[simp]theorem Eb(xs:List D):b6 .tup (.lst xs)=false:=rfl
@[simp]theorem GJ:b6 .tup .dct=false:=rfl
@[simp]theorem GG(k:List (Int×Int)):b6 .tup (.dic k)=false:=rfl
@[simp]theorem G8(k:List ((Int×Int)×Int)):b6 .tup (.dip k)=false:=rfl
@[simp]theorem FG:b6 .lst .non=false:=rfl
@[simp]theorem HL(b:Bool):b6 .lst (.bl b)=false:=rfl
@[simp]theorem E3(i:Int):b6 .lst (.int i)=false:=rfl
@[simp]theorem Ec(x:Str):b6 .lst (.str x)=false:=rfl
@[simp]theorem G9(xs:List D):b6 .lst (.tup xs)=false:=rfl
@[simp]theorem DX(xs:List D):b6 .lst (.lst xs)=true:=rfl
@[simp]theorem Hi:b6 .lst .dct=false:=rfl
@[simp]theorem EY(k:List (Int×Int)):b6 .lst (.dic k)=false:=rfl
@[simp]theorem Ei(k:List ((Int×Int)×Int)):b6 .lst (.dip k)=false:=rfl
@[simp]theorem Gs:b6 .str .non=false:=rfl
@[simp]theorem Hs(b:Bool):b6 .str (.bl b)=false:=rfl
@[simp]theorem Fo(i:Int):b6 .str (.int i)=false:=rfl
@[simp]theorem ER(x:Str):b6 .str (.str x)=true:=rfl
@[simp]theorem FJ(xs:List D):b6 .str (.tup xs)=false:=rfl
@[simp]theorem FO(xs:List D):b6 .str (.lst xs)=false:=rfl
@[simp]theorem FY:b6 .str .dct=false:=rfl
@[simp]theorem D4(k:List (Int×Int)):b6 .str (.dic k)=false:=rfl
@[simp]theorem EJ(k:List ((Int×Int)×Int)):b6 .str (.dip k)=false:=rfl
section
variable {X:Cx} {e:Expr} {fa:M D} {pos:Pos}
theorem FX:Om X .Sub (PB λ i j=>i-j):=by intro pins s G H x y v u Q I o C h;obtain⟨i,j,J,U,q⟩:=h;subst J U;obtain⟨t,rfl⟩:=o;obtain⟨t',rfl⟩:=C;exact isub_int ⟨.int _,H,I.tok _,⟨_,rfl⟩,q⟩
theorem vX:nc (PB g) (di (λ _ _=>true) λ i j=> .int (g i j)):= λ c I S G T H x y v u d Q s e k=>by obtain⟨i,j,rfl,rfl,J,rfl⟩:=fM e;have o:=s.st.head.int;have C:=s.st.tail.head.int;exact⟨i,j,C,o,k _ _ (s.stk (.cons .mkI s.st.tail.tail))⟩
theorem zO(i:Nat){op:Operator}{r:R2}{f:D->D->Option D}(ho:Om X op r)(hd:nc r f){x:Str}{pos':Pos}(hN:X.N.Nodup)(he:DE X e fa)(hi:autoParam (X.N[i]?=some x) aQ0._auto_1)(hx:Loc X.env.scope x:=by first|exact Or.inl rfl|exact Or.inr rfl)
  (hf:Fr X x:=by first|exact .inl rfl|exact .inr rfl|assumption):nV X (.AugAssign (.Name x pos') op e pos) (uj i (m2 f (cB i) fa)):=i5 (Ju hN hi hx he ho hf) λ E G H ⟨c,Y,S,T,fl,aa,s,e,k⟩=>by obtain⟨d,ab,o,e⟩:=bind_some e;obtain⟨u,ae,e2,e⟩:=bind_some e;obtain⟨rfl,rfl⟩:=aU e;obtain⟨C,rfl⟩:=g9 e2;obtain⟨U,af,ea,o⟩:=bind_some o;obtain⟨y,I,eb,o⟩:=bind_some o;obtain⟨e3,rfl⟩:=aZ o;obtain⟨J,rfl⟩:=jL ea;obtain⟨v,ev,rv⟩:=s.pu i U J;exact⟨v,ev,c,Y,U::S,v::T,y,I,s.stk (.cons rv s.st),eb,λ u H2 s2=>hd _ _ _ _ _ _ _ _ _ _ _ _ s2 e3 λ z H' s'=>k _ _ (s'.setPu C)⟩
theorem FP(i:Nat){x:Str}{pos':Pos}(o:X.N.Nodup)(he:DE X e fa)(C:autoParam (X.N[i]?=some x) aQ0._auto_1)(hx:Loc X.env.scope x:=by first | exact Or.inl rfl | exact Or.inr rfl)
  (hf:Fr X x:=by first|exact .inl rfl|exact .inr rfl|assumption):nV X (.AugAssign (.Name x pos') .Add e pos) (uj i (m2 lL (cB i) fa)):=zO i JB vX o he C hx hf
theorem D7(i:Nat){x:Str}{pos':Pos}(o:X.N.Nodup)(he:DE X e fa)(C:autoParam (X.N[i]?=some x) aQ0._auto_1)(hx:Loc X.env.scope x:=by first | exact Or.inl rfl | exact Or.inr rfl)
  (hf:Fr X x:=by first|exact .inl rfl|exact .inr rfl|assumption):nV X (.AugAssign (.Name x pos') .Sub e pos) (uj i (m2 ub (cB i) fa)):=zO i FX vX o he C hx hf
end
end Jt
namespace Jt
open PySem L2
open PyProof.Rows (AllBare)
noncomputable abbrev XW:=St->Value->Hp->Prop
noncomputable abbrev QI:=Ends->XW->XW->St->Hp->Prop
end Jt
namespace Jt
open PySem L2
section
variable {X:Cx} {pos:Pos}
theorem Bu(hm:X.mg x=some (.int i t))(o:autoParam (Gl X x) aQ0._auto_1)(hd:autoParam ((x==("__debug__":Str))=false) aQ1._auto_1):DE X (.Name x pos) (pure (.int i)):=Oi (GC (v:= .int i) o hm ⟨t,rfl⟩ hd) λ _=> .mkI
end
noncomputable def uO:Sp:= λ vs H Q _=>∃(a:Addr) (ns:List Int),vs=[.ref a]/\Rd H a (.lst (ns.map V.int))/\ns.length<=63/\(∀i∈ns,Builtin.Int.intBits i<=2^20)/\∀H',Q (.bl true) H'
section
variable {P:Program} {w:World} {K:PySem.W.Frag} {mg:Str->Option Value} {base:Heap} {k:Nat} {f:Addr} {fd:FuncData} {ps:List Str}
theorem EG(F:dX P w K mg base eZ k f fd ps (zJ 1 mf))(h:∀ns:List Int,ns.length<=63->(∀i∈ns,Builtin.Int.intBits i<=2^20)->mf [.lst (ns.map .int)]=some (.bl true)):dX P w K mg base eZ k f fd ps uO:=F.imp λ vs H Q E ⟨a,ns,ev,C,I,J,q⟩=>by subst ev;refine⟨rfl,λ _=>none,[.lst (ns.map .int)],.bl true,(λ a o z=>nomatch z),.cons (.mkL (Rd.mono (λ b o e=>eP.mpr ⟨(λ⟨_,z⟩=>nomatch z),e⟩) C) (fL ns)) .nil,h ns I J,λ v H' g r=>?_⟩;rw[r.bl];grind
end
end Jt
namespace Jt
open PySem PySem.W PySem.Calls PyProof.Rows L2
theorem BQ{ns:List Int}(h:WData.layableAll [WData.list (ns.map WData.int)]=true):∀i∈ns,Builtin.Int.intBits i<=2^20:= λ i o=>by
 have C:=layableW_arg h _ uT;have I:=layableW_item C (.int i) (fN.mpr ⟨i,o,rfl⟩);have J:=lay0_int I;have U:PyData.layable0 (.int i)=true:=by simpa[PyData.layableAll0]using J
 exact PyData.bits_of_layable U
end Jt
namespace Jt
open PySem L2
open PyProof.Rows (AllBare)
noncomputable def hx(X:Cx)(a:Addr)(o:Obj):Cx:={ X with A:=X.A.mark (some (.ref a)),calm:=false,pn:=(a,o)::X.pn,xe:= λ _ _=>False }
end Jt
namespace L2
open PySem PySem.Spec PyProof.Rows
noncomputable abbrev tests(ifs:List Expr)(env:Env):Sem Bool:=forIn ifs true λ c r=>if r=true then do let ok<- isTrue c env (eval c env);pure (ForInStep.yield ok)else pure (ForInStep.yield r)
section
variable {elt t1 i1 t2 i2:Expr} {ifs1 ifs2:List Expr} {scope:Scope} {pos:Pos}
noncomputable abbrev two(elt t1 i1:Expr)(ifs1:List Expr)(t2 i2:Expr)(ifs2:List Expr)(scope:Scope)(pos:Pos):Expr:= .ListComp elt [⟨t1,i1,ifs1,0⟩,⟨t2,i2,ifs2,0⟩] scope pos
noncomputable abbrev ng:Value->Shared->Prop:= λ _ _=>False
end
end L2
namespace Jt
open PySem L2
noncomputable def yK(n:Nat):Option Unit:=if n<=1000 then some ()else none
theorem nq(h:yK n=some u):n<=1000:=by unfold yK at h;grind
noncomputable def jz:List Int->Int
 |[]=>0
 |[a]=>a
 |a::b::r=>if a<=jz (b::r)then a else jz (b::r)
theorem rT:∀{ns:List Int},ns≠[]->jz ns∈ns
 |[],h=>absurd rfl h
 |[a],_=>jP.mpr rfl
 |a::b::r,_=>by have:=rT (ns:=b::r) (by simp);unfold jz;grind
theorem xf:∀{ns:List Int}{x:Int},x∈ns->jz ns<=x
 |[a],x,h=>by rw[jP.mp h];exact XS _
 |a::b::r,x,h=>by have C:= λ y (o:y∈b::r)=>xf o;unfold jz;grind
theorem En(h:m∈ns)(o:∀a∈ns,m<=a):m=jz ns:=by have C:=xf h;have I:=o _ (rT (List.ne_nil_of_mem h));omega
section
variable {X:Cx} {a:Expr} {fs:M (List D)} {p pos:Pos}
theorem y6(hc:X.calm=true):c6 X (.builtin "min") (λ xs H Q=>∃(p:Addr) (ns:List Int),xs=[.ref p]/\fQ X.K H p (ns.map V.int)/\0<ns.length/\Q (.int (jz ns)) H):=by
 intro pins s G H xs us Q I r h
 obtain⟨p,ns,rfl,hq,aa,q⟩:=h;obtain⟨u,rfl,rx⟩:=r.one;cases rx;obtain⟨its,rv,pl,hz⟩:=I.tuple hq;have hl:=rv.length;rw[uL]at hl;have C:s.heap.IsTuple p its.toArray:=pl;have J:p<s.heap.objs.size:=by obtain⟨_,e,_⟩:=C;exact wR e
 have val:∀(i:Nat) v,its.toArray[i]?=some v->∃t,v= .int (ns.getD i 0) t:= λ i v hv=>by
  have U:its[i]?=some v:=by simpa using hv
  have hi:i<ns.length:=by rw[hl];exact(wV.mp U).1
  obtain⟨u,hu,ru⟩:=rv.get (i:=i) (x:= .int (ns.getD i 0)) (by simp[hi]);rw[U]at hu;cases hu;exact ru
 refine call_min_walk (YQ C ?_)
 refine⟨s.heap.objs.size,[s.heap.objs.size,p],[s.heap.objs.size],its.toArray.size,_,_,_,rfl,Walks.tuple (A:=X.A.in1) (I.ok.hd hc) _ p (fR J) its.toArray,
  ⟨⟨_,wF _ rfl,rfl,rfl⟩,C.push _⟩,λ b hb=>?_,by rw[xS];omega,CmpOf.ints_lt (λ i=>ns.getD i 0) val,λ v h' tk hP hk=>?_⟩
 .rw[QO]
  rcases wW.mp hb with rfl|hb
  .exact Z2 _
  .rw[jP.mp hb];exact VH J
 .obtain⟨t,rfl⟩:=val _ _ hP
  obtain⟨h1,h2⟩:=argBest_lt (λ i=>ns.getD i 0) (its.toArray.size-1)
  rw[xS,<- hl]at h1 h2
  have e:ns.getD (argBest (λ i j=>decide (ns.getD i 0<ns.getD j 0)) (its.toArray.size-1)) 0=jz ns:=by
   rw[xS,<- hl]
   refine En ?_ λ x hx=>?_
   .grind
   .obtain⟨j,hj,rfl⟩:=ZF hx
    have:=h2 j (by omega)
    simpa[hj]using this
  exact⟨.int (jz ns),H,I.kept λ b o eb=>hk b o (λ hm=>absurd (wR eb) (by rw[jP.mp hm];exact QX _)) (zS _ eb),⟨t,by rw[e]⟩,q⟩
noncomputable def w6:List D->Option D
 |[.tup xs]=>match b_ xs with
  |some (i::r)=>some (.int (jz (i::r)))
  |_=>none
 |_=>none
theorem Eo:iB (λ xs H Q=>∃(p:Addr) (ns:List Int),xs=[.ref p]/\fQ K H p (ns.map V.int)/\0<ns.length/\Q (.int (jz ns)) H) w6:= λ c U S G T H ds vs d Q l s e k=>by
 unfold w6 at e;split at e
 .split at e
  .rename_i i r o;cases e;obtain⟨v,rfl,C⟩:=tE (s.st.left l);obtain⟨p,ws,rfl,I,J⟩:=C.tup;have:=c_ J o;subst this;exact⟨p,i::r,rfl,.of (bq _ _ I),by simp,k _ _ (s.stk (.cons .mkI (s.st.right l)))⟩
  grind
 grind
theorem Gd(hm:X.mg "min"=none)(o:DA X [a] fs)(C:autoParam (Gl X "min") aQ0._auto_1)(I:autoParam (X.calm=true) aQ0._auto_1)(he:autoParam (i4 X a) aQ0._auto_1):DE X (.Call (.Name "min" p) [a] [] pos) (mC w6 fs):=
 dU (y6 I) Eo C hm (by decide+kernel) o (by decide) (by decide) he rfl
end
mutual
noncomputable def py:D->PyData
 | .non=>.none
 | .bl b=>.bool b
 | .int i=>.int i
 | .str x=>.str x
 | .tup xs=>.tuple (P6 xs)
 | .lst xs=>.list (P6 xs)
 | .dct=>.dict []
 | .dic _=>.dict []
 | .dip _=>.dict []
noncomputable def P6:List D->List PyData
 | []=>[]
 | d :: r=>py d :: P6 r
end
section
variable {Y:DS} {B:Type}
theorem oBind (h:Ok m Y fun a o=>Ok (f a) o Q):Ok (m >>= f) Y Q:=bA.mpr h
theorem oPure (q:Q a Y):Ok (pure a) Y Q:=⟨a,Y,rfl,q⟩
theorem oGet (h:Y[i]? = some (.pu d)) (q:Q d Y):Ok (cB i) Y Q:=ik.mpr ⟨d,h,q⟩
theorem oPeek (h:Y[i]? = some (.ow b xs)) (q:Q xs Y):Ok (cZ i) Y Q:=eK.mpr ⟨b,xs,h,q⟩
theorem oTake (h:Y[i]? = some (.ow false xs)) (q:Q xs (Y.set i .un)):Ok (oC i) Y Q:=AZ.mpr ⟨xs,h,q⟩
theorem oLen (h:Y[i]? = some (.ow b xs)) (q:Q (.int xs.length) Y):Ok (vB i) Y Q:=Ba.mpr ⟨b,xs,h,q⟩
theorem oLift (h:o=some a) (q:Q a Y):Ok (lift o) Y Q:=jv h q
theorem oCall (hn:ds.length=n) (h:f ds=some d) (q:Q d Y):Ok (lift (dg n f ds)) Y Q:=jv (by simp_all) q
theorem oCallF (hn:ds.length=n) (h:f ds=some d) (q:Q d Y):Ok (lift (dg n f ds)) Y Q:=jv (by simp_all) q
theorem oSet (h:Nat.blt i Y.length=true) (q:Q () (Y.set i (.pu d))):Ok (ka i d) Y Q:=ff.mpr ⟨YY h,q⟩
theorem oM1(h:Ok C Y λ x o=>Ok (lift (f x)) o Q):Ok (m1 f C) Y Q:=Mz.mpr h
theorem oM2(h:Ok I Y λ x o=>Ok J o λ y C=>Ok (lift (f x y)) C Q):Ok (m2 f I J) Y Q:=C6.mpr h
theorem oMC (h:Ok fs Y fun ds o=>Ok (lift (f ds)) o Q):Ok (mC f fs) Y Q:=xu.mpr h
theorem oMQ (h:Ok fs Y fun ds o=>Ok (lift (f ds)) o Q):Ok (mQ f fs) Y Q:=MN.mpr h
theorem oCons(h:Ok I Y λ x o=>Ok fs o λ xs C=>Q (x::xs) C):Ok (iG I fs) Y Q:=fP.mpr h
theorem oTup(h:Ok fs Y λ xs o=>xs.length<=100000/\Q (.tup xs) o):Ok (Cg fs) Y Q:=kD.mpr (h.mono λ _ _ q=>fA.mpr q)
theorem oLst(h:Ok fs Y λ xs o=>xs.length<=100000/\Q xs o):Ok (FK fs) Y Q:=EI.mpr (h.mono λ _ _ q=>fA.mpr q)
theorem oIf (h:Ok t Y fun b o=>if b=true then Ok C o Q else Ok I o Q):Ok (zw t C I) Y Q:=CB.mpr h
theorem oAnd(h:Ok t Y λ b o=>if b=true then Ok u o Q else Q false o):Ok (Ew t u) Y Q:=EE.mpr h
theorem oOr (h:Ok t Y fun b o=>if b=true then Q true o else Ok u o Q):Ok (Ox t u) Y Q:=JK.mpr h
theorem oNot(h:Ok t Y λ b o=>Q (!b) o):Ok (G7 t) Y Q:=Ft.mpr h
theorem oAsB (q:Q b Y):Ok (qk (.bl b)) Y Q:=K_.mpr ⟨b,rfl,q⟩
theorem oAsI (q:Q (some i) Y):Ok (N_ (.int i)) Y Q:=KI.mpr ⟨i,rfl,q⟩
inductive IxE (i:Nat) (Q:D->DS->Prop) (y:D) (o:DS):Prop
 | mk (h1:o[i]? = some (.ow b xs)) (h2:j_ (.lst xs) y=some d) (q:Q d o):IxE i Q y o
inductive BxE (i n:Nat) (mf:List D->List D->Option (D × List D)) (Q:D->DS->Prop) (ds:List D) (o:DS):Prop
 | mk (h1:o[i]? = some (.ow b xs)) (h2:ds.length + 1=n) (h3:mf xs ds=some (d,C)) (q:Q d (o.set i (.ow b C))):BxE i n mf Q ds o
theorem oIxO (h0:Y[i]? = some (.ow b xs)) (h:Ok C Y (IxE i Q)):Ok (GI i C) Y Q :=
 Eu.mpr ⟨⟨b,xs,h0⟩,h.mono fun _ _ ⟨e,h,q⟩=>⟨_,_,e,jv h q⟩⟩
theorem oBox(h:Ok fs Y (BxE i n o Q)):Ok (rP i n o fs) Y Q:=
 FF.mpr (h.mono λ _ _ ⟨C,I,J,q⟩=>⟨_,_,C,I,(_,_),J,q⟩)
theorem oTurn{Q:Option D->DS->Prop}(h:Ok (gt d) Y λ _ C=>Ok tt C λ b o=>if b=true then Ok te o λ x I=>Q (some x) I else Q none o):Ok (gp gt tt te d) Y Q:=kZ.mpr h
theorem oTg{Q:Unit->DS->Prop}(hn:ds.length=n)(h:Ok (g ds) Y Q):Ok (jZ n g (.tup ds)) Y Q:=oQ.mpr ((gA hn).mpr h)
theorem oTc{Q:Unit->DS->Prop}(h:Ok (f d) Y λ _ o=>Ok (g ds) o Q):Ok (md f g (d::ds)) Y Q:=jI.mpr h
theorem oTn(q:Q () Y):Ok (vH []) Y Q:=mL.mpr q
theorem oIsi{Q:D->DS->Prop}(h:Ok C Y λ d o=>Q (.bl (b6 T d)) o):Ok (E5 T C) Y Q:=EW.mpr h
theorem oH2{Q:B->DS->Prop}(h:Ok U Y λ h1 o=>Ok fb o λ h2 C=>Ok (qi h1) C λ x I=>Ok (qi h2) I λ y J=>Ok (lift (g x y)) J Q):Ok (HZ g U fb) Y Q:=KA.mpr h
theorem oRd{Q:D->DS->Prop}(q:Q x Y):Ok (qi (.th x)) Y Q:=Kx.mpr q
theorem oRdL{Q:D->DS->Prop}(h:Y[i]?=some (.ow b xs))(q:Q (.lst xs) Y):Ok (qi (.ls i)) Y Q:=Ko.mpr ⟨b,xs,h,q⟩
theorem oOwn{Q:Hn->DS->Prop}(h:Y[i]?=some (.ow b xs))(q:Q (.ls i) Y):Ok (Gz i) Y Q:=FE.mpr ⟨b,xs,h,q⟩
theorem oConH(h:Ok J Y λ h o=>Ok fs o λ xs C=>Ok (qi h) C λ x I=>Q (x::xs) I):Ok (um J fs) Y Q:=xG.mpr h
theorem oSl(h:Ok J Y λ x o=>Ok U o λ l C=>Ok fh C λ h I=>Ok (lift (Ot x l h)) I Q):Ok (OA J U fh) Y Q:=Jm.mpr h
theorem oStP(h:Ok C Y λ d o=>Nat.blt i o.length=true/\Q .nx (o.set i (.pu d))):Ok (uj i C) Y Q:=tW.mpr (h.mono λ _ _ q=>⟨YY q.1,q.2⟩)
theorem oStO(h:Ok C Y λ d o=>Nat.blt i o.length=true/\Q .nx (o.set i (.ow false d))):Ok (Lp i C) Y Q:=Ji.mpr (h.mono λ _ _ q=>⟨YY q.1,q.2⟩)
theorem oSq(h:Ok C Y λ d o=>Nat.blt i o.length=true/\Ok g (o.set i (.pu d)) Q):Ok (d8 (uj i C) g) Y Q:=ck.mpr (oStP h)
theorem oSqO(h:Ok C Y λ d o=>Nat.blt i o.length=true/\Ok g (o.set i (.ow false d)) Q):Ok (d8 (Lp i C) g) Y Q:=ck.mpr (oStO h)
theorem gg{Q:Fl->DS->Prop}(h:Ok t Y λ b o=>if b=true then Ok (d8 C g) o Q else Ok (d8 I g) o Q):Ok (d8 (zw t C I) g) Y Q:=
 ck.mpr (CB.mpr (h.mono λ b o q=>by simp_all))
theorem oSqN(h:Ok g Y Q):Ok (d8 (pure .nx) g) Y Q:=ck.mpr (bK.mpr h)
theorem PX(h:Ok f Y λ C o=>match C with| .nx=>Ok (d8 g k) o Q|C=>Q C o):Ok (d8 (d8 f g) k) Y Q:=by refine ck.mpr (ck.mpr (h.mono λ C o q=>?_));cases C <;> first|exact ck.mp q|exact q
theorem oSqR{Q:Fl->DS->Prop}{m:M D}(h:Ok m Y λ d o=>Q (.rt d) o):Ok (d8 (do let d<- m;pure (Fl.rt d)) g) Y Q:=ck.mpr (bA.mpr (h.mono λ _ _ q=>bK.mpr q))
theorem B4(ds:List D)(I:Nat->DS->Prop)(U:Ok fi Y λ it C=>it=bp ds/\C=Y)(h0:I 0 Y)
  (ht:∀k(hk:k<ds.length) Y,I k Y->Ok (gt ds[k]) Y λ _ J=>Ok body J λ fl o=>match fl with
   | .nx=>I (k+1) o
   | .ct=>I (k+1) o
   | .bk=>Ok g o Q
   | .rt d=>Q (.rt d) o
   | .rf d=>Q (.rf d) o)(hQ:∀Y,I ds.length Y->Ok g Y Q):Ok (d8 (do let it<- fi;Jt.forM gt body it.2 it.1) g) Y Q:=ck.mpr (we ds I U h0 (λ k hk Y h=>(ht k hk Y h).mono λ _ _ h=>h.mono λ fl _ h=>by omega) hQ)
theorem oSqSP(h:Ok C Y λ d o=>Nat.blt i o.length=true/\Ok (d8 g k) (o.set i (.pu d)) Q):Ok (d8 (d8 (uj i C) g) k) Y Q:=PX (oStP h)
inductive PpE (i:Nat) (Q:D->DS->Prop):List D->DS->Prop
 | mk (j:Nat) (h1:o[i]? = some (.ow b xs)) (h2:j < 100000) (h3:xs[j]? = some d) (q:Q d (o.set i (.ow b (xs.eraseIdx j)))):PpE i Q [.int j] o
theorem oPop{Q:D->DS->Prop}(h0:Y[i]?=some (.ow b xs))(h:Ok fs Y (PpE i Q)):Ok (F3 i fs) Y Q:=vp ⟨b,xs,h0⟩ (h.mono λ _ _ ⟨j,o,C,I,q⟩=>⟨j,_,_,_,rfl,o,C,I,q⟩)
inductive ApE (i:Nat) (Q:Fl->DS->Prop):List D->DS->Prop
 | mk (h1:o[i]? = some (.ow b xs)) (h2:xs.length ≤ 100000) (q:Q .nx (o.set i (.ow b (xs ++ [d])))):ApE i Q [d] o
theorem oApp{Q:Fl->DS->Prop}(h0:Y[i]?=some (.ow b xs))(h:Ok fs Y (ApE i Q)):Ok (jt i fs) Y Q:=fV ⟨b,xs,h0⟩ (h.mono λ _ _ ⟨o,C,q⟩=>⟨_,_,_,rfl,o,C,q⟩)
theorem oSqA{Q:Fl->DS->Prop}(h0:Y[i]?=some (.ow b xs))(h:Ok fs Y (ApE i λ _ o=>Ok g o Q)):Ok (d8 (jt i fs) g) Y Q:=ck.mpr (oApp h0 (h.mono λ _ _ ⟨C,I,q⟩=>⟨C,I,q⟩))
inductive ChE (fc:M D) (r:D->D->Option D) (y:D) (Q:D->DS->Prop):D->DS->Prop
 | t (h:Ok fc o fun w J=>Ok (lift (r y w)) J Q):ChE fc r y Q (.bl true) o
 | f (q:Q (.bl false) o):ChE fc r y Q (.bl false) o
theorem oChn(h:Ok o Y λ x C=>Ok J C λ y I=>Ok (lift (U x y)) I (ChE fc r y Q)):Ok (MB U r o J fc) Y Q:=
 J_.mpr (h.mono λ _ _ h=>h.mono λ _ _ h=>h.mono λ _ _ h=>by cases h <;> assumption)
theorem oT{A B:Prop}{b:Bool}(h:b=true)(q:A):if b=true then A else B:=(gA h).mpr q
theorem oF{A B:Prop}{b:Bool}(h:b=false)(q:B):if b=true then A else B:=(gL (Bool.not_eq_true _▸h)).mpr q
theorem oL(h:Nat.ble n 100000=true)(q:A):n<=100000/\A:=⟨YY h,q⟩
end
end Jt
namespace Jt
open PySem L2 PySem.Spec PyProof.Rows
noncomputable def jV:List Int->Int
 |[]=>0
 |[a]=>a
 |a::b::r=>if jV (b::r)<=a then a else jV (b::r)
theorem sQ:∀{ns:List Int},ns≠[]->jV ns∈ns
 |[],h=>absurd rfl h
 |[a],_=>jP.mpr rfl
 |a::b::r,_=>by have:=sQ (ns:=b::r) (by simp);unfold jV;grind
theorem xm:∀{ns:List Int}{x:Int},x∈ns->x<=jV ns
 |[a],x,h=>by rw[jP.mp h];exact XS _
 |a::b::r,x,h=>by have C:= λ y (o:y∈b::r)=>xm o;unfold jV;grind
theorem E_(h:m∈ns)(o:∀a∈ns,a<=m):m=jV ns:=by have C:=xm h;have I:=o _ (sQ (List.ne_nil_of_mem h));omega
section
variable {X:Cx} {a:Expr} {fs:M (List D)} {p pos:Pos}
theorem yN(hc:X.calm=true):c6 X (.builtin "max") (λ xs H Q=>∃(p:Addr) (ns:List Int),xs=[.ref p]/\fQ X.K H p (ns.map V.int)/\0<ns.length/\Q (.int (jV ns)) H):=by
 intro pins s G H xs us Q I r h;obtain⟨p,ns,rfl,hq,aa,q⟩:=h;obtain⟨u,rfl,rx⟩:=r.one;cases rx;obtain⟨its,rv,pl,hz⟩:=I.tuple hq;have hl:=rv.length;rw[uL]at hl;have C:s.heap.IsTuple p its.toArray:=pl;have J:p<s.heap.objs.size:=by obtain⟨_,e,_⟩:=C;exact wR e
 have val:∀(i:Nat) v,its.toArray[i]?=some v->∃t,v= .int (ns.getD i 0) t:= λ i v hv=>by
  have U:its[i]?=some v:=by simpa using hv
  have hi:i<ns.length:=by rw[hl];exact(wV.mp U).1
  obtain⟨u,hu,ru⟩:=rv.get (i:=i) (x:= .int (ns.getD i 0)) (by simp[hi]);rw[U]at hu;cases hu;exact ru
 refine call_max_walk (YQ C ?_);refine⟨s.heap.objs.size,[s.heap.objs.size,p],[s.heap.objs.size],its.toArray.size,_,_,_,rfl,Walks.tuple (A:=X.A.in1) (I.ok.hd hc) _ p (fR J) its.toArray,
  ⟨⟨_,wF _ rfl,rfl,rfl⟩,C.push _⟩,λ b hb=>?_,by rw[xS];omega,CmpOf.ints_gt (λ i=>ns.getD i 0) val,λ v h' tk hP hk=>?_⟩
 .rw[QO];rcases wW.mp hb with rfl|hb
  .exact Z2 _
  .rw[jP.mp hb];exact VH J
 .obtain⟨t,rfl⟩:=val _ _ hP;obtain⟨h1,h2⟩:=argBest_gt (λ i=>ns.getD i 0) (its.toArray.size-1);rw[xS,<- hl]at h1 h2;have e:ns.getD (argBest (λ i j=>decide (ns.getD i 0>ns.getD j 0)) (its.toArray.size-1)) 0=jV ns:=by
   rw[xS,<- hl];refine E_ ?_ λ x hx=>?_;. grind
   .obtain⟨j,hj,rfl⟩:=ZF hx;have:=h2 j (by omega);simpa[hj]using this
  exact⟨.int (jV ns),H,I.kept λ b o eb=>hk b o (λ hm=>absurd (wR eb) (by rw[jP.mp hm];exact QX _)) (zS _ eb),⟨t,by rw[e]⟩,q⟩
noncomputable def xp:List D->Option D
 |[.tup xs]=>match b_ xs with
  |some (i::r)=>some (.int (jV (i::r)))
  |_=>none
 |_=>none
theorem Gv{K:PySem.W.Frag}:iB (λ xs H Q=>∃(p:Addr) (ns:List Int),xs=[.ref p]/\fQ K H p (ns.map V.int)/\0<ns.length/\Q (.int (jV ns)) H) xp:= λ c U S G T H ds vs d Q l s e k=>by
 unfold xp at e;split at e
 .split at e
  .rename_i i r o;cases e;obtain⟨v,rfl,C⟩:=tE (s.st.left l);obtain⟨p,ws,rfl,I,J⟩:=C.tup;have:=c_ J o;subst this;exact⟨p,i::r,rfl,.of (bq _ _ I),by simp,k _ _ (s.stk (.cons .mkI (s.st.right l)))⟩
  grind
 grind
theorem Gb(hm:X.mg "max"=none)(o:DA X [a] fs)(C:autoParam (Gl X "max") aQ0._auto_1)(I:autoParam (X.calm=true) aQ0._auto_1)(he:autoParam (i4 X a) aQ0._auto_1):DE X (.Call (.Name "max" p) [a] [] pos) (mC xp fs):=
 dU (yN I) Gv C hm (by rfl) o (by decide) (by rfl) he rfl
end
section
open PySem.SeqAt
open PySem.AutoSeq1 (wpAny_loadPart')
open PySem.MeetsSeq PySem.MeetsSeq2 PySem.MeetsSeq3
theorem mX(l:Addr)(items:Array Value)(n:Nat)(dd:Option Addr)(sl:Array (Option Value))(x:Value)(e:Value->Bool)(j:Nat)(hj:j<items.size)(J:e items[j]=true)(U:∀m(hm:m<items.size),m<j->e items[m]=false):
  Meets (Builtin.«tuple.index» ⟨[.ref l,x],[]⟩) (λ A R s=>s.heap.get? l=some { cls:= .type "tuple",dict:=dd,data:= .seq items n,slots:=sl }/\(∀y∈items,EqAt A.in1 s y x (e y))/\R (.ok (.ret (.int (j:Int) s.toks))) { s with toks:=s.toks+1 }):=
 .of_wp λ prog w A R s h=>by
  obtain⟨hp,g,d,tk,os⟩:=s;obtain⟨hl,he,h⟩:=h;unfold Builtin.«tuple.index»;simp only[Std.Legacy.Range.forIn_eq_forIn_range'];wp_walk using wpAny_loadPart' hl,wpAny_forIn_list _ (λ rest b s'=>b.1=none/\s'=⟨hp,g,d,tk,os⟩/\∃m,rest=List.range' m (items.size-m)/\m<=j) _;case turn=>
   rintro i rest b s' ⟨hb,rfl,m,o,hm⟩;have C:items.size-m=(items.size-(m+1))+1:=by omega
   rw[C,List.range'_succ]at o;injection o with I o;subst I;have I:i<items.size:=by omega
   have hy:items[i]?=some items[i]:=ZS I;rw[hy];have hE:=he items[i] (Array.getElem_mem I);refine zN (hE prog w _ _ ?_);by_cases q:i=j;. subst q;rw[J];wp_walk;exact⟨_,rfl,h⟩
   .rw[U i I (by omega)];wp_walk;exact⟨rfl,rfl,i+1,o,by omega⟩
  case fin=>
   rintro⟨b1,b2⟩ s' ⟨hb,rfl,m,o,hm⟩;have C:items.size-m=(items.size-(m+1))+1:=by omega
   rw[C,List.range'_succ]at o;cases o
  case h=>exact⟨rfl,rfl,0,by simp,ZG _⟩
end
section
variable {X:Cx} {o e a:Expr} {es:List Expr} {to:TE} {t:TA} {name:Str} {apos cpos p:Pos} {id:String} {r:V->List V->Hp->VK->Prop} {fo:M D} {fs:M (List D)}
noncomputable def QF(r:V->List V->Hp->VK->Prop)(to:TE)(t:TA):TE:= λ G H Q=>to G H λ x H1=>(∃p xs,x= .ref p/\H1 p=some (.tup xs))/\t G H1 λ xs C=>r x xs C Q
theorem K7(slot:PySem.Slot "tuple" name id)(ab:typeOf (.builtin id)=pure (.type "method_descriptor"))(hm:NQ X id r)(ho:PE X o to)(ha:PA X (e::es) t)
  (C:autoParam (attributeBase o name X.env (eval o X.env)=eval o X.env) aQ0._auto_1)
  (U:((backTo cpos (starEach (e::es) X.env)).all (λ x=> !x.1)&&(backToKw cpos (keywordEach [] X.env)).all (λ x=>x.1.isSome)
   &&decide ((e::es).length+([]:List Keyword).length+(if([]:List Keyword).isEmpty then 0 else 1)<30))=true:=by rfl)
  (J:autoParam ((apos.endLine==cpos.line)=true) aQ0._auto_1)(hs:autoParam (DM X e es) aQ0._auto_1)(aa:autoParam (Bf X cpos es) aQ0._auto_1):
  PE X (.Call (.Attribute o name apos) (e::es) [] cpos) (QF r to t):=by intro pins s G H Q I h;refine wpAny_Call_method_late C U J rfl (b9 (ho pins s G H _ I h) λ v s1 ⟨x,H1,I1,r1,ty,q1⟩=>?_);obtain⟨p,xs,rfl,hp⟩:=ty;cases r1;obtain⟨_,its,_,⟨ob,e1,e2,_⟩,ae,e3,e4⟩:=(show b4 X.prog X.w H1 s1.heap p (.tup xs)from I1.hok p _ hp);refine⟨"tuple",id,PySem.F.plainAttrs_tuple,slot,ab,⟨ob,e1,e2⟩,λ a z=>by grind,?_⟩;have hA:=ha cpos pins s1 G H1 _ I1 q1;rw[hs]at hA|-;refine Calls.callWith_builtin (by grind) (Calls.evalArgs_plain ?_);exact b9 hA λ us s2 ⟨vs,H2,I2,r2,q2⟩=>hm pins s2 G H2 (.ref p) vs (.ref p) us Q I2 rfl r2 q2
noncomputable def Gm:V->List V->Hp->VK->Prop:= λ x vs H Q=>∃(l:Addr) (ns:List Int) (c:Int),x= .ref l/\vs=[.int c]/\H l=some (.tup (ns.map V.int))/\c∈ns/\Q (.int (ns.idxOf c)) H
noncomputable def P_(c:Int):Value->Bool
 | .int i _=>i==c
 |_=>false
theorem yV:NQ X "tuple.index" Gm:=by
 intro pins s G H x vs v us Q I rx rv h;obtain⟨l,ns,c,rfl,rfl,hH,hc,q⟩:=h;cases rx;obtain⟨u,rfl,J⟩:=rv.one;obtain⟨tc,rfl⟩:=J;obtain⟨its,r,pl,_⟩:=I.tuple (.of hH);obtain⟨⟨cls,dd,data,sl⟩,e0,e1,n,e2⟩:=id pl;subst e1 e2;have hl:its.length=ns.length:=by rw[<- r.length,uL]
 have hj:ns.idxOf c<ns.length:=WJ.mpr hc;have at_:∀m(hm:m<ns.length),∃t,its[m]?=some (.int ns[m] t):= λ m hm=>by obtain⟨u,e,J⟩:=r.get (i:=m) (x:= .int ns[m]) (by simp);obtain⟨t,rfl⟩:=J;exact⟨t,e⟩
 refine call_meets PySem.F.slot_tuple_index ⟨_,e0,rfl⟩ PySem.F.entry_tuple_index (PySem.F.args_tuple_index_2 _ _) (mX l its.toArray n dd sl (.int c tc) (P_ c) (ns.idxOf c) (by simp;omega) ?_ ?_) ⟨e0,λ y hy=>?_,?_⟩;. obtain⟨t,e⟩:=at_ _ hj;have:=(wV.mp e).2;simp;rw[this];simp[P_]
 .intro m hm U;have C:m<ns.length:=by omega
  obtain⟨t,e⟩:=at_ _ C;have:=(wV.mp e).2;simp;rw[this];have ne:ns[m]≠c:= λ z=>by have:=List.not_of_lt_findIdx (p:= λ x=>x==c) (xs:=ns) (i:=m) U;simp[z]at this
  simp[P_,ne]
 .obtain⟨m,hm⟩:=List.mem_iff_getElem?.mp (show y∈its by simpa using hy);have C:m<ns.length:=by rw[<- hl];exact(wV.mp hm).1
  obtain⟨t,e⟩:=at_ _ C;rw[hm]at e;cases e;exact SeqAt.EqAt.int_int ns[m] t c tc
 .exact⟨.int (ns.idxOf c),H,I.tok _,⟨_,rfl⟩,q⟩
noncomputable def mJ(x:D)(ds:List D):Option D:=match x,ds with
 | .tup es,[.int c]=>(b_ es).bind λ ns=>if c∈ns then some (.int (ns.idxOf c))else none
 |_,_=>none
noncomputable def Mc(fo:M D)(fs:M (List D)):M D:=do
 let x<- fo
 let ds<- fs
 lift (mJ x ds)
theorem AB(ho:DE X o fo)(ha:DA X [a] fs)
  (I:autoParam (attributeBase o "index" X.env (eval o X.env)=eval o X.env) aQ0._auto_1)
  (U:((backTo cpos (starEach [a] X.env)).all (λ x=> !x.1)&&(backToKw cpos (keywordEach [] X.env)).all (λ x=>x.1.isSome)
   &&decide (([a]:List Expr).length+([]:List Keyword).length+(if([]:List Keyword).isEmpty then 0 else 1)<30))=true:=by rfl)
  (J:autoParam ((apos.endLine==cpos.line)=true) aQ0._auto_1)(hs:autoParam (i4 X a) aQ0._auto_1):
  DE X (.Call (.Attribute o "index" apos) [a] [] cpos) (Mc fo fs):=
 cw (K7 PySem.F.slot_tuple_index PySem.F.type_tuple_index yV ho ha I U J hs rfl) λ G H Q ⟨c,Y,S,T,d,ae,s,e,k⟩=>by
  obtain⟨x,aa,e1,e⟩:=bind_some e;obtain⟨ds,ab,e2,e⟩:=bind_some e;obtain⟨C,rfl⟩:=aZ e;unfold mJ at C;split at C;. rename_i es i af;cases q:b_ es with
   |none=>rw[q]at C;cases C
   |some ns=>
    rw[q]at C;simp only[Option.bind_some]at C;split at C;. rename_i hc;cases C;refine⟨c,Y,S,T,_,aa,s,e1,λ v H1 s1=>?_⟩;obtain⟨p,vs,rfl,h1,h2⟩:=s1.st.head.tup;refine⟨⟨p,vs,rfl,bq _ _ h1⟩,c,aa,_,_,_,ab,s1,e2,λ ag H2 l s2=>?_⟩;obtain⟨v2,rfl,r2⟩:=tE (s2.st.left l);cases r2.int;obtain⟨p2,ws,ez,h3,h4⟩:=(s2.st.right l).head.tup;cases ez;have:=c_ h4 q;subst this;exact⟨p,ns,i,rfl,rfl,bq _ _ h3,hc,k _ _ (s2.stk (.cons .mkI (s2.st.right l).tail))⟩
    simp_all
  grind
end
section
variable {X:Cx} {a:Expr} {p pos:Pos} {fs:M (List D)}
theorem gD(ns:List Int):∀j,j<=ns.length->preSum (λ i=>ns.getD i 0) j=(ns.take j).sum
 |0,_=>rfl
 |j+1,h=>by show preSum _ j+_=_;rw[gD ns j (by omega),ZD (by omega)];grind
noncomputable def Hu(K:PySem.W.Frag):List V->Hp->VK->Prop:= λ xs H Q=>∃(l:Addr) (ns:List Int),xs=[.ref l]/\iE K H l (ns.map V.int)/\(∀j,j<=ns.length->InLong ((ns.take j).sum))/\(∀i∈ns,InLong i)/\Q (.int ns.sum) H
theorem yu(hc:X.calm=true):c6 X (.builtin "sum") (Hu X.K):=by
 intro pins s G H xs us Q I r h;obtain⟨l,ns,rfl,hq,hn,hi,q⟩:=h;obtain⟨u,rfl,ru⟩:=r.one;cases ru;obtain⟨its,rv,pl,hz⟩:=I.list hq;have hlen:=rv.length;rw[uL]at hlen;have J:l<s.heap.objs.size:=by obtain⟨o,e,_⟩:=pl.isList;exact wR e
 refine call_sum_walk (VY pl.isList ?_);refine⟨s.heap.objs.size,[s.heap.objs.size,l],[s.heap.objs.size],its.toArray.size,_,_,λ i=>ns.getD i 0,rfl,Walks.list (A:=X.A.in1) (I.ok.hd hc) _ l (fR J) its.toArray,
  ⟨⟨_,wF _ rfl,rfl,rfl⟩,pl.isList.push _⟩,λ b U=>?_,λ i v hv=>?_,λ j hj=>?_,λ h' tk t' kp=>?_⟩
 .rw[QO];simp at U;rcases U with rfl|rfl
  .exact Z2 _
  .exact VH J
 .have aa:its[i]?=some v:=by simpa using hv
  have ab:i<ns.length:=by rw[hlen];exact(wV.mp aa).1
  obtain⟨u,hu,ru⟩:=rv.get (i:=i) (x:=V.int ns[i]) (by simp);obtain⟨t,rfl⟩:=ru;grind
 .have C:j<ns.length:=by rw[hlen];simpa using hj
  refine⟨?_,?_⟩
  .show InLong (ns.getD j 0);have:ns.getD j 0=ns[j]:=by simp[C]
   rw[this];exact hi _ (QT C)
  .rw[gD ns (j+1) C];exact hn _ C
 .have e:preSum (λ i=>ns.getD i 0) its.toArray.size=ns.sum:=by rw[show its.toArray.size=ns.length by simp[hlen],gD ns _ (wN _),List.take_length]
  rw[e];exact⟨.int ns.sum,H,I.kept (t':=tk) λ b o eb=>kp b o (λ U=>absurd (wR eb) (by rw[jP.mp U];exact QX _)) (zS _ eb),⟨t',rfl⟩,q⟩
noncomputable def kq(ns:List Int):Bool:=decide (ns.length<=1000)&&ns.all λ i=>decide (0<=i)&&decide (i<=1000000)
theorem nz:∀{ns:List Int},(∀i∈ns,0<=i/\i<=1000000)->0<=ns.sum/\ns.sum<=1000000*ns.length
 |[],_=>by simp
 |i::r,h=>by have I:=h i uT;have J:=nz (ns:=r) λ j C=>h j (uN _ C);grind
noncomputable def DV:List D->Option D
 |[.lst es]=>(b_ es).bind λ ns=>if kq ns=true then some (.int ns.sum)else none
 |_=>none
theorem Kz{K:PySem.W.Frag}:iB (Hu K) DV:= λ c U S G T H ds vs d Q l s e k=>by
 unfold DV at e;split at e;. rename_i es;cases q:b_ es with
  |none=>rw[q]at e;cases e
  |some ns=>
   rw[q]at e;simp only[Option.bind_some]at e;split at e
   .rename_i hs;cases e;obtain⟨v,rfl,r⟩:=tE (s.st.left l);obtain⟨p,ws,rfl,I,J⟩:=r.lst;have:=c_ J q;subst this;simp[kq]at hs;refine⟨p,ns,rfl,.inl (Rd.mono bq I),λ j hj=>?_,λ i C=>?_,k _ _ (s.stk (.cons .mkI (s.st.right l)))⟩;. have:=nz (ns:=ns.take j) λ i C=>hs.2 i (List.mem_of_mem_take C);have hl:(ns.take j).length<=1000:=Q3 (List.length_take_le ..) (by omega);exact⟨by omega,by omega⟩
    .have:=hs.2 i C;exact⟨by omega,by omega⟩
   grind
 grind
theorem KY(hm:X.mg "sum"=none)(C:DA X [a] fs)(I:autoParam (Gl X "sum") aQ0._auto_1)(J:autoParam (X.calm=true) aQ0._auto_1)(he:autoParam (i4 X a) aQ0._auto_1):DE X (.Call (.Name "sum" p) [a] [] pos) (mC DV fs):=
 dU (yu J) Kz I hm PyProof.Rows.boot_sum C (by decide) (by rfl) he rfl
end
end Jt
namespace Jt
open PySem L2
structure Kn (P:Program) (w:World) (K:PySem.W.Frag) (mg:Str->Option Value) (base:Heap) (CX:zV) (k:Nat) (x:Str) (ps:List Str) (sp:Sp):Prop where
 ex:∃f fd,dX P w K mg base CX k f fd ps sp/\mg x=some (.ref f)/\PySem.W.keepIn K (.ref f)=true/\Binds K fd ps []
structure Ent (K:PySem.W.Frag) (mg:Str->Option Value) (x:Str) (ps:List Str) (st:Stmt):Prop where
 ex:∃f fd,DD K x x st f fd/\mg x=some (.ref f)/\Binds K fd ps []
structure Fh (K:PySem.W.Frag) (x:Str) (st:Stmt):Prop where
 ex:∃(f:Addr) (oc:Value) (od:Option Addr) (kV dc pm:Value) (an:Option Addr) (cd ct:Value) (sl:Array (Option Value)),PySem.W.nsIn K mainGlobals x=some (some (.ref f))/\K.lookup f=some ⟨oc,od,.func (PySem.W.fnOf x x (d6 st) (bQ st) (aX st) .none kV dc pm an cd ct),sl⟩/\PySem.W.codeIn K cd x=true/\PySem.W.keepIn K (.ref f)=true
theorem fh_mk {kV dc pm cd ct:Value} (a:PySem.W.nsIn K mainGlobals x=some (some (.ref f))) (l:K.lookup f=some ⟨oc,od,.func (PySem.W.fnOf x x (d6 st) (bQ st) (aX st) .none kV dc pm an cd ct),sl⟩) (c:PySem.W.codeIn K cd x=true) (k:PySem.W.keepIn K (.ref f)=true):Fh K x st:=⟨f,oc,od,kV,dc,pm,an,cd,ct,sl,a,l,c,k⟩
section
variable {P:Program} {w:World} {K:PySem.W.Frag} {mg:Str->Option Value} {base:Heap} {CX:zV} {j k:Nat} {x:Str} {ps N:List Str} {sp:Sp} {st:Stmt} {body:M Fl}
theorem Kn.up(G:Kn P w K mg base CX j x ps sp)(h:j<=k):Kn P w K mg base CX k x ps sp:=let⟨⟨f,fd,F,m⟩⟩:=G;⟨⟨f,fd,F.mono h,m⟩⟩
theorem ent(X:K.In h)(G:h.Ns mainGlobals mg)(e:Fh K x st)(C:∀(kV doc pm:Value)(an:Option Addr)(cdv o:Value)(us:List Value),us.length=ps.length->bindArgs (PySem.W.fnOf x x (d6 st) (bQ st) (aX st) .none kV doc pm an cdv o) ⟨us,[]⟩=pure (ps.zip us)):Ent K mg x ps st:=by obtain⟨⟨f,I,od,kV,J,pm,an,cd,o,sl,a,l,c,k⟩⟩:=e;have F:=B9 (st:=st) l c k;exact⟨⟨f,_,F,WK X G a,F.binds C⟩⟩
theorem Qs(E:Ent K mg x ps st)(S:cg N ps (aX st))(o:∀(f:Addr)(cdv:Value)(A:Around)(outer:List Env)(s:Shared)(H:Hp)(E:XK),cb k (A.deeper (PyProof.Rows.envOfC x (aX st) s.heap.objs.size f cdv))->m_ (fU eZ P w K mg base N x (aX st) f cdv A outer s H E).nox (bQ st) body):
  Kn P w K mg base eZ (k+1) x ps (zJ ps.length (bL N body)):=let⟨⟨f,fd,F,m,b⟩⟩:=E;⟨⟨f,fd,Qf F S (o f),m,F.kp,b⟩⟩
theorem QG(E:Ent K mg x ps st)(S:cg N ps (aX st))(o:∀(f:Addr)(cdv:Value)(A:Around)(outer:List Env)(s:Shared)(H:Hp)(E:XK),cb k (A.deeper (PyProof.Rows.envOfC x (aX st) s.heap.objs.size f cdv))->m_ (fU eZ P w K mg base N x (aX st) f cdv A outer s H E).nox (bQ st) body):
  Kn P w K mg base eZ (k+1) x ps (Ly ps.length (gK N body)):=let⟨⟨f,fd,F,m,b⟩⟩:=E;⟨⟨f,fd,Qo F S (o f),m,F.kp,b⟩⟩
theorem Qv(E:Ent K mg x ps st)(S:cg N ps (aX st))(o:∀(f:Addr)(cdv:Value)(A:Around)(outer:List Env)(s:Shared)(H:Hp)(E:XK),cb k (A.deeper (PyProof.Rows.envOfC x (aX st) s.heap.objs.size f cdv))->m_ (fU eZ P w K mg base N x (aX st) f cdv A outer s H E).nox (bQ st) body):
  Kn P w K mg base eZ (k+1) x ps (Ll ps.length (jr N body)):=let⟨⟨f,fd,F,m,b⟩⟩:=E;⟨⟨f,fd,QE F S (o f),m,F.kp,b⟩⟩
theorem Pg{l:PySem.W.OpenLaw}{o:Addr}{st:Stmt}(X:K.In h)(G:h.Ns mainGlobals mg)(C:mg "law"=some (.ref o))(e:Fh K "law" st)(U:∀(kV I pm:Value)(an:Option Addr)(cd J:Value)(s:Shared)(v:Value),BindsTo s (PySem.W.fnOf "law" "law" (d6 st) (bQ st) (aX st) .none kV I pm an cd J) ⟨[v],[]⟩ [("_law_script",v)])
  {N:List Str}{body:M Fl}(S:cg N ["_law_script"] (aX st))
  (hG:∀(base:Heap)(f:Addr)(cdv:Value)(A:Around)(outer:List Env)(s:Shared)(H:Hp)(E:XK),cb k (A.deeper (PyProof.Rows.envOfC "law" (aX st) s.heap.objs.size f cdv))->m_ (fU eZ l.prog w K mg base N "law" (aX st) f cdv A outer s H E).nox (bQ st) body)
  {Sq:Sp}(hS:∀base f fd,dX l.prog w K mg base eZ (k+1) f fd ["_law_script"] (zJ 1 (bL N body))->dX l.prog w K mg base eZ (k+1) f fd ["_law_script"] Sq):
  ∃fd:FuncData,(∀(s:Shared)(v:Value),BindsTo s fd ⟨[v],[]⟩ [("_law_script",v)])/\∀base:Heap,K.In base->base.Ns mainGlobals mg->dX l.prog w K mg base eZ (k+1) o fd ["_law_script"] Sq:=by obtain⟨⟨f,oc,od,kV,I,pm,an,cd,J,sl,a,l,c,kp⟩⟩:=e;have e:=C.symm.trans (WK X G a);cases e;exact⟨_,U kV I pm an cd J,λ base _ _=>hS base _ _ (Qf (B9 (st:=st) l c kp) S (hG base o))⟩
end
section
variable {X:Cx} {k:Nat} {x:Str} {ps:List Str} {a:Expr} {es:List Expr} {fs:M (List D)} {p pos:Pos}
theorem aW{n:Nat}(G:Kn X.prog X.w X.K X.mg X.base eZ k x ps (zJ n mf))(I:cb k X.A)(J:DA X (a::es) fs)
  (U:autoParam (Gl X x) aQ0._auto_1)(o:autoParam ((x==("__debug__":Str))=false) aQ1._auto_1)(he:autoParam (DM X a es) aQ0._auto_1)(C:autoParam (Bf X pos es) aQ0._auto_1):
  DE X (.Call (.Name x p) (a::es) [] pos) (mC (λ ds=>if ds.length=n then mf ds else none) fs):=let⟨⟨_,_,F,m,c,b⟩⟩:=G;Hg F I m c b J U o he C
theorem dA{n:Nat}(G:Kn X.prog X.w X.K X.mg X.base eZ k x ps (Ly n mf))(I:cb k X.A)(J:DA X (a::es) fs)
  (U:autoParam (Gl X x) aQ0._auto_1)(o:autoParam ((x==("__debug__":Str))=false) aQ1._auto_1)(he:autoParam (DM X a es) aQ0._auto_1)(C:autoParam (Bf X pos es) aQ0._auto_1):
  DF X (.Call (.Name x p) (a::es) [] pos) (mC (λ ds=>if ds.length=n then mf ds else none) fs):=let⟨⟨_,_,F,m,c,b⟩⟩:=G;Fy F I m c b J U o he C
theorem bJ(i:Nat){mf:List D->List D->Option (D×List D)}{n:Nat}{y:Str}{py:Pos}(G:Kn X.prog X.w X.K X.mg X.base eZ k x ps (Ll n mf))(J:cb k X.A)(U:DA X es fs)
  (hN:autoParam (Nm X i y) aQ2._auto_1)
  (hg:autoParam (Gl X x) aQ0._auto_1)(C:autoParam ((x==("__debug__":Str))=false) aQ1._auto_1)(he:autoParam (starEach (.Name y py::es) X.env=(false,eval (.Name y py) X.env)::starEach es X.env) aQ0._auto_1)(I:autoParam (Bf X pos es) aQ0._auto_1):
  DE X (.Call (.Name x p) (.Name y py::es) [] pos) (do let _<- cZ i;rP i n mf fs):=let⟨⟨_,_,F,m,c,b⟩⟩:=G;xK i F J m c b U hN hg C he I
theorem sf{p:Pos}(h:∃t,X.mg x=some (.int v t))(o:autoParam (Gl X x) aQ0._auto_1)(hd:autoParam ((x==("__debug__":Str))=false) aQ1._auto_1):DE X (.Name x p) (pure (.int v)):=let⟨_,m⟩:=h;Bu m o hd
end
section
variable {P:Program} {w:World} {K:PySem.W.Frag} {mg:Str->Option Value} {base:Heap} {CX:zV} {j k:Nat} {x:Str} {ps:List Str} {sp:Sp} {st:Stmt}
theorem Kn.u (G:Kn P w K mg base CX j x ps sp) (h:autoParam (j ≤ k) aQ1._auto_1):Kn P w K mg base CX k x ps sp:=G.up h
theorem Lj {P:List Value->Prop} (h:P []) (us:List Value) (e:us.length=0):P us:=by cases us with | nil=>exact h | cons=>cases e
theorem uk {P:List Value->Prop} {n:Nat} (h:∀a us,us.length=n->P (a :: us)) (us:List Value) (e:us.length=n + 1):P us:=by cases us with | nil=>cases e | cons a r=>exact h a r (Nat.succ.inj e)
theorem cx {h:Heap} (X:K.In h) (G:h.Ns mainGlobals mg) (e:Fh K x st) (hb:∀(kV doc pm:Value) (an:Option Addr) (cdv ct:Value) (us:List Value),us.length=ps.length->bindArgs (PySem.W.fnOf x x (d6 st) (bQ st) (aX st) .none kV doc pm an cdv ct) ⟨us,[]⟩=pure (ps.zip us):= by
  intro _ _ _ _ _ _
  first
  | exact Lj rfl
  | exact uk fun _=>Lj rfl
  | exact uk fun _=>uk fun _=>Lj rfl
  | exact uk fun _=>uk fun _=>uk fun _=>Lj rfl
  | exact uk fun _=>uk fun _=>uk fun _=>uk fun _=>Lj rfl
  | exact uk fun _=>uk fun _=>uk fun _=>uk fun _=>uk fun _=>Lj rfl):Ent K mg x ps st:=ent X G e hb
end
noncomputable abbrev Zq:=Shared × Hp × List Addr × List (Addr × Obj)
noncomputable abbrev bk (X:Cx) (N' own:List Str) (scope:Scope) (z:Zq):Cx:=blk X N' own scope z.1 z.2.1 z.2.2.1 z.2.2.2
structure Cp (X:Cx) (elt tg iter:Expr) (ifs:List Expr) (scope:Scope) (N' own:List Str) (lo n:Nat) (fi:M iQ) (gt:D->M Unit) (tt:M Bool) (te:M D):Prop where
 hn:own.length=n
 hi:DC X tg iter fi
 hg:∀z,DG (bk X N' own scope z) lo tg gt
 ht:∀z,oY (bk X N' own scope z) ifs (qj tt)
 he:∀z,DE (bk X N' own scope z) elt te
 hS:cM N' own X.env.scope scope=true
 hM:cG X.N N' scope=true
 hk:scope.kind=.function
 hc:X.calm=true
 hs:∀x,foldedSetIterable iter X.env x=pure x
section
variable {X:Cx} {elt tg iter t:Expr} {ifs:List Expr} {scope:Scope} {fi:M iQ} {gt:D->M Unit} {tt:M Bool} {te:M D} {pos p:Pos}
theorem O6 (N' own:List Str) (lo:Nat) {n:Nat} (hi:DC X tg iter fi) (hg:(N' ++ own).Nodup->∀z,DG (bk X N' own scope z) lo tg gt) (ht:∀z,oY (bk X N' own scope z) ifs (qj tt)) (he:∀z,DE (bk X N' own scope z) elt te) (nd:(N' ++ own).Nodup:=by decide +kernel) (hn:autoParam (own.length=n) aQ0._auto_1)
  (hS:autoParam (cM N' own X.env.scope scope=true) aQ0._auto_1) (hM:autoParam (cG X.N N' scope=true) aQ0._auto_1) (hk:autoParam (scope.kind=.function) aQ0._auto_1) (hc:autoParam (X.calm=true) aQ0._auto_1) (hs:∀x,foldedSetIterable iter X.env x=pure x:=by intro _;rfl):Cp X elt tg iter ifs scope N' own lo n fi gt tt te:=⟨hn,hi,hg nd,ht,he,hS,hM,hk,hc,hs⟩
theorem Di (N':List Str) (x:Str) (lo:Nat) (hi:DC X (.Name x p) iter fi) (ht:∀z,DT (bk X N' [x] scope z) t tt) (he:∀z,DE (bk X N' [x] scope z) elt te) (nd:(N' ++ [x]).Nodup:=by decide +kernel) (h1:autoParam ((N' ++ [x])[lo]? = some x) aQ0._auto_1) (h2:∀z,Loc (bk X N' [x] scope z).env.scope x:=by intro _;first | exact Or.inl rfl | exact Or.inr rfl)
  (h3:∀z,(bk X N' [x] scope z).fn x=true ∨ (bk X N' [x] scope z).env.scope.names.lookup x=some .local:=by intro _;first | exact .inl rfl | exact .inr rfl)
  (hS:autoParam (cM N' [x] X.env.scope scope=true) aQ0._auto_1) (hM:autoParam (cG X.N N' scope=true) aQ0._auto_1) (hk:autoParam (scope.kind=.function) aQ0._auto_1) (hc:autoParam (X.calm=true) aQ0._auto_1) (hs:∀x,foldedSetIterable iter X.env x=pure x:=by intro _;rfl):Cp X elt (.Name x p) iter [t] scope N' [x] lo 1 fi (ka lo) tt te :=
 ⟨rfl,hi,fun z=>bu lo nd (wN _) h1 (h2 z) (h3 z),fun z=>oW (ht z),he,hS,hM,hk,hc,hs⟩
theorem p7 (N':List Str) (x:Str) (lo:Nat) (hi:DC X (.Name x p) iter fi) (he:∀z,DE (bk X N' [x] scope z) elt te) (nd:(N' ++ [x]).Nodup:=by decide +kernel) (h1:autoParam ((N' ++ [x])[lo]? = some x) aQ0._auto_1) (h2:∀z,Loc (bk X N' [x] scope z).env.scope x:=by intro _;first | exact Or.inl rfl | exact Or.inr rfl)
  (h3:∀z,(bk X N' [x] scope z).fn x=true ∨ (bk X N' [x] scope z).env.scope.names.lookup x=some .local:=by intro _;first | exact .inl rfl | exact .inr rfl)
  (hS:autoParam (cM N' [x] X.env.scope scope=true) aQ0._auto_1) (hM:autoParam (cG X.N N' scope=true) aQ0._auto_1) (hk:autoParam (scope.kind=.function) aQ0._auto_1) (hc:autoParam (X.calm=true) aQ0._auto_1) (hs:∀x,foldedSetIterable iter X.env x=pure x:=by intro _;rfl):Cp X elt (.Name x p) iter [] scope N' [x] lo 1 fi (ka lo) (pure true) te :=
 ⟨rfl,hi,fun z=>bu lo nd (wN _) h1 (h2 z) (h3 z),fun _=>jg,he,hS,hM,hk,hc,hs⟩
variable {N' own:List Str} {lo n:Nat}
theorem cz (c:Cp X elt tg iter ifs scope N' own lo n fi gt tt te):DF X (.ListComp elt [⟨tg,iter,ifs,0⟩] scope pos) (f_ lo n fi (gp gt tt te)):= by
 obtain ⟨rfl,hi,hg,ht,he,hS,hM,hk,hc,hs⟩:=c
 exact E8 hi (fun s H fp pins=>hg (s,H,fp,pins)) (fun s H fp pins=>ht (s,H,fp,pins)) (fun s H fp pins=>he (s,H,fp,pins)) hS hM hk hc hs
theorem lK (i:Nat) {x:Str} {pos'' pos1:Pos} (hN:X.N.Nodup) (c:Cp X elt tg iter ifs scope N' own lo n fi gt tt te) (hx0:autoParam (X.N[i]? = some x) aQ0._auto_1) (hx:autoParam (X.env.scope.names.lookup x=some .local) aQ0._auto_1)
  (hsw:autoParam (swapsWith (.ListComp elt [⟨tg,iter,ifs,0⟩] scope pos) (some (.Name x pos'')) pos1.line X.env=pure true) aQ0._auto_1) :
  nV X (.Assign [.Name x pos''] (.ListComp elt [⟨tg,iter,ifs,0⟩] scope pos) pos1) (uj i (do let xs <- f_ lo n fi (gp gt tt te);pure (.lst xs))):= by
 obtain ⟨rfl,hi,hg,ht,he,hS,hM,hk,hc,hs⟩:=c
 exact Bq i hN hi (fun s H fp pins=>hg (s,H,fp,pins)) (fun s H fp pins=>ht (s,H,fp,pins)) (fun s H fp pins=>he (s,H,fp,pins)) hx0 hx hsw hS hM hk hc hs
end
structure Cw where
 P:Program
 w:World
 K:PySem.W.Frag
 mg:Str->Option Value
 base:Heap
noncomputable abbrev HP (n:Nat) (x:Str) (N:List Str) (b:M Fl) (c:Cw) (k:Nat):Prop:=Kn c.P c.w c.K c.mg c.base eZ k x (N.take n) (zJ n (bL N b))
noncomputable abbrev HF (n:Nat) (x:Str) (N:List Str) (b:M Fl) (c:Cw) (k:Nat):Prop:=Kn c.P c.w c.K c.mg c.base eZ k x (N.take n) (Ly n (gK N b))
noncomputable abbrev HB (n:Nat) (x:Str) (N:List Str) (b:M Fl) (c:Cw) (k:Nat):Prop:=Kn c.P c.w c.K c.mg c.base eZ k x (N.take n) (Ll n (jr N b))
structure Pk {B:Type} (H:Nat->Str->List Str->B->Cw->Nat->Prop) (n:Nat) (x:Str) (N:List Str) (st:Stmt) (φ:Cw->Nat->Prop->Prop) where
 m:B
 h:∀{c:Cw} {k:Nat},Ent c.K c.mg x (N.take n) st->φ c k (H n x N m c (k + 1))
noncomputable abbrev Pk.H {B:Type} {H:Nat->Str->List Str->B->Cw->Nat->Prop} {n:Nat} {x:Str} {N:List Str} {st:Stmt} {φ:Cw->Nat->Prop->Prop} (p:Pk H n x N st φ):Cw->Nat->Prop:=H n x N p.m
structure Qk (N:List Str) (st:Stmt) (φ:Cw->Nat->Prop->Prop) where
 m:M Fl
 h:∀{c:Cw} {k:Nat} {f:Addr} {cdv:Value} {A:Around} {outer:List Env} {s:Shared} {H:Hp} {E:XK},cb k (A.deeper (PyProof.Rows.envOfC "law" (aX st) s.heap.objs.size f cdv))->φ c k (m_ (fU eZ c.P c.w c.K c.mg c.base N "law" (aX st) f cdv A outer s H E).nox (bQ st) m)
section
variable {P:Program} {w:World} {K:PySem.W.Frag} {mg:Str->Option Value} {base:Heap} {k:Nat} {x:Str} {ps N:List Str} {st:Stmt}
theorem kP {body:M Fl} (E:Ent K mg x ps st) (hb:∀{f:Addr} {cdv:Value} {A:Around} {outer:List Env} {s:Shared} {H:Hp} {E:XK},N.Nodup->cb k (A.deeper (PyProof.Rows.envOfC x (aX st) s.heap.objs.size f cdv))->m_ (fU eZ P w K mg base N x (aX st) f cdv A outer s H E).nox (bQ st) body) (S:cg N ps (aX st):=by exact ⟨rfl,rfl,rfl,by decide +kernel,rfl,by decide +kernel,by decide +kernel⟩):Kn P w K mg base eZ (k + 1) x ps (zJ ps.length (bL N body)):=Qs E S fun _ _ _ _ _ _ _ r=>hb S.nd r
theorem kF {body:M Fl} (E:Ent K mg x ps st) (hb:∀{f:Addr} {cdv:Value} {A:Around} {outer:List Env} {s:Shared} {H:Hp} {E:XK},N.Nodup->cb k (A.deeper (PyProof.Rows.envOfC x (aX st) s.heap.objs.size f cdv))->m_ (fU eZ P w K mg base N x (aX st) f cdv A outer s H E).nox (bQ st) body) (S:cg N ps (aX st):=by exact ⟨rfl,rfl,rfl,by decide +kernel,rfl,by decide +kernel,by decide +kernel⟩):Kn P w K mg base eZ (k + 1) x ps (Ly ps.length (gK N body)):=QG E S fun _ _ _ _ _ _ _ r=>hb S.nd r
theorem kB {body:M Fl} (E:Ent K mg x ps st) (hb:∀{f:Addr} {cdv:Value} {A:Around} {outer:List Env} {s:Shared} {H:Hp} {E:XK},N.Nodup->cb k (A.deeper (PyProof.Rows.envOfC x (aX st) s.heap.objs.size f cdv))->m_ (fU eZ P w K mg base N x (aX st) f cdv A outer s H E).nox (bQ st) body) (S:cg N ps (aX st):=by exact ⟨rfl,rfl,rfl,by decide +kernel,rfl,by decide +kernel,by decide +kernel⟩):Kn P w K mg base eZ (k + 1) x ps (Ll ps.length (jr N body)):=Qv E S fun _ _ _ _ _ _ _ r=>hb S.nd r
end
end Jt
namespace L2
open PySem
noncomputable def N6(h:Heap)(d:Addr):Prop:=∃o es,h.get? d=some o/\o.data= .dict es es.size
theorem N6.of (h1:h.get? d=some o) (h2:o.data=.dict es n) (h3:n=es.size):N6 h d:=⟨o,es,h1,h3 ▸ h2⟩
section
variable {prog:Program} {w:World} {K:Type} [DecidableEq K] {knd:HeapKind prog w K} {A:Around} {E:Value->Shared->Prop} {s:Shared}
theorem tV{d a:Addr}{xs:List (K×Addr×Value)}{k:K}{v:Value}{Q:Unit->Shared->Prop}(hu:knd.room A)(C:knd.is s.heap k a)(hm:s.heap.DictOfH knd d xs)(ae:N6 s.heap d)
  (hQ:∀h',h'.DictOfH knd d (storedH xs k a v)->N6 h' d->Heap.SameBut d s.heap h'->Q () { s with heap:=h',toks:=s.toks+knd.draws k })
  (hsz:xs.length<=sizeLine:=by size_fits):
  wpAny (model prog w) A (dictSet d (.ref a) v) Q E s:=by
 obtain⟨o,es,ep,I,hc,hd,he,U,hn⟩:=hm;obtain⟨o2,af,aa,hd2⟩:=ae;rw[I]at aa;cases aa;rw[hd]at hd2;cases hd2;unfold dictSet;try with_reducible refine Q1 ?_
 refine zN (knd.pyHash hu C ?_);unfold dictSetHashed;try with_reducible refine Q1 ?_
 refine zN (wpAny_dictFind_heap (s:={ s with toks:=s.toks+knd.draws k }) hu C I hd he U hn ?_ ?_)
 .intro J;have ab:k∉xs.map (·.1):=not_mem_keys_of_get J;refine zN (V5 (wpAny_updateDictKeys (hz:=by have e:=size_of_entries he;omega) (s:={ s with toks:=s.toks+knd.draws k }) I hd (hQ _ ⟨_,_,es.size+1,ZJ _ I (WA (Y6 hd _)),
   hc.mapDictKeys _,Y6 hd _,?_,?_,?_⟩ (.of (ZJ _ I (WA (Y6 hd _))) (Y6 hd _) ?_) (Q4 ..))));. rw[storedH_new (atKey_none_of_get J)];simp[he,entryOfKey]
  .rw[storedH_new (atKey_none_of_get J)];intro x hx;rcases fD.mp hx with hx|hx
   .exact knd.keeps (U x hx) I hd (Q4 ..)
   .simp[jP]at hx;subst hx;exact knd.keeps C I hd (Q4 ..)
  .rw[storedH_new (atKey_none_of_get J),ZP,VZ];refine⟨hn,by simp,?_⟩;intro x hx y hy;simp at hy;subst hy;exact λ e=>ab (e▸hx)
  simp
 .intro j p hj;refine zN (V5 (zN (wpAny_updateDict (s:={ s with toks:=s.toks+knd.draws k }) I hd (wpAny_point (hQ _ ⟨_,_,es.size,ZJ _ I (WA (XC hd _)),
   hc.mapDict _,XC hd _,?_,?_,?_⟩ (.of (ZJ _ I (WA (XC hd _))) (XC hd _) ?_) (Q4 ..))))));. rw[storedH_old (atKey_of_get hn hj)];have:=modify_map_putAt (entryOfKey knd) (λ e:DictEntry=>{ e with val:=v }) k v (λ _ _=>rfl) hn hj;rw[<- he]at this;simpa using this
  .rw[storedH_old (atKey_of_get hn hj)];intro x hx;obtain⟨y,hy,rfl⟩:=fN.mp hx;unfold putAt;split <;> exact knd.keeps (U y hy) I hd (Q4 ..)
  .rw[storedH_old (atKey_of_get hn hj),keys_map_putAt];exact hn
  .simp
end
end L2
namespace L2
open PySem PySem.Spec PyProof.Rows
section
variable {κ:Type} [DecidableEq κ]
noncomputable def valV (kvs:List (κ × V)) (k:κ):Option V:=(kvs.find? fun kv=>decide (kv.1=k)).map (·.2)
noncomputable def putK (kvs:List (κ × V)) (k:κ) (v:V):List (κ × V) :=
 if (kvs.any fun kv=>decide (kv.1=k))=true then kvs.map (fun kv=>if kv.1=k then (kv.1,v) else kv) else kvs ++ [(k,v)]
theorem valV_pos {p:κ × V} {r:List (κ × V)} {k:κ} (e:p.1=k):valV (p :: r) k=some p.2:=by simp [valV,V6,e]
theorem valV_neg {p:κ × V} {r:List (κ × V)} {k:κ} (e:¬ p.1=k):valV (p :: r) k=valV r k:=by simp [valV,V6,e]
theorem valV_any (k:κ):∀kvs:List (κ × V),(kvs.any fun kv=>decide (kv.1=k))=(valV kvs k).isSome
 | []=>rfl
 | p :: r=>by
  rw [XG]
  by_cases e:p.1=k
  .simp only [valV_pos e,QN e,Bool.true_or,Option.isSome_some]
  .rw [valV_neg e,QR e,Bool.false_or];exact valV_any k r
theorem length_putK (kvs:List (κ × V)) (k:κ) (v:V):(putK kvs k v).length ≤ kvs.length + 1:= by
 unfold putK
 split
 .rw [uL];omega
 .rw [gE,QU,VO];omega
theorem RelO.isSome_eq {o:Option V} {u:Option Value} (r:RelO o u):o.isSome=u.isSome:= by
 cases o with
 | none=>cases u with
  | none=>rfl
  | some _=>exact (show False from r).elim
 | some _=>cases u with
  | none=>exact (show False from r).elim
  | some _=>rfl
theorem KV.val {kvs:List (κ × V)} {vs:List (κ × Value)} (r:KV kvs vs) (k:κ):RelO (valV kvs k) (valueAt vs k):= by
 unfold KV at r
 induction r with
 | nil=>exact True.intro
 | @cons p q ps qs h t ih=>
  obtain ⟨h1,h2⟩:=h
  by_cases e:p.1=k
  .have e':q.1=k:=h1.symm.trans e
   have b:valueAt (q :: qs) k=some q.2:=by simp [valueAt,V6,e']
   rw [valV_pos e,b];exact h2
  .have e':¬ q.1=k:=fun z=>e (h1.trans z)
   have b:valueAt (q :: qs) k=valueAt qs k:=by simp [valueAt,V6,e']
   rw [valV_neg e,b];exact ih
theorem KV.any {kvs:List (κ × V)} {vs:List (κ × Value)} (r:KV kvs vs) (k:κ):(kvs.any fun kv=>decide (kv.1=k))=vs.any fun kv=>decide (kv.1=k):= by
 unfold KV at r
 induction r with
 | nil=>rfl
 | cons h t ih=>rw [XG,XG,ih,h.1]
theorem KV.repl {kvs:List (κ × V)} {vs:List (κ × Value)} (r:KV kvs vs) (k:κ) {y:V} {u:Value} (ry:RelV y u) :
  KV (kvs.map fun kv=>if kv.1=k then (kv.1,y) else kv) (vs.map fun kv=>if kv.1=k then (kv.1,u) else kv):= by
 unfold KV at r ⊢
 induction r with
 | nil=>exact .nil
 | @cons p q ps qs h t ih=>
  rw [ZH,ZH]
  refine .cons ?_ ih
  obtain ⟨h1,h2⟩:=h
  by_cases e:p.1=k
  .rw [gA e,gA (h1.symm.trans e)];exact ⟨h1,ry⟩
  .rw [gL e,gL (fun z=>e (h1.trans z))];exact ⟨h1,h2⟩
theorem KV.put {kvs:List (κ × V)} {vs:List (κ × Value)} (r:KV kvs vs) (k:κ) {y:V} {u:Value} (ry:RelV y u):KV (putK kvs k y) (stored vs k u):= by
 unfold putK stored
 rw [r.any k]
 by_cases e:(vs.any fun kv=>decide (kv.1=k))=true
 .rw [gA e,gA e];exact r.repl k ry
 .rw [gL e,gL e];exact Paired.snoc r ⟨rfl,ry⟩
theorem KV.length {kvs:List (κ × V)} {vs:List (κ × Value)} (r:KV kvs vs):kvs.length=vs.length:=XF r
end
theorem kV_is {P:Program} {w:World} {k:Key} {u:Value} (r:RelV (kV k) u):(cC P w).is k u=true:= by
 cases k with
 | inl i=>obtain ⟨t,e⟩:=(show ∃t,u=Value.int i t from r);subst e;exact rV P w i t
 | inr x=>obtain ⟨t,e⟩:=(show ∃t,u=Value.str x t from r);subst e;exact qT P w x t
theorem items_are {P:Program} {w:World}:∀{ks:List Key} {us:List Value},Vals (ks.map kV) us->ItemsAre (cC P w) ks us
 | [],_,r=>by rw [List.map_nil] at r;cases r;exact .nil
 | k :: ks,_,r=>by
  rw [ZH] at r
  cases r with
  | cons h t=>exact .cons (kV_is h) (items_are t)
noncomputable abbrev KT (H:Hp):List (List Key × V)->List (List Key × Addr × Value)->Prop:=Paired fun p q=>p.1=q.1/\H q.2.1=some (.tup (p.1.map kV))/\RelV p.2 q.2.2
theorem KT.val {H:Hp} {kvs:List (List Key × V)} {xs:List (List Key × Addr × Value)} (r:KT H kvs xs) (k:List Key):RelO (valV kvs k) ((atKey xs k).map (·.2)):= by
 induction r with
 | nil=>exact True.intro
 | @cons p q ps qs h t ih=>
  obtain ⟨h1,_,h2⟩:=h
  by_cases e:p.1=k
  .have e':q.1=k:=h1.symm.trans e
   have b:atKey (q :: qs) k=some q.2:=by simp [atKey,V6,e']
   rw [valV_pos e,b];exact h2
  .have e':¬ q.1=k:=fun z=>e (h1.trans z)
   have b:atKey (q :: qs) k=atKey qs k:=by simp [atKey,V6,e']
   rw [valV_neg e,b];exact ih
theorem KT.repl {H:Hp} {kvs:List (List Key × V)} {xs:List (List Key × Addr × Value)} (r:KT H kvs xs) (k:List Key) {y:V} {u:Value} (ry:RelV y u) :
  KT H (kvs.map fun kv=>if kv.1=k then (kv.1,y) else kv) (xs.map (putAt k u)):= by
 induction r with
 | nil=>exact .nil
 | @cons p q ps qs h t ih=>
  rw [ZH,ZH]
  refine .cons ?_ ih
  obtain ⟨h1,h2,h3⟩:=h
  unfold putAt
  by_cases e:p.1=k
  .rw [gA e,gA (h1.symm.trans e)];exact ⟨h1,h2,ry⟩
  .rw [gL e,gL (fun z=>e (h1.trans z))];exact ⟨h1,h2,h3⟩
theorem KT.put {H:Hp} {kvs:List (List Key × V)} {xs:List (List Key × Addr × Value)} (r:KT H kvs xs) (k:List Key) {b:Addr} {y:V} {u:Value} (hb:H b=some (.tup (k.map kV))) (ry:RelV y u) :
  KT H (putK kvs k y) (storedH xs k b u):= by
 have e:(kvs.any fun kv=>decide (kv.1=k))=(atKey xs k).isSome:= by
  rw [valV_any,(r.val k).isSome_eq,Option.isSome_map]
 unfold putK storedH
 rw [e]
 by_cases q:(atKey xs k).isSome=true
 .rw [gA q,gA q];exact r.repl k ry
 .rw [gL q,gL q];exact Paired.snoc r ⟨rfl,hb,ry⟩
theorem KT.keeps {H H':Hp} {kvs:List (List Key × V)} {xs:List (List Key × Addr × Value)} (r:KT H kvs xs) (ht:∀b ys,H b=some (.tup ys)->H' b=some (.tup ys)):KT H' kvs xs :=
 Paired.mapP r fun _ _ z=>⟨z.1,ht _ _ z.2.1,z.2.2⟩
section
variable {P:Program} {w:World} {H:Hp} {h:Heap} {a:Addr}
theorem rd_of {u:HO} (ok:iC P w H h) (e:Rd H a u):b4 P w H h a u:=e.ok ok
theorem dk_rd {kvs:List (Key × V)} (ok:iC P w H h) (e:Rd H a (.dK kvs)):kvs.length ≤ sizeLine/\(a == sysModules)=false/\∃vs,KV kvs vs/\h.DictOf (cC P w) a vs :=
 show b4 P w H h a (.dK kvs) from rd_of ok e
theorem dk_of {kvs:List (Key × V)} (ok:iC P w H h) (e:H a=some (.dK kvs)):kvs.length ≤ sizeLine/\(a == sysModules)=false/\∃vs,KV kvs vs/\h.DictOf (cC P w) a vs:=dk_rd ok (.inl e)
theorem key_of {ks:List Key} (ok:iC P w H h) (e:H a=some (.tup (ks.map kV))):(tupleKind (cC P w)).is h ks a:= by
 obtain ⟨_,its,r,⟨o,h1,h2,n,h3⟩,_⟩:=(show b4 P w H h a (.tup (ks.map kV)) from ok a _ e)
 exact ⟨o,its.toArray,n,h1,h2,h3,by simpa using items_are r⟩
theorem dt_rd {kvs:List (List Key × V)} (ok:iC P w H h) (e:Rd H a (.dT kvs)):kvs.length ≤ sizeLine/\(a == sysModules)=false /\
  ∃xs,KT H kvs xs/\h.DictOfH (tupleKind (cC P w)) a xs:= by
 obtain ⟨z,y,xs,r,o,es,ep,h1,h2,h3,h4,h5⟩:=(show b4 P w H h a (.dT kvs) from rd_of ok e)
 refine ⟨z,y,xs,r,o,es,ep,h1,h2,h3,h4,fun x hx=>?_,h5.1⟩
 have all:∀{l:List (List Key × V)} {m:List (List Key × Addr × Value)},KT H l m->∀x ∈ m,(tupleKind (cC P w)).is h x.1 x.2.1:= by
  intro l m q
  induction q with
  | nil=>intro x hx;exact nomatch hx
  | @cons p q ps qs hq t ih=>
   intro x hx
   rcases wW.mp hx with e | hx
   .subst e
    exact key_of ok (by rw [<- hq.1];exact hq.2.1)
   .exact ih x hx
 exact all r x hx
theorem dt_of {kvs:List (List Key × V)} (ok:iC P w H h) (e:H a=some (.dT kvs)):kvs.length ≤ sizeLine/\(a == sysModules)=false /\
  ∃xs,KT H kvs xs/\h.DictOfH (tupleKind (cC P w)) a xs:=dt_rd ok (.inl e)
end
theorem dt_ep {P:Program} {w:World} {H:Hp} {h:Heap} {a:Addr} {kvs:List (List Key × V)} (ok:iC P w H h) (e:Rd H a (.dT kvs)):N6 h a:= by
 obtain ⟨z,y,xs,r,o,es,ep,h1,h2,h3,h4,h5,h6⟩:=(show b4 P w H h a (.dT kvs) from rd_of ok e)
 exact .of h1 h3 h6
noncomputable def DGet (H:Hp) (a:Addr) (y:V) (r:Option V):Prop :=
 (∃kvs k,Rd H a (.dK kvs)/\y=kV k/\r=valV kvs k) ∨ ∃kvs k b,Rd H a (.dT kvs)/\y=.ref b/\H b=some (.tup (k.map kV))/\r=valV kvs k
noncomputable def DPut (H:Hp) (a:Addr) (y v:V) (H':Hp):Prop :=
 (∃kvs k,H a=some (.dK kvs)/\y=kV k/\kvs.length < sizeLine/\H' = upd H a (.dK (putK kvs k v))) ∨
 ∃kvs k b,H a=some (.dT kvs)/\y=.ref b/\H b=some (.tup (k.map kV))/\kvs.length < sizeLine/\H' = upd H a (.dT (putK kvs k v))
theorem DGet.k {H:Hp} {a:Addr} {kvs:List (Key × V)} {k:Key} (e:H a=some (.dK kvs)):DGet H a (kV k) (valV kvs k):=.inl ⟨kvs,k,.inl e,rfl,rfl⟩
theorem DGet.t {H:Hp} {a b:Addr} {kvs:List (List Key × V)} {k:List Key} (e:H a=some (.dT kvs)) (eb:H b=some (.tup (k.map kV))):DGet H a (.ref b) (valV kvs k):=.inr ⟨kvs,k,b,.inl e,rfl,eb,rfl⟩
theorem DPut.k {H:Hp} {a:Addr} {kvs:List (Key × V)} {k:Key} {v:V} (e:H a=some (.dK kvs)) (hl:kvs.length < sizeLine):DPut H a (kV k) v (upd H a (.dK (putK kvs k v))):=.inl ⟨kvs,k,e,rfl,hl,rfl⟩
theorem DPut.t {H:Hp} {a b:Addr} {kvs:List (List Key × V)} {k:List Key} {v:V} (e:H a=some (.dT kvs)) (eb:H b=some (.tup (k.map kV))) (hl:kvs.length < sizeLine) :
  DPut H a (.ref b) v (upd H a (.dT (putK kvs k v))):=.inr ⟨kvs,k,b,e,rfl,eb,hl,rfl⟩
section
variable {X:Cx} {pins:List (Addr × Obj)} {G:St} {H:Hp} {s:Shared} {a:Addr} {y v:V} {u:Value} {o:Option V} {A:Around} {E:Value->Shared->Prop}
theorem Inv.big (I:Inv X pins G H s):sysModules < s.heap.objs.size:= by
 have h:mainGlobals < s.heap.objs.size:=(I.mod.glob.keeps I.bk).lt
 exact XO (by decide) h
theorem d_getItem {Q:Value->Shared->Prop} (hu:A.units + 1 < cLine) (I:Inv X pins G H s) (g:DGet H a y (some v)) (ry:RelV y u) (h:∀w' s',Inv X pins G H s' -> RelV v w' -> Q w' s') :
  wpAny (model X.prog X.w) A (getItem (.ref a) u) Q E s:= by
 rcases g with ⟨kvs,k,e,ey,l⟩ | ⟨kvs,k,b,e,ey,eb,l⟩
 .subst ey
  obtain ⟨z,hd,vs,rel,dd⟩:=dk_rd I.hok e
  obtain ⟨w',hw,rw'⟩:=RelO.some_of (v:=v) (o:=valueAt vs k) (by rw [l];exact rel.val k)
  exact wpAny_getItem_of (kV_is ry) dd.mapOf hw (h w' _ (I.tok _) rw')
 .subst ey
  cases (show u=Value.ref b from ry)
  obtain ⟨z,hd,xs,rel,dd⟩:=dt_rd I.hok e
  obtain ⟨w',hw,rw'⟩:=RelO.some_of (v:=v) (o:=(atKey xs k).map (·.2)) (by rw [l];exact rel.val k)
  obtain ⟨p,hp,hp2⟩:=Option.map_eq_some_iff.mp hw
  refine wpAny_getItem_heap (tupleKind_room_in1 hu) (key_of I.hok eb) dd hp ?_
  rw [hp2]
  exact h w' _ (I.tok _) rw'
theorem d_write {h':Heap} {t':Nat} {ob:HO} (I:Inv X pins G H s) (mu:L9 (H a)) (hs:Heap.SameBut a s.heap h') (he:∃q,h'.get? a=some q) (new:b4 X.prog X.w (upd H a ob) h' a ob) :
  Inv X pins G (upd H a ob) { s with heap:=h',toks:=t' } :=
 I.write (x:=a) (e:=a) mu (.inl rfl) (fun b q hb z=>(hs.2 b hb).trans z) he new
theorem dk_new {P:Program} {w:World} {H':Hp} {h':Heap} {kvs:List (Key × V)} {vs:List (Key × Value)} (z:kvs.length ≤ sizeLine) (hd:(a == sysModules)=false) (rel:KV kvs vs) (dd:h'.DictOf (cC P w) a vs) :
  b4 P w H' h' a (.dK kvs):=⟨z,hd,vs,rel,dd⟩
end
theorem dict_typeIs {X:Cx} {pins:List (Addr × Obj)} {G:St} {H:Hp} {s:Shared} {a:Addr} {y:V} {o:Option V} (I:Inv X pins G H s) (g:DGet H a y o):s.TypeIs (.ref a) "dict":= by
 rcases g with ⟨kvs,k,e,_,_⟩ | ⟨kvs,k,b,e,_,_,_⟩
 .obtain ⟨_,_,vs,_,dd⟩:=dk_rd I.hok e
  exact dd.typeIs
 .obtain ⟨_,_,xs,_,dd⟩:=dt_rd I.hok e
  exact dd.typeIs
theorem dk_empty {P:Program} {w:World} {H:Hp} (h:Heap) (hb:sysModules < h.objs.size):b4 P w H (h.push { cls:=.type "dict",data:=.dict #[] }) h.objs.size (.dK []) :=
 ⟨ZG _,YJ.mpr (Ne.symm (fR hb)),[],.nil,Heap.DictOf.new h⟩
theorem dt_empty {P:Program} {w:World} {H:Hp} (h:Heap) (hb:sysModules < h.objs.size):b4 P w H (h.push { cls:=.type "dict",data:=.dict #[] }) h.objs.size (.dT []) :=
 ⟨ZG _,YJ.mpr (Ne.symm (fR hb)),[],.nil,_,#[],0,wF _ rfl,⟨rfl,rfl,rfl⟩,rfl,rfl,WX,rfl⟩
structure M1 (X:Cx) (o:Expr) (m:Str) (apos:Pos) (e:Expr) (cpos:Pos):Prop where
 base:attributeBase o m X.env (eval o X.env)=eval o X.env
 few:((backTo cpos (starEach [e] X.env)).all (fun x=>!x.1) && (backToKw cpos (keywordEach [] X.env)).all (fun x=>x.1.isSome)
  && decide (([e]:List Expr).length + ([]:List Keyword).length + (if ([]:List Keyword).isEmpty then 0 else 1) < 30))=true
 line:(apos.endLine == cpos.line)=true
 trees:backTo cpos (starEach [e] X.env)=[(false,eval e X.env)]
theorem nk{kx vx target iter:Expr}{ifs:List Expr}{scope:Scope}{pos:Pos}{it:Value}{D:Addr}{env:Env}(I:Nat->Shared->Prop)
  (turn:∀n s,I n s->wpAny (model prog w) A (pyNext it) (λ r s1=>match r with
   |none=>R (.ok .next) s1
   |some v=>wpAny (model prog w) A (letOwnedTupleGo target it v) (λ _ s2=>wpAny (model prog w) A (assign target env v) (λ _ s3=>
     wpAny (model prog w) A (forIn ifs true λ c r=>if r=true then do let ok<- isTrue c env (eval c env);pure (ForInStep.yield ok)else pure (ForInStep.yield r)) (λ ok s4=>
      if ok=true then wpAny (model prog w) A (eval kx env) (λ y s5=>wpAny (model prog w) A (eval vx env) (λ x s6=>
       wpAny (model prog w) A (dictSet D y x) (λ _ s7=>∃m,m<n/\I m s7) (λ _ _=>False) s6) (λ _ _=>False) s5) (λ _ _=>False) s4
      else∃m,m<n/\I m s4) (λ _ _=>False) s3) (λ _ _=>False) s2) (λ _ _=>False) s1) (λ _ _=>False) s)
  (n:Nat)(h:I n s):
  codeAny (model prog w) A (.compLoop (.DictComp kx vx [⟨target,iter,ifs,0⟩] scope pos) 0 it (.ref D) env) R s:=by refine codeAny_loop rfl I (λ n s hI=>?_) n h;show wpAny _ A ((compTurn (.DictComp kx vx [⟨target,iter,ifs,0⟩] scope pos) 0 it (.ref D) env).onRaise (λ x=>do noteFrame x env;theTreesLotGoes x)) _ _ s;refine wpAny_noted ?_;rw[compTurn_dict];refine zN (VE (zN (gO (turn n s hI) (λ r af o=>?_) λ _ _ h'=>h'.elim)));cases r with
 |none=>exact kT o
 |some v=>refine zN (gO o (λ _ ag J=>?_) λ _ _ h'=>h'.elim);refine zN (gO J (λ _ ah U=>zN (gO U (λ ok ai C=>?_) λ _ _ h'=>h'.elim)) λ _ _ h'=>h'.elim);cases ok with
  |false=>exact kT ⟨rfl,C⟩
  |true=>exact zN (zN (gO C (λ y aj aa=>zN (Q1 (gO aa (λ x ak ab=>zN (VE (Q1 (gO ab (λ _ ao ae=>kT ⟨rfl,ae⟩) λ _ _ h'=>h'.elim)))) λ _ _ h'=>h'.elim))) λ _ _ h'=>h'.elim))
section
variable {X:Cx} {pins:List (Addr × Obj)} {G:St} {H:Hp} {s:Shared} {a:Addr} {y v:V} {u r:Value} {A:Around} {E:Value->Shared->Prop}
theorem oG(hu:A.units<cLine)(I:Inv X pins G H s)(g:DPut H a y v H')(ry:RelV y u)(rv:RelV v r)(h:∀s',Inv X pins G H' s'->Q () s'):
  wpAny (model X.prog X.w) A (dictSet a u r) Q E s:=by
 rcases g with⟨kvs,k,e,U,l,eH⟩|⟨kvs,k,b,e,U,eb,l,eH⟩
 .subst U eH;obtain⟨z,hd,vs,rel,dd⟩:=dk_of I.hok e;have hz:vs.length<=sizeLine:=by rw[<- rel.length];exact z
  have hl:(putK kvs k v).length<=sizeLine:=by have:=length_putK kvs k v;omega
  refine wpAny_dictSet_pairs (kV_is ry) dd (λ h' o hs=>h _ ?_) hz;have he:∃q,h'.get? a=some q:=let⟨q,_,_,C,_⟩:=o;⟨q,C⟩;exact d_write I (by rw[e];exact True.intro) hs he (dk_new hl hd (rel.put k rv) o)
 .subst U eH;cases(show u=Value.ref b from ry);obtain⟨z,hd,xs,rel,dd⟩:=dt_of I.hok e;have hz:xs.length<=sizeLine:=by rw[<- XF rel];exact z
  have hl:(putK kvs k v).length<=sizeLine:=by have:=length_putK kvs k v;omega
  refine tV (knd:=tupleKind (cC X.prog X.w)) hu (key_of I.hok eb) dd (dt_ep I.hok (.inl e)) (λ h' o de hs=>h _ ?_) hz;obtain⟨q,es,ep,C,h2,h3,h4,_,h5⟩:=o;obtain⟨q2,aa,J,h6⟩:=de;rw[C]at J;cases J;rw[h3]at h6;cases h6;refine d_write I (by rw[e];exact True.intro) hs ⟨q,C⟩ ⟨hl,hd,_,(rel.put k eb rv).keeps λ c ys ec=>?_,q,es,_,C,h2,h3,h4,h5,rfl⟩;rw[a_ (MU ec e (λ z=>nomatch z))];omega
end
noncomputable def ua(wi:TI)(own:Nat)(g:TG)(tt:TT)(tk tv:TE):TE:= λ G H Q=>wi G H λ J H1=>∀l,H1 l=none->∃o0:HO,(o0= .dK []\/o0= .dT [])/\∃W:Nat->Nat->Hp->Prop,(∃m,W 0 m (upd H1 l o0))/\∀i m H,W i m H->
 ((J.stop i H/\Q (.ref l) H)\/(J.go i H/\∀x H',J.yld i H x H'->g x (G++List.replicate own none) H' λ o H2=>o.take G.length=G/\tt o H2 λ b I=>
  if b=true then tk o I λ y H4=>tv o H4 λ v H5=>∃U,DPut H5 l y v U/\∃C,C<m/\W (i+1) C U
  else∃C,C<m/\W (i+1) C I))
section
variable {X:Cx} {kx vx tg iter:Expr} {ifs:List Expr} {scope:Scope} {pos pos':Pos} {N' own:List Str} {wi:TI} {g:TG} {tt:TT} {tk tv:TE}
theorem C2 {cal:Cx->Prop} (hc:∀s H fp pins,cal (blk X N' own scope s H fp pins)) (hi:Ow cal X tg iter wi) (hk:scope.kind=.function) (hS:cM N' own X.env.scope scope=true) (hM:cG X.N N' scope=true)
  (hg:∀s H fp pins,PG (blk X N' own scope s H fp pins) tg g) (ht:∀s H fp pins,oY (blk X N' own scope s H fp pins) ifs tt) (he:∀s H fp pins,PE (blk X N' own scope s H fp pins) kx tk) (hv:∀s H fp pins,PE (blk X N' own scope s H fp pins) vx tv) (hu:X.A.units < cLine)
  (hs:∀x,foldedSetIterable iter X.env x=pure x) {use:Option (Value->Sem Unit)} {Q0:Value->Shared->Prop} {pins:List (Addr × Obj)} {s:Shared} {G:St} {H:Hp} {Q:VK}
  (I:Inv X pins G H s) (h:ua wi own.length g tt tk tv G H Q)
  (fin:∀(l:Addr) (H':Hp) (s':Shared) (C:Addr) (m:Str->Option Value),Inv X pins G H' s' -> Q (.ref l) H' -> s'.heap.Ns C m->H' C=none->C ≠ X.env.locals->X.s₀.heap.objs.size ≤ C->(∀x c,X.env.cells.lookup x=some c->c ≠ C)->(∀p ∈ X.pn ++ pins,p.1 ≠ C) ->
   compPost (model X.prog X.w) X.A X.xe use Q0 (.ref l) C (.ok .next) s') :
  wpAny (model X.prog X.w) X.A (comprehension (.DictComp kx vx [⟨tg,iter,ifs,0⟩] scope pos) scope X.env pos' newDict false (eval iter X.env) use) Q0 X.xe s:= by
 have S:=g_ hS
 have Mk:=ig hM
 refine WH rfl hs (dR fun n hn=>I.ok.has n (S.free n hn)) hk S.loc (b9 (hi pins s G H _ I h) fun xv s1 h1=>b9 h1 fun itv s2 h2=>?_)
 obtain ⟨it,fp,tn,J,H2,e,I2,T,st2,f2,q2⟩:=h2
 subst e
 refine QZ ?_
 have hl2:H2 s2.heap.objs.size=none:=I2.fresh
 obtain ⟨o0,ho0,W,⟨m0,w0⟩,turn⟩:=q2 s2.heap.objs.size hl2
 have I3:Inv X pins G (upd H2 s2.heap.objs.size o0) { s2 with heap:=s2.heap.push { cls:=.type "dict",data:=.dict #[] } }:= by
  rcases ho0 with rfl | rfl
  .exact I2.laid (t':=s2.toks) (fun _ _ q=>zS _ q) (wN _) (dk_empty s2.heap I2.big)
  .exact I2.laid (t':=s2.toks) (fun _ _ q=>zS _ q) (wN _) (dt_empty s2.heap I2.big)
 generalize hl:s2.heap.objs.size=l at *
 have ob2:∀b ∈ fp,b < l:=fun b hb=>by
  obtain ⟨o,e,_⟩:=T.obj _ _ st2 b hb
  rw [<- hl];exact wR e
 have st3:tn 0 (s2.heap.push { cls:=.type "dict",data:=.dict #[] }):=T.keep _ _ _ st2 fun b _ o e=>zS _ e
 have sz3:l < (s2.heap.push { cls:=.type "dict",data:=.dict #[] }).objs.size:=by rw [QO,hl];exact Z2 _
 have f3:∀b ∈ fp,dj X pins (upd H2 l o0) b:=fun b hb=>⟨by rw [a_ (fR (ob2 b hb))];exact (f2 b hb).1,(f2 b hb).2⟩
 generalize hs3:({ s2 with heap:=s2.heap.push { cls:=.type "dict",data:=.dict #[] } }:Shared)=s3 at I3
 have hh3:s3.heap=s2.heap.push { cls:=.type "dict",data:=.dict #[] }:=by rw [<- hs3]
 rw [<- hh3] at st3 sz3
 have ob3:∀b ∈ fp,b < s3.heap.objs.size:=fun b hb=>XO (ob2 b hb) sz3
 generalize upd H2 l o0=H3 at *
 show wpAny _ _ (newFunctionEnv scope X.env.globals (c7 X.env.cells scope.names []) [] X.env.qual none .none (some X.env)) _ _ _
 have goal:wpAny (model X.prog X.w) X.A (newFunctionEnv scope X.env.globals (c7 X.env.cells scope.names []) [] X.env.qual none .none (some X.env))
   (fun cenv s₄=>codeAny (model X.prog X.w) X.A (.compStart (.DictComp kx vx [⟨tg,iter,ifs,0⟩] scope pos) 0 (.ref it) (.ref l) { cenv with scope:=relabel scope X.env }) (compPost (model X.prog X.w) X.A X.xe use Q0 (.ref l) cenv.locals) s₄) X.xe s3:= by
  refine gM ?_
  have IY:=I3.blk f3 ob3 hk S Mk
  have keep:=@Inv.blkKeep s3 scope
  have st4:tn 0 (pushCells (s3.heap.push { cls:=.type "dict",data:=.dict #[] }) scope.names):=T.keep _ _ _ st3 fun b _ o e=>keep b o e
  have hcells:=h9 I3 S
  have stat:∀{H':Hp},(∀b ∈ fp,H' b=none)->∀b ∈ fp,dj (blk X N' own scope s3 H3 fp pins) [] H' b:=fun hn b hb=>by
   refine ⟨hn b hb,fR (ob3 b hb),fun z=>?_,.inl hb,fun x c h=>?_,fun p hp=>?_⟩
   .rcases wW.mp (I3.stkSub b z) with z | z
    .exact (f3 b hb).2.1 z
    .exact (f3 b hb).2.2.1 z
   .rcases hcells x c h with ⟨_,_,a3,_⟩ | ⟨a1,_,_⟩
    .intro z;subst z;exact absurd (ob3 _ hb) (Y4.mpr (VM a3))
    .exact (f3 b hb).2.2.2.2.1 x c a1
   .have hp':p ∈ X.pn ++ pins:= by
     rcases fD.mp hp with z | z
     .exact z
     .exact nomatch z
    exact (f3 b hb).2.2.2.2.2 p hp'
  have loop:codeAny (model X.prog X.w) X.A (.compLoop (.DictComp kx vx [⟨tg,iter,ifs,0⟩] scope pos) 0 (.ref it) (.ref l) (blk X N' own scope s3 H3 fp pins).env)
    (compPost (model X.prog X.w) X.A X.xe use Q0 (.ref l) s3.heap.objs.size) { s3 with heap:=pushCells (s3.heap.push { cls:=.type "dict",data:=.dict #[] }) scope.names }:= by
   refine nk (fun n s'=>∃i σ' H',Inv (blk X N' own scope s3 H3 fp pins) [] σ' H' s' /\ σ'.take G.length=G/\tn i s'.heap/\(∀b ∈ fp,H' b=none)/\W i n H') ?_ m0
    ⟨0,_,H3,IY,by rw [YB] <;> rfl,st4,fun b hb=>(f3 b hb).1,w0⟩
   rintro n s5 ⟨i,σ5,H5,I5,e5,st5,fr5,w5⟩
   rcases turn i n H5 w5 with ⟨stop,q⟩ | ⟨go,step⟩
   .refine gO (T.done (blk X N' own scope s3 H3 fp pins) rfl rfl rfl (hc _ _ _ _) i [] s5 σ5 H5 (fun _ _=>False) I5 (stat fr5) st5 stop) (fun r s6 hr=>?_) fun _ _ z=>z
    obtain ⟨rfl,I6⟩:=hr
    obtain ⟨m,hn,_⟩:=id I6.loc
    refine fin l H5 s6 _ m (I3.unblk f3 I6) q hn I6.free (VI I3.lt) I3.sz (fun x c e z=>?_) fun p hp z=>?_
    .obtain ⟨v,qc⟩:=I3.cell x c e
     exact absurd qc.lt (by rw [z];exact QX _)
    .exact absurd (wR (I3.pin p hp).1) (by rw [z];exact QX _)
   .have lenσ:σ5.length=(G ++ List.replicate own.length (none:Option V)).length:= by
     rw [I5.len,gE,VQ,I.len]
     show (N' ++ own).length=_
     rw [gE,Mk.len]
    have I5':Inv (blk X N' own scope s3 H3 fp pins) [] (G ++ List.replicate own.length none) H5 s5:=I5.weak lenσ.symm fun j v e=>by
     have hj:j < G.length:= by
      by_cases hj:j < G.length
      .exact hj
      .rw [ZA (by omega),VD] at e
       split at e <;> cases e
     rw [QL hj] at e
     rw [<- e5,YG hj] at e
     exact e
    refine gO (T.item (blk X N' own scope s3 H3 fp pins) rfl rfl rfl (hc _ _ _ _) i [] s5 _ H5 (fun _ _=>False) I5' (stat fr5) st5 go) (fun r s6 hr=>?_) fun _ _ z=>z
    obtain ⟨u,rfl,h6⟩:=hr
    refine b9 h6 fun _ s7 ⟨x,H7,I7,r7,y7,st7,fr7⟩=>?_
    have I7':=I7.pinned (stat fr7) (T.obj _ _ st7)
    refine b9 (hg s3 H3 fp pins _ s7 _ H7 x u _ I7' r7 (step x H7 y7)) fun _ s8 ⟨σ8,H8,I8,e8,q8⟩=>?_
    refine b9 (ht s3 H3 fp pins _ s8 σ8 H8 _ I8 q8) fun b s9 ⟨H9,I9,q9⟩=>?_
    have again:∀{Ha:Hp} {sa:Shared} {m':Nat},Inv (blk X N' own scope s3 H3 fp pins) ([] ++ iX fp s7.heap) σ8 Ha sa->m' < n->W (i + 1) m' Ha ->
      ∃m,m < n/\∃i σ' H',Inv (blk X N' own scope s3 H3 fp pins) [] σ' H' sa/\σ'.take G.length=G/\tn i sa.heap/\(∀b ∈ fp,H' b=none)/\W i m H':=fun {Ha sa m'} Ia hm wa=>by
     refine ⟨m',hm,i + 1,σ8,Ha,Ia.unpinned,e8,T.keep _ _ _ st7 fun b hb o e=>(Ia.pin (b,o) (xZ _ (xZ _ (cq hb e)))).1,fun b hb=>?_,wa⟩
     obtain ⟨o,e,d⟩:=T.obj _ _ st7 b hb
     exact (Ia.pin (b,o) (xZ _ (xZ _ (cq hb e)))).2.1
    cases b with
    | false=>
     rw [gL uS] at q9 ⊢
     obtain ⟨m',hm,wa⟩:=q9
     exact again I9 hm wa
    | true=>
     rw [gA rfl] at q9 ⊢
     refine b9 (he s3 H3 fp pins _ s9 σ8 H9 _ I9 q9) fun y s10 ⟨ky,H10,I10,rk,q10⟩=>?_
     refine b9 (hv s3 H3 fp pins _ s10 σ8 H10 _ I10 q10) fun x2 s11 ⟨v,H11,I11,rv,H12,dp,m',hm,wa⟩=>?_
     exact oG (X:=blk X N' own scope s3 H3 fp pins) hu I11 dp rk rv fun s12 I12=>again I12 hm wa
  exact codeAny_compStart_dict loop (T.self _ 0 _ _ _ st4 loop)
 omega
theorem Ak(J:PI X tg iter wi)(U:∀s H fp pins,PG (blk X N' own scope s H fp pins) tg g)(ht:∀s H fp pins,oY (blk X N' own scope s H fp pins) ifs tt)(he:∀s H fp pins,PE (blk X N' own scope s H fp pins) kx tk)(hv:∀s H fp pins,PE (blk X N' own scope s H fp pins) vx tv)(hu:X.A.units<cLine)
  (hS:autoParam (cM N' own X.env.scope scope=true) aQ0._auto_1)(hM:autoParam (cG X.N N' scope=true) aQ0._auto_1)(hk:autoParam (scope.kind= .function) aQ0._auto_1)(hc:autoParam (X.calm=true) aQ0._auto_1)(hs:∀x,foldedSetIterable iter X.env x=pure x:=by intro _;rfl):
  PE X (.DictComp kx vx [⟨tg,iter,ifs,0⟩] scope pos) (ua wi own.length g tt tk tv):=by
 intro pins s G H Q I h;have ev:eval (.DictComp kx vx [⟨tg,iter,ifs,0⟩] scope pos) X.env=comprehension (.DictComp kx vx [⟨tg,iter,ifs,0⟩] scope pos) scope X.env (firstIterPos [⟨tg,iter,ifs,0⟩] pos) newDict (firstAsync [⟨tg,iter,ifs,0⟩]) (firstIter [⟨tg,iter,ifs,0⟩] X.env):=rfl
 rw[ev];refine C2 (use:=none) (cal:= λ X=>X.calm=true) (λ _ _ _ _=>hc) J.g hk hS hM U ht he hv hu hs I h λ l H' s' C m I' q hn h1 h2 h3 h4 h5=>?_;refine⟨m,hn,λ h' sb=>⟨.ref l,H',?_,rfl,q⟩⟩;exact I'.turned (t':=s'.toks) (λ b o hb e=>(sb.2 b hb).trans e) h1 h2 (.inr h3) h4 h5
end
end L2
namespace Jt
open PySem L2 PySem.Spec PyProof.Rows
section
variable {X:Cx}
noncomputable def L7:R2:= λ x y H Q=>∃a v,x= .ref a/\DGet H a y (some v)/\Q v H
theorem wd(U:X.A.units+1<cLine):xh X L7:=by
 intro value slice pins s G H x y v u Q I rx ry h hs;obtain⟨a,w,rfl,g,q⟩:=h;cases rx;have hT:=dict_typeIs I g;have h2:wpAny (model X.prog X.w) X.A (getItem (.ref a) u) (EP X pins G Q) X.xe s:=d_getItem U I g ry λ w' s3 I3 J=>⟨w,H,I3,J,q⟩;refine zN ?_;refine zN (wpAny_specialOf hT PySem.F.slot_dict_getitem.lookup ?_);have fin:wpAny (model X.prog X.w) X.A (subscripted slice false (.ref a) u) (λ r o=>wpAny (model X.prog X.w) X.A (letTemporaryGo value (.ref a) r >>=λ _=>pure r) (EP X pins G Q) X.xe o) X.xe s:=by rw[hs];exact wpAny_operating (gO h2 (λ r o C=>zN (wpAny_letTemporaryGo (kT C))) λ _ _ x=>x)
 exact kT (zN fin)
theorem A0(h:xh X r)(h':xh X o):xh X (λ x y H Q=>r x y H Q\/o x y H Q):= λ value slice pins s G H x y v u Q I rx ry q hs=>q.elim (λ q=>h value slice pins s G H x y v u Q I rx ry q hs) λ q=>h' value slice pins s G H x y v u Q I rx ry q hs
end
noncomputable def k_(kvs:List (Int×Int))(k:Int):Option Int:=(kvs.find? λ p=>decide (p.1=k)).map (·.2)
noncomputable def mr(kvs:List ((Int×Int)×Int))(a b:Int):Option Int:=(kvs.find? λ p=>decide (p.1=(a,b))).map (·.2)
theorem C0(k:Int):∀kvs:List (Int×Int),valV (kvs.map λ p=>((.inl p.1,.int p.2):Key×V)) (.inl k)=(k_ kvs k).map V.int
 |[]=>rfl
 |(x,y)::r=>by
  have o:=C0 k r;unfold valV k_ at*;by_cases q:x=k;. simp[q]
  simp_all
theorem B_(a b:Int):∀kvs:List ((Int×Int)×Int),valV (kvs.map λ p=>(([.inl p.1.1,.inl p.1.2],.int p.2):List Key×V)) [.inl a,.inl b]=(mr kvs a b).map V.int
 |[]=>rfl
 |((x,o),y)::r=>by have C:=B_ a b r;unfold valV mr at*;grind
noncomputable def ir:D->D->Option D
 | .dic kvs,.int i=>(k_ kvs i).map .int
 | .dip kvs,.tup [.int a,.int b]=>(mr kvs a b).map .int
 |x,y=>j_ x y
section
variable {X:Cx} {a b:Expr} {fa fb:M D} {pos:Pos}
theorem w4{K:PySem.W.Frag}:nc (λ x y H Q=>Pa K x y H Q\/L7 x y H Q) ir:= λ c I S G T H x y v u d Q s e k=>by
 unfold ir at e;split at e;. rename_i kvs i;cases q:k_ kvs i with
  |none=>rw[q]at e;cases e
  |some w=>rw[q]at e;cases e;obtain⟨p,rfl,C⟩:=s.st.tail.head.dic;have J:=s.st.head.int;subst J;refine .inr ⟨p,.int w,rfl,?_,k _ _ (s.stk (.cons .mkI s.st.tail.tail))⟩;have g:=DGet.k (k:= .inl i) (bq _ _ C);rw[C0,q]at g;exact g
 .rename_i kvs x y;cases q:mr kvs x y with
  |none=>rw[q]at e;cases e
  |some w=>rw[q]at e;cases e;obtain⟨p,rfl,C⟩:=s.st.tail.head.dip;obtain⟨b,vs,rfl,U,o⟩:=s.st.head.tup;obtain⟨v1,r1,rfl,g1,o⟩:=o.inv;obtain⟨v2,r2,rfl,g2,o⟩:=o.inv;have e3:=o.inv0;subst e3;cases g1.int;cases g2.int;refine .inr ⟨p,.int w,rfl,?_,k _ _ (s.stk (.cons .mkI s.st.tail.tail))⟩;have g:=DGet.t (k:=[.inl x,.inl y]) (bq _ _ C) (bq _ _ U);rw[B_,q]at g;exact g
 .exact .inl (CW c I S G T H x y v u d Q s e k)
theorem dY(o:cb k X.A)(C:DE X a fa)(I:DE X b fb)(hs:h_ b:=by exact λ _ _=>rfl):DE X (.Subscript a b pos) (m2 ir fa fb):=BA (A0 tF (wd (by have:=g6 o;omega))) w4 C I hs
end
noncomputable def mZ(kvs:List (Int×Int))(k v:Int):List (Int×Int):=if(kvs.any λ p=>decide (p.1=k))=true then kvs.map (λ p=>if p.1=k then(p.1,v)else p)else kvs++[(k,v)]
theorem K4(kvs:List (Int×Int))(k v:Int):putK (kvs.map λ p=>((.inl p.1,.int p.2):Key×V)) (.inl k) (.int v)=(mZ kvs k v).map λ p=>(.inl p.1,.int p.2):=by
 unfold putK mZ;have e:((kvs.map λ p=>((.inl p.1,.int p.2):Key×V)).any λ o=>decide (o.1= .inl k))=kvs.any λ p=>decide (p.1=k):=by rw[List.any_map];refine List.any_congr rfl λ p=>?_;simp
 rw[e];split
 .rw[Q2,Q2];refine QQ λ p _=>?_;by_cases q:p.1=k;. simp[q]
  .simp[q]
 simp
theorem Cm(kvs:List (Int×Int))(k v:Int):(mZ kvs k v).length<=kvs.length+1:=by
 unfold mZ;split;. simp
 simp
noncomputable def qE(gt:D->M Unit)(tt:M Bool)(tk o:M D)(d:D):M (Option (Int×Int)):=do
 gt d
 let b<- tt
 if b=true then do
  let k<- tk
  let v<- o
  match k,v with
  | .int i,.int j=>pure (some (i,j))
  |_,_=>lift none
 else pure none
noncomputable def FW(acc:List (Int×Int)):Option (Int×Int)->List (Int×Int)
 |none=>acc
 |some (k,v)=>mZ acc k v
noncomputable def gU(own:Nat)(turn:D->M (Option (Int×Int)))(fin:DS->Bool):List (DS->Option D)->List (Int×Int)->M (List (Int×Int))
 |[],acc=> λ C=>if fin C=true then some (acc,C)else none
 |a::r,acc=> λ C=>match a C with
  |none=>none
  |some d=>match turn d (C++List.replicate own .un)with
   |none=>none
   |some (o,I)=>gU own turn fin r (FW acc o) (I.take C.length)
noncomputable def o7(lo own:Nat)(o:M iQ)(turn:D->M (Option (Int×Int))):M D:=do
 gz lo
 let it<- o
 let _<- lift (few it.1.length)
 let kvs<- gU own turn it.2 it.1 []
 pure (.dic kvs)
section
variable {fi:M iQ} {gt:D->M Unit} {tt:M Bool} {tk tv:M D}
theorem yo{lo own:Nat}:∀G H Q,tM (o7 lo own fi (qE gt tt tk tv)) G H Q->ua (ND fi) own (Kb lo gt) (qj tt) (tM tk) (tM tv) G H Q:= λ G H Q ⟨c,af,S,T,dd,aA,s0,e,k⟩=>by
 obtain⟨u,aq,e0,e⟩:=bind_some e;have ab:G.length=lo/\af=aq:=by
  unfold gz at e0;split at e0;. cases e0;exact⟨by rw[<- s0.len];assumption,rfl⟩
  .cases e0
 obtain⟨ab,rfl⟩:=ab;obtain⟨it,ag,e1,e⟩:=bind_some e;obtain⟨u',aB,e2,e⟩:=bind_some e;obtain⟨e3,rfl⟩:=aZ e2;have ah:=(gP e3).2;obtain⟨kvs,ai,e4,e⟩:=bind_some e;obtain⟨rfl,rfl⟩:=aU e;refine⟨c,af,S,T,it,ag,s0,e1,λ J Sx Tx H1 l hJ s1 q hq=>?_⟩;obtain⟨items,fin⟩:=it;dsimp only at e4 ah;obtain⟨f1,f2,f3⟩:=s1.fresh hq;refine⟨.dK [],.inl rfl,λ i m H=>∃C acc,m=items.length-i/\i<=items.length/\acc.length<=i/\Sl { c with Z:=upd c.Z q (jq acc) } C (Sx++S) G (Tx++T) H/\
  gU own (qE gt tt tk tv) fin (items.drop i) acc C=some (kvs,ai),⟨_,ag,[],rfl,ZG _,wN _,s1.hide hq,e4⟩,?_⟩;rintro i m H ⟨C,acc,rfl,hi,li,s,em⟩;by_cases U:i<items.length;. rw[QM U]at em;unfold gU at em;cases ea:items[i] C with
  |none=>rw[ea]at em;cases em
  |some d=>rw[ea]at em;dsimp only at em;cases I:qE gt tt tk tv d (C++List.replicate own .un)with
   |none=>rw[I]at em;cases em
   |some p=>
    obtain⟨o,aC⟩:=p;rw[I]at em;obtain⟨u1,aj,ar,I⟩:=bind_some I;obtain⟨b,ae,au,I⟩:=bind_some I;obtain⟨go,yld⟩:=(hJ { c with Z:=upd c.Z q (jq acc) } C S T H i s).1 items[i] d (kW U) ea;refine .inr ⟨go,λ x H' y=>?_⟩;refine⟨{ c with Z:=upd c.Z q (jq acc) },C++List.replicate own .un,Sx++S,Tx++T,d,aj,(yld x H' y).ext own,ar,λ aw H2 hn s2=>?_⟩;have ht:aw.take G.length=G:=by rw[hn _ (W4 ab)];exact YB rfl
    refine⟨ht,{ c with Z:=upd c.Z q (jq acc) },aj,Sx++S,Tx++T,b,ae,s2,au,λ H3 s3=>?_⟩;have aa:C.length=G.length:=s.len;cases b with
    |true=>
     obtain⟨kd,ak,ek,I⟩:=bind_some I;obtain⟨vd,ao,ev,I⟩:=bind_some I;split at I;. rename_i ki vi _;obtain⟨rfl,rfl⟩:=aU I;refine⟨{ c with Z:=upd c.Z q (jq acc) },ae,Sx++S,Tx++T,_,ak,s3,ek,λ v1 H4 s4=>?_⟩;have ax:=s4.st.head.int;subst ax;refine⟨{ c with Z:=upd c.Z q (jq acc) },ak,_,_,_,ao,s4,ev,λ v2 H5 s5=>?_⟩;have ay:=s5.st.head.int;subst ay;have az:H5 q=some (jq acc):=s5.zz q _ bf;have pt:=DPut.k (k:= .inl ki) (v:= .int vi) az (by rw[uL];omega);rw[K4]at pt;refine⟨_,pt,items.length-(i+1),by omega,ao.take C.length,mZ acc ki vi,rfl,U,by have:=Cm acc ki vi;omega,?_,em⟩;have s6:=s5.pop.pop.cut G.length;rw[ht,<- aa]at s6;exact Sl.hideSet (jq (mZ acc ki vi)) s6 f2 f3
     .cases I
    |false=>obtain⟨rfl,rfl⟩:=aU I;refine⟨items.length-(i+1),by omega,ae.take C.length,acc,rfl,U,by omega,?_,em⟩;have s5:=s3.cut G.length;rw[ht,<- aa]at s5;exact s5
 .have ei:i=items.length:=by omega
  subst ei;rw[Z4]at em;unfold gU at em;by_cases hf:fin C=true
  .rw[gA hf]at em;obtain⟨rfl,rfl⟩:acc=kvs/\C=ai:=by cases em;exact⟨rfl,rfl⟩
   refine .inl ⟨(hJ { c with Z:=upd c.Z q (jq acc) } _ S T H _ s).2 rfl hf,k _ _ ?_⟩;have s2:=s.unhideD (d:= .dic acc) f1 λ h=> .mkDic h;exact s2.stk (.cons s2.st.head (s2.st.tail.right l))
  .rw[gL hf]at em;cases em
variable {X:Cx} {kx vx tg iter:Expr} {N' own:List Str} {scope:Scope} {ifs:List Expr} {lo:Nat} {pos:Pos}
theorem CJ(o:cb k X.A)(hi:DC X tg iter fi)(hg:∀s H fp pins,DG (blk X N' own scope s H fp pins) lo tg gt)(ht:∀s H fp pins,oY (blk X N' own scope s H fp pins) ifs (qj tt))(he:∀s H fp pins,DE (blk X N' own scope s H fp pins) kx tk)(C:∀s H fp pins,DE (blk X N' own scope s H fp pins) vx tv)
  (hS:autoParam (cM N' own X.env.scope scope=true) aQ0._auto_1)(hM:autoParam (cG X.N N' scope=true) aQ0._auto_1)(hk:autoParam (scope.kind= .function) aQ0._auto_1)(hc:autoParam (X.calm=true) aQ0._auto_1)(hs:∀x,foldedSetIterable iter X.env x=pure x:=by intro _;rfl):
  DE X (.DictComp kx vx [⟨tg,iter,ifs,0⟩] scope pos) (o7 lo own.length fi (qE gt tt tk tv)):=cw (Ak hi hg ht he C (by have:=g6 o;omega) hS hM hk hc hs) yo
end
section
variable {X:Cx} {a b:Expr} {fs:M (List D)} {p pos:Pos}
noncomputable def Ml(ta:TA):TE:= λ G H Q=>ta G H λ vs H1=>∃i j:Int,vs=[.int i,.int j]/\∀q,H1 q=none->Q (.ref q) (upd H1 q (.rng i j))
theorem x_(U:Gl X "range")(hm:X.mg "range"=none)(ha:PA X [a,b] ta)(hs:autoParam (starEach [a,b] X.env=[(false,eval a X.env),(false,eval b X.env)]) aQ0._auto_1)(o:autoParam (i4 X b) aQ0._auto_1):PE X (.Call (.Name "range" p) [a,b] [] pos) (Ml ta):=by intro pins s G H Q I h;refine WS (fv I U hm (show bootBuiltins "range"=some (.type "range")by decide+kernel) (ZN (b9 (ha pos pins s G H _ I h) λ us s1 ⟨vs,H1,J,r1,q1⟩=>?_) (by rw[hs,o]) (by rw[o];rfl)));obtain⟨i,j,e,q⟩:=q1;subst e;cases r1 with
 |cons r C=>cases C with
  |cons r' C=>cases C;obtain⟨t,rfl⟩:=r;obtain⟨t',rfl⟩:=r';refine call_range_2 ⟨.ref s1.heap.objs.size,upd H1 s1.heap.objs.size (.rng i j),J.laid (λ b u e=>zS _ e) (wN _) ?_,rfl,q _ J.fresh⟩;exact⟨_,_,_,wF _ rfl⟩
theorem ts(J:X.calm=true):c6 X (.type "list") (λ xs H Q=>∃q i j,xs=[.ref q]/\H q=some (.rng i j)/\0<=i/\i<100000/\j<100000/\ -(2^62)<=j/\∀l,H l=none->Q (.ref l) (upd H l (.lst ((List.range (j-i).toNat).map λ(k:Nat)=>V.int (i+k))))):=by
 intro pins s G H xs us Q I r h;obtain⟨q,i,j,rfl,U,aa,ab,hj,C,k⟩:=h;obtain⟨u,rfl,rx⟩:=r.one;cases rx;obtain⟨t,u',v,hr⟩:=I.hok q _ U;refine call_list_range (n:=(j-i).toNat) (I.ok.hd J) hr (small_one (by omega) (by omega) C (by omega)) (by rw[rangeSize_one];split <;> omega) (by omega) λ h' tk o c' kp e hi=>?_;refine⟨.ref s.heap.objs.size,_,I.laid (t':=tk) kp (wN _) (show b4 X.prog X.w _ h' _ (.lst _)from⟨?_,o.toList,c',iR hi,by simpa using e⟩),rfl,k _ I.fresh⟩;have:100000<sizeLine:=by decide
 grind
noncomputable def v_:List D->Option (List D)
 |[.int i,.int j]=>if 0<=i/\i<100000/\j<100000/\ -(2^62)<=j then some (cJ i (j-i).toNat)else none
 |_=>none
theorem yk{p2 C:Pos}(J:X.mg "list"=none)(U:X.mg "range"=none)(ha:DA X [a,b] fs)(aa:autoParam (Gl X "list") aQ0._auto_1)(ab:autoParam (Gl X "range") aQ0._auto_1)(hc:autoParam (X.calm=true) aQ0._auto_1)(hs:autoParam (starEach [a,b] X.env=[(false,eval a X.env),(false,eval b X.env)]) aQ0._auto_1)(ae:autoParam (i4 X b) aQ0._auto_1):
  DF X (.Call (.Name "list" p) [.Call (.Name "range" p2) [a,b] [] C] [] pos) (mC v_ fs):=
 cw (d_ (ts hc) aa J (by decide+kernel) (cN (x_ ab U ha hs ae) dF) (by decide) (by decide) rfl rfl) λ G H Q ⟨c,Y,S,T,d,ag,s,e,k⟩=>by
  obtain ⟨ds,af,e1,e⟩:=bind_some e;obtain ⟨o,rfl⟩:=aZ e;refine ⟨c,Y,S,T,ds,af,s,e1,λ vs H1 l s1=>?_⟩;unfold v_ at o;split at o
  .rename_i i j;split at o
   .rename_i I;cases o;obtain ⟨v,u,rfl,r1,r2⟩:=OE (s1.st.left l);cases r1.int;cases r2.int;refine ⟨i,j,rfl,λ q hq=>⟨q,i,j,rfl,bf,I.1,I.2.1,I.2.2.1,I.2.2.2,λ m hm=>?_⟩⟩;have s2:=(s1.drop l).grow (eN hq (.rng i j));obtain ⟨f1,f2,f3⟩:=s2.fresh hm;refine k m _ _ (jT (H:=H)).length ((s2.hide hm).stk ?_) f1 f2 f3;exact jT.append (s2.hide hm).st
   .cases o
  .cases o
end
end Jt
namespace L2
open PySem PySem.Spec PyProof.Rows
section
variable {prog:Program} {w:World} {A:Around} {R:Result->Shared->Prop} {s:Shared} {kx vx t1 i1 t2 i2:Expr} {ifs1 ifs2:List Expr} {scope:Scope} {pos:Pos} {it:Value} {D:Addr} {env:Env}
noncomputable abbrev fw(kx vx t1 i1:Expr)(ifs1:List Expr)(t2 i2:Expr)(ifs2:List Expr)(scope:Scope)(pos:Pos):Expr:= .DictComp kx vx [⟨t1,i1,ifs1,0⟩,⟨t2,i2,ifs2,0⟩] scope pos
theorem yI:compTurn (fw kx vx t1 i1 ifs1 t2 i2 ifs2 scope pos) 0 it (.ref D) env=(standAt i1.pos >>=λ _=>pyNext it >>=λ r=>match r with
  |none=>pure (.done .next)
  |some v=>letOwnedTupleGo t1 it v >>=λ _=>assign t1 env v >>=λ _=>tests ifs1 env >>=λ ok=>
   (if ok=true then(eval i2 env >>=λ x=>standAt i2.pos >>=λ _=>foldedSetIterable i2 env x >>=λ x=>holding [x] (pyIter x) >>=λ j=>runOwn (.compStart (fw kx vx t1 i1 ifs1 t2 i2 ifs2 scope pos) 1 j (.ref D) env) env >>=λ _=>again (.compLoop (fw kx vx t1 i1 ifs1 t2 i2 ifs2 scope pos) 0 it (.ref D) env))
     else again (.compLoop (fw kx vx t1 i1 ifs1 t2 i2 ifs2 scope pos) 0 it (.ref D) env))):=by rfl
theorem BG:compTurn (fw kx vx t1 i1 ifs1 t2 i2 ifs2 scope pos) 1 it (.ref D) env=(standAt i2.pos >>=λ _=>pyNext it >>=λ r=>match r with
  |none=>pure (.done .next)
  |some v=>letOwnedTupleGo t2 it v >>=λ _=>assign t2 env v >>=λ _=>tests ifs2 env >>=λ ok=>
   (if ok=true then((eval kx env >>=λ o=>holding [o] (eval vx env) >>=λ C=>standAt { kx.pos with endLine:=vx.pos.endLine,endCol:=vx.pos.endCol } >>=λ _=>holding [o,C] (dictSet D o C)) >>=λ _=>again (.compLoop (fw kx vx t1 i1 ifs1 t2 i2 ifs2 scope pos) 1 it (.ref D) env))
     else again (.compLoop (fw kx vx t1 i1 ifs1 t2 i2 ifs2 scope pos) 1 it (.ref D) env))):=by rfl
theorem xH (hs:∀x,foldedSetIterable i2 env x=pure x) (I:Nat->Shared->Prop)
  (turn:∀n s,I n s->wpAny (model prog w) A (pyNext it) (fun r s1=>match r with
   | none=>R (.ok .next) s1
   | some v=>wpAny (model prog w) A (letOwnedTupleGo t1 it v) (fun _ s2=>wpAny (model prog w) A (assign t1 env v) (fun _ s3=>wpAny (model prog w) A (tests ifs1 env) (fun ok s4=>
     if ok=true then wpAny (model prog w) A (eval i2 env) (fun x s5=>wpAny (model prog w) A (pyIter x) (fun j s6=>
      codeAny (model prog w) A (.compStart (fw kx vx t1 i1 ifs1 t2 i2 ifs2 scope pos) 1 j (.ref D) env) (fun r s7=>match r with | .ok _=>∃m,m < n/\I m s7 | .error _=>False) s6) ng s5) ng s4
     else ∃m,m < n/\I m s4) ng s3) ng s2) ng s1) ng s)
  (n:Nat) (h:I n s):codeAny (model prog w) A (.compLoop (fw kx vx t1 i1 ifs1 t2 i2 ifs2 scope pos) 0 it (.ref D) env) R s:= by
 refine codeAny_loop rfl I (fun n s hI=>?_) n h
 show wpAny _ A ((compTurn (fw kx vx t1 i1 ifs1 t2 i2 ifs2 scope pos) 0 it (.ref D) env).onRaise (fun x=>do noteFrame x env;theTreesLotGoes x)) _ _ s
 refine wpAny_noted ?_
 rw [yI]
 refine zN (VE (zN (gO (turn n s hI) (fun r s1 h1=>?_) fun _ _ z=>z.elim)))
 cases r with
 | none=>exact kT h1
 | some v=>
  refine zN (gO h1 (fun _ s2 h2=>zN (gO h2 (fun _ s3 h3=>zN (gO h3 (fun ok s4 h4=>?_) fun _ _ z=>z.elim)) fun _ _ z=>z.elim)) fun _ _ z=>z.elim)
  cases ok with
  | false=>exact kT ⟨rfl,h4⟩
  | true=>
   refine zN (gO h4 (fun x s5 h5=>zN (VE ?_)) fun _ _ z=>z.elim)
   rw [hs]
   refine zN (kT (zN (Q1 (gO h5 (fun j s6 h6=>?_) fun _ _ z=>z.elim))))
   refine zN (wpAny_runOwn (VS h6 fun r s7 h7=>?_))
   cases r with
   | ok f=>exact kT ⟨rfl,h7⟩
   | error e=>simp_all
theorem Bz(I:Nat->Shared->Prop)
  (turn:∀n s,I n s->wpAny (model prog w) A (pyNext it) (λ r s1=>match r with
   |none=>R (.ok .next) s1
   |some v=>wpAny (model prog w) A (letOwnedTupleGo t2 it v) (λ _ s2=>wpAny (model prog w) A (assign t2 env v) (λ _ s3=>wpAny (model prog w) A (tests ifs2 env) (λ ok s4=>
     if ok=true then wpAny (model prog w) A (eval kx env) (λ y s5=>wpAny (model prog w) A (eval vx env) (λ x o=>wpAny (model prog w) A (dictSet D y x) (λ _ C=>∃m,m<n/\I m C) ng o) ng s5) ng s4
     else∃m,m<n/\I m s4) ng s3) ng s2) ng s1) ng s)
  (n:Nat)(h:I n s):codeAny (model prog w) A (.compLoop (fw kx vx t1 i1 ifs1 t2 i2 ifs2 scope pos) 1 it (.ref D) env) R s:=by refine codeAny_loop rfl I (λ n s hI=>?_) n h;refine wpAny_noted ?_;rw[BG];refine zN (VE (zN (gO (turn n s hI) (λ r s1 J=>?_) λ _ _ z=>z.elim)));cases r with
 |none=>exact kT J
 |some v=>refine zN (gO J (λ _ s2 h2=>zN (gO h2 (λ _ s3 h3=>zN (gO h3 (λ ok s4 U=>?_) λ _ _ z=>z.elim)) λ _ _ z=>z.elim)) λ _ _ z=>z.elim);cases ok with
  |false=>exact kT ⟨rfl,U⟩
  |true=>exact zN (zN (gO U (λ y s5 h5=>zN (Q1 (gO h5 (λ x o h6=>zN (VE (Q1 (gO h6 (λ _ C h7=>kT ⟨rfl,h7⟩) λ _ _ z=>z.elim)))) λ _ _ z=>z.elim))) λ _ _ z=>z.elim))
theorem y4(h0:codeAny (model prog w) A (.compLoop (fw kx vx t1 i1 ifs1 t2 i2 ifs2 scope pos) 1 it (.ref D) env) R s)
  (h:wpAny (model prog w) A (pyIter it) (λ j s'=>codeAny (model prog w) A (.compLoop (fw kx vx t1 i1 ifs1 t2 i2 ifs2 scope pos) 1 j (.ref D) env) R s') ng s):
  codeAny (model prog w) A (.compStart (fw kx vx t1 i1 ifs1 t2 i2 ifs2 scope pos) 1 it (.ref D) env) R s:=by
 refine codeAny_of_tree ?_;refine wpAny_notedAt ?_;refine zN (XB (wpAny_ite ?_));split;. first
   |exact zN (kT (kT (And.intro rfl h0)))
   |exact kT (And.intro rfl h0)
 .first
   |exact zN (V5 (zN (VE (zN (gO h (λ j s' q=>kT (And.intro rfl q)) λ _ _ z=>z.elim)))))
   |rfl
end
noncomputable abbrev Qm:=Addr->St->Hp->(St->Hp->Prop)->Prop
noncomputable def GB(wi:TI)(g:TG)(tt:TT)(tk tv:TE):Qm:= λ l G H Q=>wi G H λ J H1=>∃W:Nat->Nat->St->Hp->Prop,(∃m,W 0 m G H1)/\∀i m C H,W i m C H->
 ((J.stop i H/\Q C H)\/(J.go i H/\∀x H',J.yld i H x H'->g x C H' λ o H2=>tt o H2 λ b U=>
  if b=true then tk o U λ y H4=>tv o H4 λ v H5=>∃H6,DPut H5 l y v H6/\∃I,I<m/\W (i+1) I o H6
  else∃I,I<m/\W (i+1) I o U))
section
variable {Y:Cx} {kx vx t1 i1 t2 i2:Expr} {ifs1 ifs2:List Expr} {scope:Scope} {pos:Pos} {wi:TI} {g:TG} {tt:TT} {tk tv:TE}
theorem Km(hx:Y.xe=ng)(hc:Y.calm=true)(hi:PI Y t2 i2 wi)(hg:PG Y t2 g)(ht:oY Y ifs2 tt)(he:PE Y kx tk)(hv:PE Y vx tv)(hu:Y.A.units<cLine){l:Addr}{pins:List (Addr×Obj)}{s:Shared}{G:St}{H:Hp}{Q:St->Hp->Prop}(I:Inv Y pins G H s)(h:GB wi g tt tk tv l G H Q):
  wpAny (model Y.prog Y.w) Y.A (eval i2 Y.env) (λ x s5=>wpAny (model Y.prog Y.w) Y.A (pyIter x) (λ j s6=>codeAny (model Y.prog Y.w) Y.A (.compStart (fw kx vx t1 i1 ifs1 t2 i2 ifs2 scope pos) 1 j (.ref l) Y.env)
   (λ r s7=>match r with| .ok _=>∃C H',Inv Y pins C H' s7/\Q C H'| .error _=>False) s6) ng s5) ng s:=by
 have af:=hi pins s G H _ I h;rw[hx]at af;refine b9 af λ xv s1 h1=>b9 h1 λ aB s2 h2=>?_;obtain⟨it,fp,tn,J,H2,e,I2,T,ag,f2,q2⟩:=h2;subst e;obtain⟨W,⟨m0,w0⟩,turn⟩:=q2;have aa:∀{H':Hp},(∀b∈fp,H' b=none)->∀b∈fp,dj Y pins H' b:= λ hn b hb=>⟨hn b hb,(f2 b hb).2⟩;have loop:codeAny (model Y.prog Y.w) Y.A (.compLoop (fw kx vx t1 i1 ifs1 t2 i2 ifs2 scope pos) 1 (.ref it) (.ref l) Y.env) (λ r s7=>match r with| .ok _=>∃C H',Inv Y pins C H' s7/\Q C H'| .error _=>False) s2:=by
  refine Bz (λ n s'=>∃i C H',Inv Y pins C H' s'/\tn i s'.heap/\(∀b∈fp,H' b=none)/\W i n C H') ?_ m0 ⟨0,G,H2,I2,ag,λ b hb=>(f2 b hb).1,w0⟩;rintro n s5 ⟨i,ab,H5,I5,ah,ai,w5⟩;rcases turn i n ab H5 w5 with⟨stop,q⟩|⟨go,step⟩
  .refine gO (T.done Y rfl rfl rfl hc i pins s5 ab H5 ng I5 (aa ai) ah stop) (λ r s6 hr=>?_) λ _ _ z=>z;obtain⟨rfl,I6⟩:=hr;exact⟨ab,H5,I6,q⟩
  .refine gO (T.item Y rfl rfl rfl hc i pins s5 ab H5 ng I5 (aa ai) ah go) (λ r s6 hr=>?_) λ _ _ z=>z;obtain⟨u,rfl,h6⟩:=hr;refine b9 h6 λ _ s7 ⟨x,H7,I7,r7,y7,ae,ar⟩=>?_;have au:=I7.pinned (aa ar) (T.obj _ _ ae);have aj:=hg _ s7 ab H7 x u _ au r7 (step x H7 y7);rw[hx]at aj;refine b9 aj λ _ s8 ⟨U,H8,I8,q8⟩=>?_;have ak:=ht _ s8 U H8 _ I8 q8;rw[hx]at ak;refine b9 ak λ b s9 ⟨H9,I9,q9⟩=>?_;have again:∀{Ha:Hp}{sa:Shared}{m':Nat},Inv Y (pins++iX fp s7.heap) U Ha sa->m'<n->W (i+1) m' U Ha->
     ∃m,m<n/\∃i C H',Inv Y pins C H' sa/\tn i sa.heap/\(∀b∈fp,H' b=none)/\W i m C H':= λ{Ha sa m'} Ia hm wa=>by refine⟨m',hm,i+1,U,Ha,Ia.unpinned,T.keep _ _ _ ae λ b hb o e=>(Ia.pin (b,o) (xZ _ (xZ _ (cq hb e)))).1,λ b hb=>?_,wa⟩;obtain⟨o,e,d⟩:=T.obj _ _ ae b hb;exact(Ia.pin (b,o) (xZ _ (xZ _ (cq hb e)))).2.1
   cases b with
   |false=>obtain⟨m',hm,wa⟩:=q9;exact again I9 hm wa
   |true=>have ao:=he _ s9 U H9 _ I9 q9;rw[hx]at ao;refine b9 ao λ y av ⟨ky,aw,ax,rk,ay⟩=>?_;have aq:=hv _ av U aw _ ax ay;rw[hx]at aq;refine b9 aq λ x2 aC ⟨v,aD,az,rv,aE,dp,m',hm,wa⟩=>?_;exact oG hu az dp rk rv λ aF aA=>again aA hm wa
 exact y4 loop (T.self _ 0 _ _ _ ag loop)
end
noncomputable def wJ(wi:TI)(own:Nat)(g:TG)(tt:TT)(tb:Qm):TE:= λ G H Q=>wi G H λ J H1=>∀l,H1 l=none->∃o0:HO,(o0= .dK []\/o0= .dT [])/\∃W:Nat->Nat->Hp->Prop,(∃m,W 0 m (upd H1 l o0))/\∀i m H,W i m H->
 ((J.stop i H/\Q (.ref l) H)\/(J.go i H/\∀x H',J.yld i H x H'->g x (G++List.replicate own none) H' λ o H2=>tt o H2 λ b U=>
  if b=true then tb l o U λ I H4=>I.take G.length=G/\∃C,C<m/\W (i+1) C H4
  else o.take G.length=G/\∃C,C<m/\W (i+1) C U))
section
variable {X:Cx} {kx vx t1 i1 t2 i2:Expr} {ifs1 ifs2:List Expr} {scope:Scope} {pos:Pos} {N' own:List Str} {wi wi2:TI} {g g2:TG} {tt tt2:TT} {tk tv:TE}
theorem ye (hi:PI X t1 i1 wi) (hg:∀s H fp pins,PG (blk X N' own scope s H fp pins) t1 g) (ht:∀s H fp pins,oY (blk X N' own scope s H fp pins) ifs1 tt) (hi2:∀s H fp pins,PI (blk X N' own scope s H fp pins) t2 i2 wi2) (hg2:∀s H fp pins,PG (blk X N' own scope s H fp pins) t2 g2)
  (ht2:∀s H fp pins,oY (blk X N' own scope s H fp pins) ifs2 tt2) (he:∀s H fp pins,PE (blk X N' own scope s H fp pins) kx tk) (hv:∀s H fp pins,PE (blk X N' own scope s H fp pins) vx tv) (hu:X.A.units < cLine)
  (hS:autoParam (cM N' own X.env.scope scope=true) aQ0._auto_1) (hM:autoParam (cG X.N N' scope=true) aQ0._auto_1) (hk:autoParam (scope.kind=.function) aQ0._auto_1) (hc:autoParam (X.calm=true) aQ0._auto_1) (hs:∀x,foldedSetIterable i1 X.env x=pure x:=by intro _;rfl) (hs2:∀e x,foldedSetIterable i2 e x=pure x:=by intro _ _;rfl) :
  PE X (fw kx vx t1 i1 ifs1 t2 i2 ifs2 scope pos) (wJ wi own.length g tt (GB wi2 g2 tt2 tk tv)):= by
 intro pins s G H Q I h
 have ev:eval (fw kx vx t1 i1 ifs1 t2 i2 ifs2 scope pos) X.env=comprehension (fw kx vx t1 i1 ifs1 t2 i2 ifs2 scope pos) scope X.env (firstIterPos [⟨t1,i1,ifs1,0⟩,⟨t2,i2,ifs2,0⟩] pos) newDict (firstAsync [⟨t1,i1,ifs1,0⟩,⟨t2,i2,ifs2,0⟩]) (firstIter [⟨t1,i1,ifs1,0⟩,⟨t2,i2,ifs2,0⟩] X.env):=rfl
 rw [ev]
 have S:=g_ hS
 have Mk:=ig hM
 refine WH rfl hs (dR fun n hn=>I.ok.has n (S.free n hn)) hk S.loc (b9 (hi pins s G H _ I h) fun xv s1 h1=>b9 h1 fun itv s2 h2=>?_)
 obtain ⟨it,fp,tn,J,H2,e,I2,T,st2,f2,q2⟩:=h2
 subst e
 refine QZ ?_
 have hl2:H2 s2.heap.objs.size=none:=I2.fresh
 obtain ⟨o0,ho0,W,⟨m0,w0⟩,turn⟩:=q2 s2.heap.objs.size hl2
 have I3:Inv X pins G (upd H2 s2.heap.objs.size o0) { s2 with heap:=s2.heap.push { cls:=.type "dict",data:=.dict #[] } }:= by
  rcases ho0 with rfl | rfl
  .exact I2.laid (t':=s2.toks) (fun _ _ q=>zS _ q) (wN _) (dk_empty s2.heap I2.big)
  .exact I2.laid (t':=s2.toks) (fun _ _ q=>zS _ q) (wN _) (dt_empty s2.heap I2.big)
 generalize hl:s2.heap.objs.size=l at *
 have ob2:∀b ∈ fp,b < l:=fun b hb=>by
  obtain ⟨o,e,_⟩:=T.obj _ _ st2 b hb
  rw [<- hl];exact wR e
 have st3:tn 0 (s2.heap.push { cls:=.type "dict",data:=.dict #[] }):=T.keep _ _ _ st2 fun b _ o e=>zS _ e
 have sz3:l < (s2.heap.push { cls:=.type "dict",data:=.dict #[] }).objs.size:=by rw [QO,hl];exact Z2 _
 have f3:∀b ∈ fp,dj X pins (upd H2 l o0) b:=fun b hb=>⟨by rw [a_ (fR (ob2 b hb))];exact (f2 b hb).1,(f2 b hb).2⟩
 generalize hs3:({ s2 with heap:=s2.heap.push { cls:=.type "dict",data:=.dict #[] } }:Shared)=s3 at I3
 have hh3:s3.heap=s2.heap.push { cls:=.type "dict",data:=.dict #[] }:=by rw [<- hs3]
 rw [<- hh3] at st3 sz3
 have ob3:∀b ∈ fp,b < s3.heap.objs.size:=fun b hb=>XO (ob2 b hb) sz3
 generalize upd H2 l o0=H3 at *
 show wpAny _ _ (newFunctionEnv scope X.env.globals (c7 X.env.cells scope.names []) [] X.env.qual none .none (some X.env)) _ _ _
 have goal:wpAny (model X.prog X.w) X.A (newFunctionEnv scope X.env.globals (c7 X.env.cells scope.names []) [] X.env.qual none .none (some X.env))
   (fun cenv s₄=>codeAny (model X.prog X.w) X.A (.compStart (fw kx vx t1 i1 ifs1 t2 i2 ifs2 scope pos) 0 (.ref it) (.ref l) { cenv with scope:=relabel scope X.env }) (compPost (model X.prog X.w) X.A X.xe none (EP X pins G Q) (.ref l) cenv.locals) s₄) X.xe s3:= by
  refine gM ?_
  have IY:=I3.blk f3 ob3 hk S Mk
  have keep:=@Inv.blkKeep s3 scope
  have st4:tn 0 (pushCells (s3.heap.push { cls:=.type "dict",data:=.dict #[] }) scope.names):=T.keep _ _ _ st3 fun b _ o e=>keep b o e
  have hcells:=h9 I3 S
  have stat:∀{H':Hp},(∀b ∈ fp,H' b=none)->∀b ∈ fp,dj (blk X N' own scope s3 H3 fp pins) [] H' b:=fun hn b hb=>by
   refine ⟨hn b hb,fR (ob3 b hb),fun z=>?_,.inl hb,fun x c h=>?_,fun p hp=>?_⟩
   .rcases wW.mp (I3.stkSub b z) with z | z
    .exact (f3 b hb).2.1 z
    .exact (f3 b hb).2.2.1 z
   .rcases hcells x c h with ⟨_,_,a3,_⟩ | ⟨a1,_,_⟩
    .intro z;subst z;exact absurd (ob3 _ hb) (Y4.mpr (VM a3))
    .exact (f3 b hb).2.2.2.2.1 x c a1
   .have hp':p ∈ X.pn ++ pins:= by
     rcases fD.mp hp with z | z
     .exact z
     .exact nomatch z
    exact (f3 b hb).2.2.2.2.2 p hp'
  have loop:codeAny (model X.prog X.w) X.A (.compLoop (fw kx vx t1 i1 ifs1 t2 i2 ifs2 scope pos) 0 (.ref it) (.ref l) (blk X N' own scope s3 H3 fp pins).env)
    (compPost (model X.prog X.w) X.A X.xe none (EP X pins G Q) (.ref l) s3.heap.objs.size) { s3 with heap:=pushCells (s3.heap.push { cls:=.type "dict",data:=.dict #[] }) scope.names }:= by
   refine xH (hs2 _) (fun n s'=>∃i σ' H',Inv (blk X N' own scope s3 H3 fp pins) [] σ' H' s' /\ σ'.take G.length=G/\tn i s'.heap/\(∀b ∈ fp,H' b=none)/\W i n H') ?_ m0
    ⟨0,_,H3,IY,by rw [YB] <;> rfl,st4,fun b hb=>(f3 b hb).1,w0⟩
   rintro n s5 ⟨i,σ5,H5,I5,e5,st5,fr5,w5⟩
   rcases turn i n H5 w5 with ⟨stop,q⟩ | ⟨go,step⟩
   .refine gO (T.done (blk X N' own scope s3 H3 fp pins) rfl rfl rfl hc i [] s5 σ5 H5 ng I5 (stat fr5) st5 stop) (fun r s6 hr=>?_) fun _ _ z=>z
    obtain ⟨rfl,I6⟩:=hr
    obtain ⟨m,hn,_⟩:=id I6.loc
    refine ⟨m,hn,fun h' sb=>⟨.ref l,H5,?_,rfl,q⟩⟩
    refine (I3.unblk f3 I6).turned (t':=s6.toks) (fun b o hb e=>(sb.2 b hb).trans e) I6.free (VI I3.lt) (.inr I3.sz) (fun x c e z=>?_) fun p hp z=>?_
    .obtain ⟨v,qc⟩:=I3.cell x c e
     exact absurd qc.lt (by rw [z];exact QX _)
    .exact absurd (wR (I3.pin p hp).1) (by rw [z];exact QX _)
   .have lenσ:σ5.length=(G ++ List.replicate own.length (none:Option V)).length:= by
     rw [I5.len,gE,VQ,I.len]
     show (N' ++ own).length=_
     rw [gE,Mk.len]
    have I5':Inv (blk X N' own scope s3 H3 fp pins) [] (G ++ List.replicate own.length none) H5 s5:=I5.weak lenσ.symm fun j v e=>by
     have hj:j < G.length:= by
      by_cases hj:j < G.length
      .exact hj
      .rw [ZA (by omega),VD] at e
       split at e <;> cases e
     rw [QL hj] at e
     rw [<- e5,YG hj] at e
     exact e
    refine gO (T.item (blk X N' own scope s3 H3 fp pins) rfl rfl rfl hc i [] s5 _ H5 ng I5' (stat fr5) st5 go) (fun r s6 hr=>?_) fun _ _ z=>z
    obtain ⟨u,rfl,h6⟩:=hr
    refine b9 h6 fun _ s7 ⟨x,H7,I7,r7,y7,st7,fr7⟩=>?_
    have I7':=I7.pinned (stat fr7) (T.obj _ _ st7)
    refine b9 (hg s3 H3 fp pins _ s7 _ H7 x u _ I7' r7 (step x H7 y7)) fun _ s8 ⟨σ8,H8,I8,q8⟩=>?_
    refine b9 (ht s3 H3 fp pins _ s8 σ8 H8 _ I8 q8) fun b s9 ⟨H9,I9,q9⟩=>?_
    have again:∀{σa:St} {Ha:Hp} {sa:Shared} {m':Nat},Inv (blk X N' own scope s3 H3 fp pins) ([] ++ iX fp s7.heap) σa Ha sa->σa.take G.length=G->m' < n->W (i + 1) m' Ha ->
      ∃m,m < n/\∃i σ' H',Inv (blk X N' own scope s3 H3 fp pins) [] σ' H' sa/\σ'.take G.length=G/\tn i sa.heap/\(∀b ∈ fp,H' b=none)/\W i m H':=fun {σa Ha sa m'} Ia ea hm wa=>by
     refine ⟨m',hm,i + 1,σa,Ha,Ia.unpinned,ea,T.keep _ _ _ st7 fun b hb o e=>(Ia.pin (b,o) (xZ _ (xZ _ (cq hb e)))).1,fun b hb=>?_,wa⟩
     obtain ⟨o,e,d⟩:=T.obj _ _ st7 b hb
     exact (Ia.pin (b,o) (xZ _ (xZ _ (cq hb e)))).2.1
    cases b with
    | false=>
     rw [gL uS] at q9 ⊢
     obtain ⟨e8,m',hm,wa⟩:=q9
     exact again I9 e8 hm wa
    | true=>
     rw [gA rfl] at q9 ⊢
     refine b9 (Km (Y:=blk X N' own scope s3 H3 fp pins) rfl hc (hi2 s3 H3 fp pins) (hg2 s3 H3 fp pins) (ht2 s3 H3 fp pins) (he s3 H3 fp pins) (hv s3 H3 fp pins) hu I9 q9) fun xv sA hA=>b9 hA fun j sB hB=>VS hB fun r sC hC=>?_
     cases r with
     | error e=>exact hC.elim
     | ok f=>
      obtain ⟨σE,HE,IE,eE,m',hm,wa⟩:=hC
      exact again IE eE hm wa
  exact codeAny_compStart_dict loop (T.self _ 0 _ _ _ st4 loop)
 omega
end
end L2
namespace Jt
open PySem L2 PySem.Spec PyProof.Rows
noncomputable abbrev PL:=List ((Int × Int) × Int)
noncomputable def mY (kvs:PL) (k:Int × Int) (v:Int):PL:=if (kvs.any fun p=>decide (p.1=k))=true then kvs.map (fun p=>if p.1=k then (p.1,v) else p) else kvs ++ [(k,v)]
theorem wH (a b:Int × Int):(([.inl a.1,.inl a.2]:List Key)=[.inl b.1,.inl b.2]) ↔ a=b:= by
 obtain ⟨a1,a2⟩:=a
 obtain ⟨b1,b2⟩:=b
 simp
theorem JJ (kvs:PL) (k:Int × Int) (v:Int):putK (kvs.map fun p=>(([.inl p.1.1,.inl p.1.2],.int p.2):List Key × V)) [.inl k.1,.inl k.2] (.int v)=(mY kvs k v).map fun p=>([.inl p.1.1,.inl p.1.2],.int p.2):= by
 unfold putK mY
 have e:((kvs.map fun p=>(([.inl p.1.1,.inl p.1.2],.int p.2):List Key × V)).any fun kv=>decide (kv.1=[.inl k.1,.inl k.2]))=kvs.any fun p=>decide (p.1=k):= by
  rw [List.any_map]
  refine List.any_congr rfl fun p=>?_
  exact Y7.mpr (wH p.1 k)
 rw [e]
 split
 .rw [Q2,Q2]
  refine QQ fun p _=>?_
  by_cases q:p.1=k
  .simp [q]
  .have q':¬ (([.inl p.1.1,.inl p.1.2]:List Key)=[.inl k.1,.inl k.2]):=fun z=>q ((wH _ _).mp z)
   show (if ([.inl p.1.1,.inl p.1.2]:List Key)=[.inl k.1,.inl k.2] then _ else _)=((fun p:(Int × Int) × Int=>(([.inl p.1.1,.inl p.1.2],.int p.2):List Key × V)) (if p.1=k then (p.1,v) else p))
   rw [gL q',gL q]
 .rw [ZP];rfl
theorem Cu (kvs:PL) (k:Int × Int) (v:Int):(mY kvs k v).length ≤ kvs.length + 1:= by
 unfold mY
 split
 .rw [uL];omega
 .rw [gE];exact wN _
noncomputable def j0 (gt:D->M Unit) (tt:M Bool) (tk tv:M D) (d:D):M (Option ((Int × Int) × Int)):=do
 gt d
 let b <- tt
 if b=true then do
  let k <- tk
  let v <- tv
  match k,v with
  | .tup [.int i,.int i'],.int j=>pure (some ((i,i'),j))
  | _,_=>lift none
 else pure none
noncomputable def KS (acc:PL):Option ((Int × Int) × Int)->PL
 | none=>acc
 | some (k,v)=>mY acc k v
noncomputable def gV (turn:D->M (Option ((Int × Int) × Int))) (fin:DS->Bool):List (DS->Option D)->PL->M PL
 | [],acc=>fun Y=>if fin Y=true then some (acc,Y) else none
 | a :: r,acc=>fun Y=>match a Y with
  | none=>none
  | some d=>match turn d Y with
   | none=>none
   | some (o,δ2)=>gV turn fin r (KS acc o) δ2
noncomputable def uc (fi:M iQ) (turn:D->M (Option ((Int × Int) × Int))) (acc:PL):M PL:=do
 let it <- fi
 let _ <- lift (yK it.1.length)
 gV turn it.2 it.1 acc
noncomputable def lg (gt:D->M Unit) (tt:M Bool) (inn:PL->M PL) (d:D) (acc:PL):M PL:=do
 gt d
 let b <- tt
 if b=true then inn acc else pure acc
noncomputable def gq (own:Nat) (turn:D->PL->M PL) (fin:DS->Bool):List (DS->Option D)->PL->M PL
 | [],acc=>fun Y=>if fin Y=true then some (acc,Y) else none
 | a :: r,acc=>fun Y=>match a Y with
  | none=>none
  | some d=>match turn d acc (Y ++ List.replicate own .un) with
   | none=>none
   | some (acc2,δ2)=>gq own turn fin r acc2 (δ2.take Y.length)
noncomputable def kg (lo own:Nat) (fi:M iQ) (turn:D->PL->M PL):M D:=do
 gz lo
 let it <- fi
 let _ <- lift (yK it.1.length)
 let kvs <- gq own turn it.2 it.1 []
 pure (.dip kvs)
section
variable {X:Cx} {kx vx t1 i1 t2 i2:Expr} {tk tv:M D} {pos:Pos} {tt tt2:M Bool} {fi fi2:M iQ} {gt gt2:D->M Unit}
theorem GQ {lo n0:Nat} (hn0:n0 ≤ 1000000) {c:Ct} {q:Addr} {acc xs:PL} {S:List D} {T:List V} {Y δ':DS} {G:L2.St} {H:Hp} {Q:L2.St->Hp->Prop} (s:Sl { c with Z:=upd c.Z q (eW acc) } Y S G T H) (ln:acc.length ≤ n0) (f2:q ∉ c.B) (f3:c.H0 q=none)
  (e:uc fi (j0 gt tt tk tv) acc Y=some (xs,δ')) (k:∀σ' H',xs.length ≤ n0 + 1000->(∀n,n ≤ lo->σ'.take n=G.take n)->Sl { c with Z:=upd c.Z q (eW xs) } δ' S σ' T H' -> Q σ' H') :
  GB (OD fi) (Kb lo gt) (qj tt) (tM tk) (tM tv) q G H Q:= by
 obtain ⟨it,δ2,e1,e⟩:=bind_some e
 obtain ⟨u',δ3,e2,e⟩:=bind_some e
 obtain ⟨e3,rfl⟩:=aZ e2
 have hfew:=nq e3
 refine ⟨_,Y,S,T,it,δ2,s,e1,fun J Sx Tx H1 l hJ s1=>?_⟩
 obtain ⟨items,fin⟩:=it
 dsimp only at e hfew
 refine ⟨fun i m σ' H=>∃δi accI,m=items.length - i/\i ≤ items.length/\accI.length ≤ n0 + i/\(∀n,n ≤ lo->σ'.take n=G.take n)/\Sl { c with Z:=upd c.Z q (eW accI) } δi (Sx ++ S) σ' (Tx ++ T) H /\
  gV (j0 gt tt tk tv) fin (items.drop i) accI δi=some (xs,δ'),⟨_,δ2,acc,rfl,ZG _,ln,fun _ _=>rfl,s1,e⟩,?_⟩
 rintro i m σ' H ⟨δi,accI,rfl,hi,li,hσ,s,em⟩
 by_cases hlt:i < items.length
 .rw [QM hlt] at em
  unfold gV at em
  cases ea:items[i] δi with
  | none=>rw [ea] at em;cases em
  | some d=>
   rw [ea] at em
   dsimp only at em
   cases et:j0 gt tt tk tv d δi with
   | none=>rw [et] at em;cases em
   | some p=>
    obtain ⟨o,δt⟩:=p
    rw [et] at em
    dsimp only at em
    obtain ⟨u1,δa,ea1,et⟩:=bind_some et
    obtain ⟨b,δb,eb1,et⟩:=bind_some et
    obtain ⟨go,yld⟩:=(hJ { c with Z:=upd c.Z q (eW accI) } δi S σ' T H i s).1 items[i] d (kW hlt) ea
    refine .inr ⟨go,fun x H' y=>?_⟩
    refine ⟨{ c with Z:=upd c.Z q (eW accI) },δi,Sx ++ S,Tx ++ T,d,δa,yld x H' y,ea1,fun σ2 H2 hn s2=>?_⟩
    have hσ2:∀n,n ≤ lo->σ2.take n=G.take n:=fun n h=>(hn n h).trans (hσ n h)
    refine ⟨{ c with Z:=upd c.Z q (eW accI) },δa,Sx ++ S,Tx ++ T,b,δb,s2,eb1,fun H3 s3=>?_⟩
    cases b with
    | true=>
     rw [gA rfl] at et
     refine JN ?_
     obtain ⟨kd,δk,ek,et⟩:=bind_some et
     obtain ⟨vd,δv,ev,et⟩:=bind_some et
     split at et
     .rename_i ki ki' vi _
      obtain ⟨rfl,rfl⟩:=aU et
      refine ⟨{ c with Z:=upd c.Z q (eW accI) },δb,Sx ++ S,Tx ++ T,_,δk,s3,ek,fun v1 H4 s4=>?_⟩
      refine ⟨{ c with Z:=upd c.Z q (eW accI) },δk,_,_,_,δv,s4,ev,fun v2 H5 s5=>?_⟩
      have hv2:=s5.st.head.int
      subst hv2
      obtain ⟨p,vs,rfl,h2,h3⟩:=s5.st.tail.head.tup
      obtain ⟨w1,r1,rfl,g1,h3⟩:=h3.inv
      obtain ⟨w2,r2,rfl,g2,h3⟩:=h3.inv
      have e3:=h3.inv0
      subst e3
      cases g1.int
      cases g2.int
      have hq5:H5 q=some (eW accI):=s5.zz q _ bf
      have pt:=DPut.t (k:=[.inl ki,.inl ki']) (v:=.int vi) hq5 (bq _ _ h2) (by rw [uL];unfold sizeLine;omega)
      rw [JJ accI (ki,ki') vi] at pt
      refine ⟨_,pt,items.length - (i + 1),by omega,δv,mY accI (ki,ki') vi,rfl,hlt,by have:=Cu accI (ki,ki') vi;omega,hσ2,?_,em⟩
      exact Sl.hideSet (eW (mY accI (ki,ki') vi)) s5.pop.pop f2 f3
     .cases et
    | false=>
     rw [gL uS] at et
     refine Kk ?_
     obtain ⟨rfl,rfl⟩:=aU et
     exact ⟨items.length - (i + 1),by omega,δb,accI,rfl,hlt,by omega,hσ2,s3,em⟩
 .have ei:i=items.length:=by omega
  subst ei
  rw [Z4] at em
  unfold gV at em
  by_cases hf:fin δi=true
  .rw [gA hf] at em
   obtain ⟨rfl,rfl⟩:accI=xs/\δi=δ':=by cases em;exact ⟨rfl,rfl⟩
   refine .inl ⟨(hJ { c with Z:=upd c.Z q (eW accI) } _ S σ' T H _ s).2 rfl hf,k σ' H (by omega) hσ ?_⟩
   exact s.stk (s.st.right l)
  .rw [gL hf] at em;cases em
theorem uZ {lo own:Nat}:∀G H Q,tM (kg lo own fi (lg gt tt (uc fi2 (j0 gt2 tt2 tk tv)))) G H Q->wJ (ND fi) own (Kb lo gt) (qj tt) (GB (OD fi2) (Kb lo gt2) (qj tt2) (tM tk) (tM tv)) G H Q:=fun G H Q ⟨c,δ0,S,T,dd,δ',s0,e,k⟩=>by
 obtain ⟨u,δ1,e0,e⟩:=bind_some e
 have hlo:G.length=lo/\δ0=δ1:= by
  unfold gz at e0
  split at e0
  .cases e0;exact ⟨by rw [<- s0.len];assumption,rfl⟩
  .cases e0
 obtain ⟨hlo,rfl⟩:=hlo
 obtain ⟨it,δ2,e1,e⟩:=bind_some e
 obtain ⟨u',δ3,e2,e⟩:=bind_some e
 obtain ⟨e3,rfl⟩:=aZ e2
 have hfew:=nq e3
 obtain ⟨kvs,δ4,e4,e⟩:=bind_some e
 obtain ⟨rfl,rfl⟩:=aU e
 refine ⟨c,δ0,S,T,it,δ2,s0,e1,fun J Sx Tx H1 l hJ s1 q hq=>?_⟩
 obtain ⟨items,fin⟩:=it
 dsimp only at e4 hfew
 obtain ⟨f1,f2,f3⟩:=s1.fresh hq
 refine ⟨.dT [],.inr rfl,fun i m H=>∃δi acc,m=items.length - i/\i ≤ items.length/\acc.length ≤ 1000 * i/\Sl { c with Z:=upd c.Z q (eW acc) } δi (Sx ++ S) G (Tx ++ T) H /\
  gq own (lg gt tt (uc fi2 (j0 gt2 tt2 tk tv))) fin (items.drop i) acc δi=some (kvs,δ4),⟨_,δ2,[],rfl,ZG _,wN _,s1.hide hq,e4⟩,?_⟩
 rintro i m H ⟨δi,acc,rfl,hi,li,s,em⟩
 by_cases hlt:i < items.length
 .rw [QM hlt] at em
  unfold gq at em
  cases ea:items[i] δi with
  | none=>rw [ea] at em;cases em
  | some d=>
   rw [ea] at em
   dsimp only at em
   cases et:lg gt tt (uc fi2 (j0 gt2 tt2 tk tv)) d acc (δi ++ List.replicate own .un) with
   | none=>rw [et] at em;cases em
   | some p=>
    obtain ⟨acc2,δt⟩:=p
    rw [et] at em
    dsimp only at em
    obtain ⟨u1,δa,ea1,et⟩:=bind_some et
    obtain ⟨b,δb,eb1,et⟩:=bind_some et
    obtain ⟨go,yld⟩:=(hJ { c with Z:=upd c.Z q (eW acc) } δi S T H i s).1 items[i] d (kW hlt) ea
    refine .inr ⟨go,fun x H' y=>?_⟩
    refine ⟨{ c with Z:=upd c.Z q (eW acc) },δi ++ List.replicate own .un,Sx ++ S,Tx ++ T,d,δa,(yld x H' y).ext own,ea1,fun σ2 H2 hn s2=>?_⟩
    have ht:σ2.take G.length=G:= by
     rw [hn _ (W4 hlo)]
     exact YB rfl
    refine ⟨{ c with Z:=upd c.Z q (eW acc) },δa,Sx ++ S,Tx ++ T,b,δb,s2,eb1,fun H3 s3=>?_⟩
    have cutL:δi.length=G.length:=s.len
    cases b with
    | true=>
     rw [gA rfl] at et
     refine JN ?_
     refine GQ (n0:=1000 * i) (by omega) s3 li f2 f3 et fun σ3 H4 ll hn' s4=>?_
     have ht3:σ3.take G.length=G:=by rw [hn' _ (W4 hlo)];exact ht
     refine ⟨ht3,items.length - (i + 1),by omega,δt.take δi.length,acc2,rfl,hlt,by omega,?_,em⟩
     have s5:=s4.cut G.length
     rw [ht3,<- cutL] at s5
     exact s5
    | false=>
     rw [gL uS] at et
     refine Kk ?_
     obtain ⟨rfl,rfl⟩:=aU et
     refine ⟨ht,items.length - (i + 1),by omega,δb.take δi.length,acc,rfl,hlt,by omega,?_,em⟩
     have s5:=s3.cut G.length
     rw [ht,<- cutL] at s5
     exact s5
 .have ei:i=items.length:=by omega
  subst ei
  rw [Z4] at em
  unfold gq at em
  by_cases hf:fin δi=true
  .rw [gA hf] at em
   obtain ⟨rfl,rfl⟩:acc=kvs/\δi=δ4:=by cases em;exact ⟨rfl,rfl⟩
   refine .inl ⟨(hJ { c with Z:=upd c.Z q (eW acc) } _ S T H _ s).2 rfl hf,k _ _ ?_⟩
   have s2:=s.unhideD (d:=.dip acc) f1 fun h=>.mkDip h
   exact s2.stk (.cons s2.st.head (s2.st.tail.right l))
  .rw [gL hf] at em;cases em
variable {N' own:List Str} {scope:Scope} {ifs1 ifs2:List Expr} {lo:Nat}
theorem yi {k:Nat} (hr:cb k X.A) (hi:DC X t1 i1 fi) (hg:∀s H fp pins,DG (blk X N' own scope s H fp pins) lo t1 gt) (ht:∀s H fp pins,oY (blk X N' own scope s H fp pins) ifs1 (qj tt)) (hi2:∀s H fp pins,DI (blk X N' own scope s H fp pins) t2 i2 fi2) (hg2:∀s H fp pins,DG (blk X N' own scope s H fp pins) lo t2 gt2)
  (ht2:∀s H fp pins,oY (blk X N' own scope s H fp pins) ifs2 (qj tt2)) (he:∀s H fp pins,DE (blk X N' own scope s H fp pins) kx tk) (hv:∀s H fp pins,DE (blk X N' own scope s H fp pins) vx tv)
  (hS:autoParam (cM N' own X.env.scope scope=true) aQ0._auto_1) (hM:autoParam (cG X.N N' scope=true) aQ0._auto_1) (hk:autoParam (scope.kind=.function) aQ0._auto_1) (hc:autoParam (X.calm=true) aQ0._auto_1) (hs:∀x,foldedSetIterable i1 X.env x=pure x:=by intro _;rfl) (hs2:∀e x,foldedSetIterable i2 e x=pure x:=by intro _ _;rfl) :
  DE X (.DictComp kx vx [⟨t1,i1,ifs1,0⟩,⟨t2,i2,ifs2,0⟩] scope pos) (kg lo own.length fi (lg gt tt (uc fi2 (j0 gt2 tt2 tk tv)))):=cw (ye hi hg ht hi2 hg2 ht2 he hv (by have:=g6 hr;omega) hS hM hk hc hs hs2) uZ
end
end Jt
namespace Jt
open PySem PySem.Spec PyProof.Rows
section
variable {prog:Program} {w:World} {A:Around} {E:Value->Shared->Prop} {s:Shared}
theorem iter_raw {d:Addr} {o:Obj} {es:Array DictEntry} {ep:Nat} {Q:Value->Shared->Prop} (hd:(d == sysModules)=false) (ho:s.heap.get? d=some o) (hT:s.TypeIs (.ref d) "dict") (hdat:o.data=.dict es ep)
  (hQ:Q (.ref s.heap.objs.size) { s with heap:=s.heap.push { cls:=.type "dict_keyiterator",data:=.fields #[.ref d,.int 0 0,.int es.size 0,.int ep 0] } }) :
  wpAny (model prog w) A (pyIter (.ref d)) Q E s:= by
 refine wpAny_pyIter_slot hT PySem.F.slot_dict_iter (Q5 PySem.F.slot_dict_iter hT PySem.F.entry_dict_iter ?_ (PySem.F.args_dict_iter_1 _))
 unfold Builtin.«dict.__iter__»
 refine zN ?_
 unfold Builtin.Dict.dictSlotNone
 refine zN (wpAny_notOrdered_dict hT ?_)
 show wpAny _ _ (pure (Value.ref d)) _ _ s
 refine kT ?_
 show wpAny _ _ (Builtin.Dict.showsAll d >>= _) _ _ s
 unfold Builtin.Dict.showsAll
 rw [gL (by rw [hd];exact uS)]
 refine zN (kT ?_)
 refine zN (wpAny_dictEntries ho hdat ?_)
 refine zN (wpAny_dictEpoch ho hdat ?_)
 refine zN (QZ (kT ⟨_,rfl,"dict_keyiterator",_,⟨_,wF _ rfl,rfl⟩,PySem.F.slot_dict_keyiterator_next.lookup,?_⟩))
 simpa [rawInt] using hQ
theorem next_raw {it d:Addr} {i ep:Nat} {od:Obj} {es:Array DictEntry} {Q:Option Value->Shared->Prop} (hit:s.heap.IsKeyIter it d i es.size ep) (hod:s.heap.get? d=some od) (hdd:od.data=.dict es ep) (hlt':i < es.size)
  (hQ:∀h':Heap,h'.IsKeyIter it d (i + 1) es.size ep->Heap.SameBut it s.heap h' -> Q (some es[i].key) { s with heap:=h' }) :
  wpAny (model prog w) A (pyNext (.ref it)) Q E s:= by
 obtain ⟨o,ho,hc,hd⟩:=id hit
 unfold pyNext
 refine zN (YE (Q6 (name:=Str.ofString "__next__") hit.typeIs VA
  (Q5 VA hit.typeIs WL ?_ (WB _))))
 refine zN (kT ?_)
 refine zN ?_
 refine zN ?_
 first | refine zN (VW hit.typeIs (kT ?_)) | refine zN (YH hit.typeIs (kT ?_))
 refine zN (wpAny_fieldsOf ho hd ?_)
 have hown:Builtin.Dict_items.ownsTuple "dict_keyiterator" = false:=by decide
 simp only [hown,ZE,YO]
 show wpAny _ _ (if (Value.ref d == Value.none)=true then _ else _) _ _ s
 rw [gL (show ¬ ((Value.ref d == Value.none)=true) from uS)]
 refine zN (kT ?_)
 refine zN (wpAny_dictEntries hod hdd ?_)
 rw [gL (by simp)]
 refine zN (kT ?_)
 refine zN (wpAny_dictEpoch hod hdd ?_)
 rw [gL (by simp)]
 refine kT ?_
 simp only [show ¬ ((i:Int) < 0) from by omega,YO,Int.toNat_natCast,ZS hlt']
 refine zN ?_
 first | refine zN (VW hit.typeIs (kT ?_)) | refine zN (YH hit.typeIs (kT ?_))
 refine zN (wpAny_isOneOf_keyiter hit.typeIs ?_)
 show wpAny _ _ (setField (.ref it) 1 (rawInt ((i:Int) + 1)) >>= _) _ _ s
 refine zN (wpAny_setField ho hd (by simp) ?_)
 have hit':(s.heap.update it (Obj.mapFields (·.setIfInBounds 1 (rawInt ((i:Int) + 1))))).IsKeyIter it d (i + 1) es.size ep :=
  ⟨_,ZJ _ ho (Obj.isFreed_of_fields (WQ hd _)),(Obj.cls_mapFields ..).trans hc,by rw [WQ hd];simp [rawInt]⟩
 refine zN (Q1 ?_)
 refine zN (wpAny_isOneOf_keyiter (s:={ s with heap:=s.heap.update it (Obj.mapFields (·.setIfInBounds 1 (rawInt ((i:Int) + 1)))) }) hit'.typeIs ?_)
 show wpAny _ _ (pure es[i].key) _ _ _
 exact kT (kT ⟨_,rfl,kT (hQ _ hit' (Q4 ..))⟩)
theorem end_raw {it d:Addr} {i ep:Nat} {od:Obj} {es:Array DictEntry} {Q:Option Value->Shared->Prop} (hh:A.handled=none) (hit:s.heap.IsKeyIter it d i es.size ep) (hod:s.heap.get? d=some od) (hdd:od.data=.dict es ep) (hge:es.size ≤ i)
  (hQ:∀h',Heap.ExtBut it s.heap h' -> Q none { s with heap:=h' }):wpAny (model prog w) A (pyNext (.ref it)) Q E s:= by
 obtain ⟨o,ho,hc,hd⟩:=id hit
 unfold pyNext
 refine zN (YE (Q6 (name:=Str.ofString "__next__") hit.typeIs VA
  (Q5 VA hit.typeIs WL ?_ (WB _))))
 refine zN (kT ?_)
 refine zN ?_
 refine zN ?_
 first | refine zN (VW hit.typeIs (kT ?_)) | refine zN (YH hit.typeIs (kT ?_))
 refine zN (wpAny_fieldsOf ho hd ?_)
 have hown:Builtin.Dict_items.ownsTuple "dict_keyiterator" = false:=by decide
 simp only [hown,ZE,YO]
 show wpAny _ _ (if (Value.ref d == Value.none)=true then _ else _) _ _ s
 rw [gL (show ¬ ((Value.ref d == Value.none)=true) from uS)]
 refine zN (kT ?_)
 refine zN (wpAny_dictEntries hod hdd ?_)
 rw [gL (by simp)]
 refine zN (kT ?_)
 refine zN (wpAny_dictEpoch hod hdd ?_)
 rw [gL (by simp)]
 refine kT ?_
 simp only [show ¬ ((i:Int) < 0) from by omega,YO,Int.toNat_natCast,YR hge]
 refine zN ?_
 first | refine zN (VW hit.typeIs (kT ?_)) | refine zN (YH hit.typeIs (kT ?_))
 show wpAny _ _ (setField (.ref it) 0 .none >>= _) _ _ s
 refine zN (wpAny_setField ho hd (by simp) ?_)
 show wpAny _ _ (newExc (.type "StopIteration") [] >>= _) _ _ _
 refine zN ?_
 simp only [newExc,newTuple]
 refine zN (QZ ?_ (by size_fits))
 refine zN (m:=firstArgMember _ _) (wpAny_of_eq (a:=Value.none) (by first | rfl | (simp only [firstArgMember];rfl)) ?_)
 refine QZ ?_ (by size_fits)
 simp only [raiseNew]
 refine zN (wpAny_handled ?_)
 rw [show A.in1.handled=none from hh]
 refine zN (kT (wpAny_throw ?_))
 refine zN (YM (T:="StopIteration") (b:=true) ⟨_,wF _ rfl,rfl⟩ isSubtype_stop ?_)
 exact kT (hQ _ (((Q4 ..).extBut.push _).push _))
end
end Jt
namespace L2
open PySem PySem.Spec PyProof.Rows
theorem Paired.get {B A:Type} {R:B->A->Prop} {l:List B} {m:List A} (h:Paired R l m):∀{i:Nat} {p:B},l[i]? = some p->∃q,m[i]? = some q/\R p q:= by
 induction h with
 | nil=>intro i p e;cases e
 | cons r t ih=>
  intro i p e
  cases i with
  | zero=>cases e;exact ⟨_,rfl,r⟩
  | succ i=>exact ih (by simpa using e)
theorem ph {P:Program} {w:World} {H:Hp} {h:Heap} {a:Addr} {kvs:List (List Key × V)} (ok:iC P w H h) (e:Rd H a (.dT kvs)) :
  (a == sysModules)=false/\∃o es,h.get? a=some o/\o.cls=.type "dict" /\ o.data=.dict es es.size/\es.size=kvs.length/\∀i p,kvs[i]? = some p->∃(hlt:i < es.size) (b:Addr),es[i].key=.ref b/\H b=some (.tup (p.1.map kV)):= by
 obtain ⟨z,y,xs,r,o,es,ep,h1,h2,h3,h4,h5,h6⟩:=(show b4 P w H h a (.dT kvs) from rd_of ok e)
 subst h6
 have sz:es.size=kvs.length:= by
  rw [XF r]
  have:=ZO List.length h4
  simpa using this
 refine ⟨y,o,es,h1,h2.1,h3,sz,fun i p hp=>?_⟩
 obtain ⟨q,hq,_,hb,_⟩:=Paired.get r hp
 have hlt:i < es.size:=by rw [sz];exact (wV.mp hp).1
 refine ⟨hlt,q.2.1,?_,hb⟩
 have e2:es.toList[i]? = some (entryOfKey (tupleKind (cC P w)) q):=by rw [h4,QS,hq];rfl
 rw [QW,ZS hlt] at e2
 rw [Q9 e2]
 rfl
noncomputable def OT (a:Addr) (n:Nat):It :=
 ⟨fun i H=>∃kvs,Rd H a (.dT kvs)/\kvs.length=n/\i < n,fun i H x H'=>H' = H/\∃kvs p b,Rd H a (.dT kvs)/\kvs[i]? = some p/\x=.ref b/\H b=some (.tup (p.1.map kV)),fun i H=>∃kvs,Rd H a (.dT kvs)/\kvs.length=n/\n ≤ i⟩
theorem yL {P:Program} {w:World} {K:PySem.W.Frag} {tg:Expr} (a it:Addr) (n:Nat):Turn P w K tg (OT a n) [it] it (fun i h=>h.IsKeyIter it a i n n) where
 mem:=by simp
 obj:=fun i h st b hb=>by
  have e:b=it:=by simpa using hb
  subst e
  obtain ⟨o,e,c,d⟩:=st
  exact ⟨o,e,fun v z=>by rw [d] at z;cases z⟩
 keep:=fun i h h' st k=>st.at fun o e=>k it (by simp) o e
 item:= by
  intro X hP hw hK hc i pins s G H E I hf st hg
  subst hP hw hK
  obtain ⟨kvs,hq,hl,hi⟩:=hg
  obtain ⟨_,o,es,h1,h2,h3,h4,h5⟩:=ph I.hok hq
  obtain ⟨p,hp⟩:∃p,kvs[i]? = some p:=⟨kvs[i],kW (by omega)⟩
  obtain ⟨hlt,b,eb,hb⟩:=h5 i p hp
  obtain ⟨f0,f1,f2,f3,f4,f5⟩:=hf it (by simp)
  have en:n=es.size:=by omega
  rw [en] at st
  refine Jt.next_raw st h1 h3 hlt fun h' st' sb=>?_
  have I1:Inv X pins G H { s with heap:=h' }:=I.turned (t':=s.toks) (fun b o hb e=>(sb.2 b hb).trans e) f0 f1 f3 f4 f5
  obtain ⟨o',e',c',d'⟩:=id st'
  rw [eb]
  exact ⟨.ref b,rfl,xB (s:={ s with heap:=h' }) e' c' d' (by decide) ⟨.ref b,H,I1,rfl,⟨rfl,kvs,p,b,hq,hp,rfl,hb⟩,by rw [en];exact st',fun b hb=>(hf b hb).1⟩⟩
 done:= by
  intro X hP hw hK hc i pins s G H E I hf st hg
  subst hP hw hK
  obtain ⟨kvs,hq,hl,hi⟩:=hg
  obtain ⟨_,o,es,h1,h2,h3,h4,h5⟩:=ph I.hok hq
  obtain ⟨f0,f1,f2,f3,f4,f5⟩:=hf it (by simp)
  have en:n=es.size:=by omega
  rw [en] at st
  exact Jt.end_raw (I.ok.hd hc) st h1 h3 (by omega) fun h' eb=>⟨rfl,I.turned (t':=s.toks) (fun b o hb e=>eb b o hb e) f0 f1 f3 f4 f5⟩
 self:=fun _ _ _ _ _ st h=>wpAny_pyIter_keyiter st h
section
variable {X:Cx} {tg l:Expr} {tl:TE}
noncomputable def Mv (tl:TE):TI:=fun G H R=>tl G H fun x H1=>∃a kvs,x=.ref a/\Rd H1 a (.dT kvs)/\R (OT a kvs.length) H1
theorem DY (hl:PE X l tl):PI X tg l (Mv tl):= by
 intro pins s G H R I h
 refine b9 (hl pins s G H _ I h) fun v s1 ⟨x,H1,I1,r1,q1⟩=>?_
 obtain ⟨a,kvs,e,hq,q⟩:=q1
 subst e
 cases r1
 obtain ⟨hd,o,es,h1,h2,h3,h4,h5⟩:=ph I1.hok hq
 refine Jt.iter_raw hd h1 ⟨o,h1,h2⟩ h3 ?_
 refine ⟨s1.heap.objs.size,[s1.heap.objs.size],_,_,H1,rfl,I1.kept (t':=s1.toks) fun b o e=>zS _ e,yL a _ kvs.length,⟨_,wF _ rfl,rfl,by rw [h4];rfl⟩,fun b hb=>?_,q⟩
 have e:b=s1.heap.objs.size:=by simpa using hb
 subst e
 exact I1.fpOk (wN _) (I1.hok.fresh (wN _))
end
end L2
namespace Jt.So
open PySem L2 PySem.Spec PyProof.Rows PySem.W
noncomputable def WpT{B:Type}(g:Nat->Nat->Bool)(n:Nat):KasT B->(B->Prop)->Prop
 | .ret a,R=>R a
 | .ask i j k,R=>i<n/\j<n/\WpT g n (k (g i j)) R
section
variable {g:Nat->Nat->Bool} {n:Nat}
theorem WpT.bind {R:A->Prop}:∀{t:KasT B},WpT g n t (fun a=>WpT g n (f a) R)->WpT g n (t.bind f) R
 | .ret _,h=>h
 | .ask i j k,h=>⟨h.1,h.2.1,WpT.bind (t:=k (g i j)) h.2.2⟩
theorem WpT.mono{R S:B->Prop}(o:∀a,R a->S a):∀{t:KasT B},WpT g n t R->WpT g n t S
 | .ret _,h=>o _ h
 | .ask i j k,h=>⟨h.1,h.2.1,WpT.mono o (t:=k (g i j)) h.2.2⟩
theorem WpT.ev{R:B->Prop}:∀{t:KasT B},WpT g n t R->R (LZ g t)
 | .ret _,h=>h
 | .ask i j k,h=>WpT.ev (t:=k (g i j)) h.2.2
theorem WpT.kas {R:B->Prop} (hc:∀i j C,i < n->j < n->C (g i j) s->cmp i j C s):∀{t:KasT B},WpT g n t R->Q (LZ g t) s->t.kasWp cmp Q s
 | .ret _,_,h=>h
 | .ask i j k,hw,h=>hc i j _ hw.1 hw.2.1 (WpT.kas hc (t:=k (g i j)) hw.2.2 h)
noncomputable abbrev r8(g:Nat->Nat->Bool)(a b:Nat):Prop:=g b a=false
structure OrdG (g:Nat->Nat->Bool):Prop where
 tr:∀a b c,r8 g a b->r8 g b c->r8 g a c
 as:∀a b,g a b=true->r8 g a b
theorem OrdG.rf(o:OrdG g)(a:Nat):r8 g a a:=by cases h:g a a with
 |false=>exact h
 |true=>have:=o.as a a h;omega
noncomputable abbrev at0(p:Array Nat)(i:Nat):Nat:=p.getD i 0
noncomputable def Bs(n:Nat)(p:Array Nat):Prop:=p.Perm (List.range n).toArray
theorem Bs.size(h:Bs n p):p.size=n:=by rw[h.size_eq];simp
theorem Bs.lt(h:Bs n p){i:Nat}(o:i<n):at0 p i<n:=by
 have C:i<p.size:=by rw[h.size];exact o
 have e:at0 p i=p[i]:=by simp_all
 have hm:p[i]∈(List.range n).toArray.toList:=(VN.mp h).mem_iff.mp (by simp);grind
theorem Bs.mir(h:Bs n p)(i j d:Nat):Bs n (mirror p i j d):=(mirror_perm _ _ _ _).trans h
theorem Bs.bub(h:Bs n p)(i d:Nat):Bs n (bubble p i d):=(bubble_perm _ _ _).trans h
theorem fE{i j:Nat}(h:p[i]?=q[j]?):at0 p i=at0 q j:=by simp_all
theorem p5{i j:Nat}(C:j<=p.size)(k:Nat):at0 (mirror p i j ((j-i)/2)) k=if i<=k/\k<j then at0 p (i+j-1-k)else at0 p k:=by
 have e:=getElem?_mirror_all (i:=i) C k;by_cases o:i<=k/\k<j;. rw[gA o]at e|-;exact fE e
 .rw[gL o]at e|-;exact fE e
theorem xy{src d:Nat}(hs:src<p.size)(hd:d<=src)(k:Nat):
  at0 (bubble p src d) k=if k=src-d then at0 p src else if src-d<k/\k<=src then at0 p (k-1)else at0 p k:=by
 have e:=getElem?_bubble hs d hd k;by_cases o:k=src-d;. rw[gA o]at e|-;exact fE e
 .rw[gL o]at e|-;by_cases C:src-d<k/\k<=src;. rw[gA C]at e|-;exact fE e
  .rw[gL C]at e|-;exact fE e
noncomputable def Up(g:Nat->Nat->Bool)(p:Array Nat)(k:Nat):Prop:=∀i j,i<=j->j<k->r8 g (at0 p i) (at0 p j)
noncomputable def Dn(g:Nat->Nat->Bool)(p:Array Nat)(k:Nat):Prop:=∀i j,i<=j->j<k->r8 g (at0 p j) (at0 p i)
noncomputable def Eqv(g:Nat->Nat->Bool)(a b:Nat):Prop:=r8 g a b/\r8 g b a
theorem Eqv.trans(o:OrdG g){a b c:Nat}(h:Eqv g a b)(k:Eqv g b c):Eqv g a c:=⟨o.tr _ _ _ h.1 k.1,o.tr _ _ _ k.2 h.2⟩
theorem Eqv.symm(h:Eqv g a b):Eqv g b a:=⟨h.2,h.1⟩
theorem Eqv.rf(o:OrdG g)(a:Nat):Eqv g a a:=⟨o.rf a,o.rf a⟩
theorem pv(o:OrdG g){p:Array Nat}{i j:Nat}(C:j<=p.size)(heq:∀k,i<=k->k<j->Eqv g (at0 p k) (at0 p (j-1)))(k:Nat):
  Eqv g (at0 (mirror p i j ((j-i)/2)) k) (at0 p k):=by
 rw[p5 C];split;. exact(heq _ (by omega) (by omega)).trans o (heq k (by omega) (by omega)).symm
 .exact .rf o _
theorem Up.one(o:OrdG g)(p:Array Nat):Up g p 1:= λ i j C I=>by
 have:i=j:=by omega
 subst this;exact o.rf _
theorem Up.snoc(o:OrdG g){p:Array Nat}{x:Nat}(hx:1<=x)(h:Up g p x)(h':r8 g (at0 p (x-1)) (at0 p x)):Up g p (x+1):= λ i j C U=>by
 by_cases I:j<x;. exact h i j C I
 .have:j=x:=by omega
  subst this;by_cases J:i=j;. subst J;exact o.rf _
  .exact o.tr _ _ _ (h i (j-1) (by omega) (by omega)) h'
theorem Dn.snoc(o:OrdG g){p:Array Nat}{x:Nat}(hx:1<=x)(h:Dn g p x)(h':r8 g (at0 p x) (at0 p (x-1))):Dn g p (x+1):= λ i j C U=>by
 by_cases I:j<x;. exact h i j C I
 .have:j=x:=by omega
  subst this;by_cases J:i=j;. subst J;exact o.rf _
  .exact o.tr _ _ _ h' (h i (j-1) (by omega) (by omega))
theorem Dn.eqv(o:OrdG g){p q:Array Nat}{x:Nat}(h:Dn g p x)(e:∀k,Eqv g (at0 q k) (at0 p k)):Dn g q x:= λ i j C I=>o.tr _ _ _ (e j).1 (o.tr _ _ _ (h i j C I) (e i).2)
theorem B6(o:OrdG g){p:Array Nat}(b:Bs n p):∀(f x:Nat),x+f<=n->1<=x->Up g p x->
  WpT g n (kas_asc p f x) (λ m=>x<=m/\m<=x+f/\Up g p m/\(m=x+f\/g (at0 p m) (at0 p (m-1))=true))
 |0,x,_,_,h=>⟨wN _,wN _,h,.inl rfl⟩
 |f+1,x,hx,I,h=>by refine⟨b.lt (by omega),b.lt (by omega),?_⟩;cases C:g (p.getD x 0) (p.getD (x-1) 0)with
  |true=>exact⟨wN _,by omega,h,.inr C⟩
  |false=>refine WpT.mono (λ m hm=>?_) (B6 o b f (x+1) (by omega) (by omega) (h.snoc o I C));grind
noncomputable def DI(g:Nat->Nat->Bool)(n:Nat)(p:Array Nat)(x q:Nat):Prop:=Bs n p/\Dn g p x/\q+1<=x/\∀i,x-(q+1)<=i->i<x->Eqv g (at0 p i) (at0 p (x-1))
theorem zC(o:OrdG g):∀(f:Nat)(p:Array Nat)(x q:Nat),x+f<=n->DI g n p x q->
  WpT g n (kas_desc f p x q) (λ r=>x<=r.2.1/\r.2.1<=x+f/\DI g n r.1 r.2.1 r.2.2)
 |0,p,x,q,_,h=>⟨wN _,wN _,h⟩
 |f+1,p,x,q,hx,h=>by
  obtain⟨b,d,hq,he⟩:=h;have sz:x<=p.size:=by rw[b.size];omega
  refine⟨b.lt (by omega),b.lt (by omega),?_⟩;have next:∀{C:Array Nat}{J:Nat},DI g n C (x+1) J->WpT g n (kas_desc f C (x+1) J) (λ r=>x<=r.2.1/\r.2.1<=x+(f+1)/\DI g n r.1 r.2.1 r.2.2):= λ hd=>
   WpT.mono (λ r hr=>⟨by omega,by omega,hr.2.2⟩) (zC o f _ (x+1) _ (by omega) hd);have U:∀(C:Array Nat),∀i,x+1-(0+1)<=i->i<x+1->Eqv g (at0 C i) (at0 C (x+1-1)):= λ C i h1 h2=>by
   have:i=x+1-1:=by omega
   rw[this];exact .rf o _
  cases hc:g (p.getD x 0) (p.getD (x-1) 0)with
  |true=>
   have dn:Dn g p (x+1):=d.snoc o (by omega) (o.as _ _ hc);by_cases I:q>0;. rw[gA I];exact next ⟨b.mir _ _ _,dn.eqv o (pv o sz he),by omega,U _⟩
   .rw[gL I];exact next ⟨b,dn,by omega,U _⟩
  |false=>refine⟨b.lt (by omega),b.lt (by omega),?_⟩;cases hd:g (p.getD (x-1) 0) (p.getD x 0)with
   |true=>exact⟨wN _,by show x<=x+(f+1);omega,b,d,hq,he⟩
   |false=>
    have eq:Eqv g (at0 p x) (at0 p (x-1)):=⟨hd,hc⟩;refine next ⟨b,d.snoc o (by omega) hd,by omega,λ i h1 h2=>?_⟩;by_cases hi:i=x;. subst hi;exact .rf o _
    .exact(he i (by omega) (by omega)).trans o eq.symm
noncomputable def CR(g:Nat->Nat->Bool)(n:Nat)(r:Nat×Array Nat):Prop:=1<=r.1/\r.1<=n/\Bs n r.2/\Up g r.2 r.1
theorem vn(o:OrdG g){p:Array Nat}{x:Nat}(b:Bs n p)(I:1<=x)(hx:x<=n)(d:Dn g p x):WpT g n (kas_tail3 x n p) (CR g n):=by
 have sz:x<=p.size:=by rw[b.size];omega
 have C:Bs n (kas_rev p 0 x):=b.mir _ _ _;refine WpT.bind (WpT.mono (λ m hm=>?_) (B6 o C (n-x) x (by omega) I λ i j J U=>?_));. exact⟨by omega,by omega,C,hm.2.2.1⟩
 .show r8 g (at0 (mirror p 0 x ((x-0)/2)) i) (at0 (mirror p 0 x ((x-0)/2)) j);rw[p5 sz,p5 sz,gA (by omega),gA (by omega)];exact d _ _ (by omega) (by omega)
theorem mw(o:OrdG g){p:Array Nat}{x:Nat}(b:Bs n p)(hx:x+1<=n)(d:Dn g p (x+1)):WpT g n (kas_descPart x n p) (CR g n):=by
 refine WpT.bind (WpT.mono (λ r J=>?_) (zC o (n-(x+1)) p (x+1) 0 (by omega) ⟨b,d,by omega,λ i U h2=>?_⟩))
 .obtain⟨U,h2,I,d',hq,he⟩:=J;have sz:r.2.1<=r.1.size:=by rw[I.size];omega
  by_cases C:r.2.2>0;. rw[gA C];exact vn o (I.mir _ _ _) (by omega) (by omega) (d'.eqv o (pv o sz he))
  .rw[gL C];exact vn o I (by omega) (by omega) d'
 .have:i=x+1-1:=by omega
  rw[this];exact .rf o _
theorem w_count(o:OrdG g){p:Array Nat}(b:Bs n p)(h1:1<=n):WpT g n (kas_count n p) (CR g n):=by
 refine WpT.bind (WpT.mono (λ m hm=>?_) (B6 o b (n-1) 1 (by omega) (wN _) (.one o p)));obtain⟨a1,a2,I,a4⟩:=hm;by_cases e:(m==n)=true;. rw[gA e];exact⟨a1,by omega,b,I⟩
 .rw[gL e];have ne:m≠n:= λ z=>e (by rw[z];exact beq_self_eq_true _);have C:g (at0 p m) (at0 p (m-1))=true:=a4.resolve_left (by omega);by_cases J:m>1;. rw[gA J];refine⟨b.lt (by omega),b.lt (by omega),?_⟩;cases hc:g (p.getD 0 0) (p.getD (m-1) 0)with
   |true=>exact⟨a1,by omega,b,I⟩
   |false=>
    have all:∀k,0<=k->k<m->Eqv g (at0 p k) (at0 p (m-1)):= λ k _ hk=>⟨I k (m-1) (by omega) (by omega),o.tr _ _ _ hc (I 0 k (by omega) hk)⟩;have sz:m<=p.size:=by rw[b.size];omega
    refine mw o (b.mir _ _ _) (by omega) ?_;refine Dn.eqv o (p:=p) (λ i j U hj=>?_) (pv o sz all);by_cases aa:j<m;. exact((all j (by omega) aa).trans o (all i (by omega) (by omega)).symm).1
    .have:j=m:=by omega
     subst this;by_cases hi:i=j;. subst hi;exact o.rf _
     .exact o.tr _ _ _ (o.as _ _ C) (all i (by omega) (by omega)).2
  .have:m=1:=by omega
   subst this;refine mw o b (by omega) λ i j U hj=>?_;by_cases hi:i=j;. subst hi;exact o.rf _
   .have e1:i=0:=by omega
    have e2:j=1:=by omega
    subst e1 e2;exact o.as _ _ C
theorem pL (o:OrdG g) {p:Array Nat} {k:Nat} (b:Bs n p) (hk:k < n) (u:Up g p k):∀(f l r:Nat),l ≤ r->r ≤ k->r - l ≤ f->(∀i,i < l->r8 g (at0 p i) (at0 p k))->(∀i,r ≤ i->i < k->g (at0 p k) (at0 p i)=true) ->
  WpT g n (kas_place p k f l r) (fun l'=>l' ≤ k/\(∀i,i < l' -> r8 g (at0 p i) (at0 p k))/\∀i,l' ≤ i->i < k->g (at0 p k) (at0 p i)=true)
 | 0,l,r,h1,h2,h3,hl,hr=>by
  have:l=r:=by omega
  subst this
  exact ⟨h2,hl,hr⟩
 | f + 1,l,r,h1,h2,h3,hl,hr=>by
  unfold kas_place
  by_cases hge:l ≥ r
  .rw [gA hge]
   have:l=r:=by omega
   subst this
   exact ⟨h2,hl,hr⟩
  .rw [gL hge]
   refine ⟨b.lt hk,b.lt (by omega),?_⟩
   cases hc:g (p.getD k 0) (p.getD ((l + r) / 2) 0) with
   | true=>
    refine pL o b hk u f l ((l + r) / 2) (by omega) (by omega) (by omega) hl fun i h4 h5=>?_
    cases hz:g (at0 p k) (at0 p i) with
    | true=>rfl
    | false=>
     have:=o.tr _ _ _ (u _ _ h4 h5) hz
     simp_all
   | false=>
    refine pL o b hk u f ((l + r) / 2 + 1) r (by omega) (by omega) (by omega) (fun i h4=>?_) hr
    exact o.tr _ _ _ (u i ((l + r) / 2) (by omega) (by omega)) hc
theorem IW (o:OrdG g):∀(f:Nat) (p:Array Nat) (k:Nat),Bs n p->k + f ≤ n->Up g p k->WpT g n (kas_bin f p k) (fun q=>Bs n q/\Up g q (k + f))
 | 0,p,k,b,_,u=>⟨b,u⟩
 | f + 1,p,k,b,hk,u=>by
  refine WpT.bind (WpT.mono (fun l hl=>?_) (pL o b (by omega) u k 0 k (by omega) (wN _) (by omega) (fun i h=>by omega) fun i h1 h2=>by omega))
  obtain ⟨hlk,hlo,hhi⟩:=hl
  have ks:k < p.size:=by rw [b.size];omega
  refine WpT.mono (fun q hq=>⟨hq.1,by grind⟩) (IW o f _ (k + 1) (b.bub _ _) (by omega) fun i j hij hj=>?_)
  rw [xy ks (by omega),xy ks (by omega),show k - (k - l)=l by omega]
  generalize at0 p k=c at hlo hhi ⊢
  repeat' split
  all_goals first
   | (exfalso;omega)
   | exact o.rf _
   | exact hlo _ (by omega)
   | exact o.as _ _ (hhi _ (by omega) (by omega))
   | exact u _ _ (by omega) (by omega)
theorem w_sort(o:OrdG g)(C:1<=n):WpT g n (kas_sort n) (λ p=>Bs n p/\Up g p n):=by
 refine WpT.bind (WpT.mono (λ r I=>?_) (w_count o (Array.Perm.refl _) C));obtain⟨a1,a2,b,u⟩:=I;by_cases h:r.1<n;. rw[gA h];refine WpT.mono (λ q J=>⟨J.1,?_⟩) (IW o (n-max r.1 1) r.2 (max r.1 1) b (by omega) (by rw[show max r.1 1=r.1 by omega];exact u));simp_all
 .rw[gL h];exact⟨b,by rw[show n=r.1 by omega];exact u⟩
end
noncomputable def gI(ks:List Int)(i j:Nat):Bool:=decide (ks.getD i 0<ks.getD j 0)
theorem gI_ord(ks:List Int):OrdG (gI ks) where
 tr:= λ a b c h k=>by unfold r8 gI at*;grind
 as:= λ a b h=>by unfold r8 gI at*;grind
noncomputable def ordI(ks:List Int):Array Nat:=LZ (gI ks) (kas_sort ks.length)
theorem ordI_ok(h:1<=ks.length):Bs ks.length (ordI ks)/\Up (gI ks) (ordI ks) ks.length:=(w_sort (gI_ord ks) h).ev
noncomputable def pickI{B:Type}(ks:List Int)(z:B)(vs:List B):List B:=if ks.length<2 then vs else(ordI ks).toList.map λ i=>vs.getD i z
theorem pickI_perm(ks:List Int)(z:B)(vs:List B)(C:vs.length=ks.length):(pickI ks z vs).Perm vs:=by
 unfold pickI;split;. exact .refl _
 .have b:=(ordI_ok (ks:=ks) (by omega)).1;have p:(ordI ks).toList.Perm (List.range ks.length):=by simpa using VN.mp b
  have e:(List.range ks.length).map (λ i=>vs.getD i z)=vs:=by
   apply YZ;intro i;rw[QS];by_cases o:i<ks.length;. rw[YL o];simp[kW (show i<vs.length by omega)]
   .rw[YW (by simpa using o),YW (by omega)];rfl
  grind
theorem pickI_sorted(ks:List Int):(pickI ks 0 ks).Pairwise (. <= .):=by
 unfold pickI;split;. rename_i h;match ks,h with
  |[],_=>exact .nil
  |[a],_=>exact V0 _ _
  |_::_::_,h=>exact absurd h (by simp)
 .obtain⟨b,u⟩:=ordI_ok (ks:=ks) (by omega);rw[ZX,Z7];intro i j hi J U;have o:j<ks.length:=by rw[<- b.size];simpa using J
  have:=u i j (by omega) o;have e:∀k(I:k<(ordI ks).toList.length),at0 (ordI ks) k=(ordI ks).toList[k]:= λ k I=>by
   have C:k<(ordI ks).size:=by simpa using I
   simp[C]
  unfold r8 gI at this;grind
theorem pickI_map(ks:List Int)(f:B->A)(z:B)(vs:List B):(pickI ks z vs).map f=pickI ks (f z) (vs.map f):=by
 unfold pickI;split;. rfl
 .rw[Q2];refine QQ λ i _=>?_;simp
end Jt.So
namespace Jt
open PySem
variable{M:Nat}
noncomputable def av(M:Nat)(p:SetTable.Probe):SetTable.Probe:=if p.more>0 then{ p with j:=p.j+1,more:=p.more-1 }else
 { p with j:=(SetTable.leap M p.i p.perturb).1,more:=SetTable.runEnd M (SetTable.leap M p.i p.perturb).1-(SetTable.leap M p.i p.perturb).1,i:=(SetTable.leap M p.i p.perturb).1,perturb:=(SetTable.leap M p.i p.perturb).2 }
noncomputable def rn(M i q:Nat):SetTable.Probe:=⟨i,SetTable.runEnd M i-i,i,q,none⟩
noncomputable def wy(M b:Nat):Nat->SetTable.Probe
 |0=>rn M (b%(M+1)) b
 |n+1=>av M (wy M b n)
noncomputable def rl(M i:Nat):Nat:=SetTable.runEnd M i-i
noncomputable def lp(M:Nat):Nat->Nat×Nat->Nat×Nat
 |0,s=>s
 |n+1,s=>SetTable.leap M (lp M n s).1 (lp M n s).2
end Jt
namespace Jt.Tu
open PySem Jt
variable{M:Nat}
section
variable {prog:Program} {w:World}
noncomputable abbrev rh(prog:Program)(w:World)(h:Heap)(ks:List Int)(a:Addr):Prop:=IsTupleKey (intKind prog w) h ks a
end
end Jt.Tu
namespace Jt.Tu
open PySem Jt PyProof.Rows PySem.W
noncomputable def cj:List Int->List Int->Bool
 |[],[]=>false
 |[],_::_=>true
 |_::_,[]=>false
 |x::xs,y::ys=>if x=y then cj xs ys else decide (x<y)
theorem uK:∀{a b c:List Int},cj b a=false->cj c b=false->cj c a=false
 |[],_,[],_,_=>rfl
 |[],_,_::_,_,_=>rfl
 |x::xs,[],c,h,_=>by cases h
 |x::xs,y::ys,[],_,h=>by cases h
 |x::xs,y::ys,z::zs,o,C=>by
  unfold cj at o C|-;by_cases I:y=x
  .subst I;rw[gA rfl]at o;by_cases J:z=y;. subst J;rw[gA rfl]at C|-;exact uK o C
   simp_all
  grind
theorem t6:∀{a b:List Int},cj a b=true->cj b a=false
 |[],[],h=>by cases h
 |[],_::_,_=>rfl
 |_::_,[],h=>by cases h
 |x::xs,y::ys,h=>by
  unfold cj at h|-;by_cases e:x=y;. subst e;rw[gA rfl]at h|-;exact t6 h
  .rw[gL e]at h;grind
theorem ma:∀{a b:List Int},cj a b=false->cj b a=false->a=b
 |[],[],_,_=>rfl
 |[],_::_,h,_=>by cases h
 |_::_,[],_,h=>by cases h
 |x::xs,y::ys,o,C=>by
  unfold cj at o C;by_cases e:x=y;. subst e;rw[gA rfl]at o C;rw[ma o C]
  grind
noncomputable def gT(ks:List (List Int))(i j:Nat):Bool:=cj (ks.getD i []) (ks.getD j [])
theorem C1(ks:List (List Int)):So.OrdG (gT ks) where
 tr:= λ a b c h k=>uK h k
 as:= λ a b h=>t6 h
noncomputable def lR(ks:List (List Int)):Array Nat:=LZ (gT ks) (kas_sort ks.length)
theorem o5(h:1<=ks.length):So.Bs ks.length (lR ks)/\So.Up (gT ks) (lR ks) ks.length:=(So.w_sort (C1 ks) h).ev
noncomputable def pickT{B:Type}(ks:List (List Int))(z:B)(vs:List B):List B:=if ks.length<2 then vs else(lR ks).toList.map λ i=>vs.getD i z
theorem pickT_perm(ks:List (List Int))(z:B)(vs:List B)(o:vs.length=ks.length):(pickT ks z vs).Perm vs:=by
 unfold pickT;split;. exact .refl _
 .have b:=(o5 (ks:=ks) (by omega)).1;have p:(lR ks).toList.Perm (List.range ks.length):=by simpa using VN.mp b
  have e:(List.range ks.length).map (λ i=>vs.getD i z)=vs:=by apply YZ;intro i;rw[QS];grind
  exact(p.map _).trans (by rw[e])
theorem pickT_sorted(ks:List (List Int)):(pickT ks [] ks).Pairwise (λ a b=>cj b a=false):=by
 unfold pickT;split;. rename_i h;match ks,h with
  |[],_=>exact .nil
  |[a],_=>exact V0 _ _
  |_::_::_,h=>exact absurd h (by simp)
 .obtain⟨b,u⟩:=o5 (ks:=ks) (by omega);rw[ZX,Z7];intro i j hi I J;have o:j<ks.length:=by rw[<- b.size];simpa using I
  have:=u i j (by omega) o;have e:∀k(hk:k<(lR ks).toList.length),So.at0 (lR ks) k=(lR ks).toList[k]:= λ k hk=>by
   have C:k<(lR ks).size:=by simpa using hk
   simp[C]
  rw[e i hi,e j I]at this;exact this
theorem pickT_map(ks:List (List Int))(f:B->A)(z:B)(vs:List B):(pickT ks z vs).map f=pickT ks (f z) (vs.map f):=by
 unfold pickT;split;. rfl
 .rw[Q2];refine QQ λ i _=>?_;simp
theorem pickT_any(h:vs.length=ks.length)(z o:B):pickT ks z vs=pickT ks o vs:=by
 unfold pickT;split;. rfl
 .have b:=(o5 (ks:=ks) (by omega)).1;have p:(lR ks).toList.Perm (List.range ks.length):=by simpa using VN.mp b
  refine QQ λ i hi=>?_;have:=wL.mp (p.mem_iff.mp hi);simp_all
section
variable {prog:Program} {w:World} {A:Around} {E:Value->Shared->Prop} {s:Shared}
theorem JG{b fin:Bool}{Q:Bool->Shared->Prop}{ks:List Int}:∀{o:List Int}{vs us:List Value}{i:Nat},ItemsAre (intKind prog w) ks vs->ItemsAre (intKind prog w) o us->(fin=decide (i+vs.length<i+us.length))->Q (cj ks o) s->KatLex prog w A b fin Q (vs.zip us) i s:=by
 induction ks with
 |nil=>
  intro o vs us i a c hf h;cases a;refine kat_nil ?_;cases c with
  |nil=>
   have:fin=false:=by simpa using hf
   subst this;exact h
  |cons _ _=>
   have:fin=true:=by simpa using hf
   subst this;exact h
 |cons x xs ih=>
  intro o vs us i a c hf h;cases a with |cons C J=>cases c with
  |nil=>
   have:fin=false:=by rw[hf,decide_eq_false_iff_not];simp
   subst this;exact kat_nil h
  |@cons y ys u us I U=>
   refine kat_cons ((intKind prog w).eqBool C I ?_);unfold cj at h;by_cases e:x=y;. rw[QN e];rw[gA e]at h;refine kat_yes (ih J U ?_ h);rw[hf];simp only[QU];congr 1;rw[eq_iff_iff];omega
   rw[QR e];rw[gL e]at h;obtain⟨t1,rfl⟩:=VX (show Value.isInt x _=true from C);obtain⟨t2,rfl⟩:=VX (show Value.isInt y _=true from I);refine kat_no ?_;cases hb:(b&&i==0)with
   |true=>exact oneLt_int h
   |false=>exact kat_one _ _ (PyProof.Rows.lt_int h)
theorem KN{a c:Addr}{b:Bool}{Q:Bool->Shared->Prop}(J:rh prog w s.heap ks a)(U:rh prog w s.heap js c)(h:Q (cj ks js) s):wpAny (model prog w) A (keyLt' (tuples' b) (.ref a) (.ref c)) Q E s:=by obtain⟨o,xs,n,ho,_,hd,hi⟩:=J;obtain⟨o2,ys,n2,C,_,hd2,I⟩:=U;refine kat_lt ho hd C hd2 (JG hi I ?_ h);simp
noncomputable def pQ(prog:Program)(w:World)(h:Heap)(ks:List (List Int))(vs:List Value):Prop:=vs.length=ks.length/\∀(i:Nat)(k:List Int),ks[i]?=some k->∃b:Addr,vs[i]?=some (Value.ref b)/\rh prog w h k b
theorem pQ.keeps{ks:List (List Int)}{vs:List Value}(x:pQ prog w h ks vs)(k:∀b o,h.get? b=some o->o.cls= .type "tuple"->h'.get? b=some o):pQ prog w h' ks vs:=⟨x.1,λ i q e=>by obtain⟨b,C,o,its,n,I,hc,r⟩:=x.2 i q e;exact⟨b,C,o,its,n,k b o I hc,hc,r⟩⟩
theorem qw:∀{ks:List (List Int)}{vs:List Value},pQ prog w h ks vs->(∀k∈ks,k≠[])->∃fs,KatTups h vs fs/\fs.length=vs.length/\∀v∈fs,∃i u,v=Value.int i u
 |[],[],_,_=>⟨[],trivial,rfl,λ v J=>nomatch J⟩
 |[],_::_,h,_=>by have:=h.1;simp at this
 |_::_,[],h,_=>by have:=h.1;simp at this
 |k::ks,v::vs,h,hn=>by obtain⟨fs,a,b,c⟩:=qw (ks:=ks) (vs:=vs) ⟨by simpa using h.1,λ i q e=>h.2 (i+1) q (by simpa using e)⟩ λ k hk=>hn k (uN _ hk);obtain⟨ad,U,o,its,n,ho,hc,hd,hi⟩:=h.2 0 k rfl;cases U;cases k with
  |nil=>exact absurd rfl (hn [] uT)
  |cons x xs=>
   have hl:its.toList[0]?≠none:=by generalize its.toList=q at hi;cases hi;simp
   cases C:its[0]? with
   |none=>rw[<- QW]at C;exact absurd C hl
   |some f=>
    refine⟨f::fs,KatTups.cons ho hc hd C a,by simp[b],λ u I=>?_⟩;rcases wW.mp I with rfl|I
    .rw[<- QW]at C;generalize its.toList=q at hi C;cases hi with
     |cons h1 r1=>cases C;obtain⟨t,e⟩:=VX (show Value.isInt x _=true from h1);exact⟨x,t,e⟩
    simp_all
theorem nh{ks:List (List Int)}{n:Nat}{P:PySem.Fin->Shared->Prop}(ho:s.heap.get? a=some (seqObj "list" vs.toArray n))(hT:pQ prog w s.heap ks vs)(ae:2<=vs.length->∀k∈ks,k≠[])(af:vs.length<64)
  (h:P (.done (.ret .none)) { s with heap:=sortedHeap s.heap a vs (pickT ks Value.none vs).toArray }):wpAny (model prog w) A (Builtin.«list.sort» ⟨[.ref a],[]⟩) P E s:=by
 rw[list_sort_plain];have ha:a<s.heap.objs.size:=wR ho;refine zN (listItems_at ho rfl ?_);refine zN (YV ho rfl ?_);obtain⟨e1,aa⟩:∃e1,(s.heap.update a (Obj.mapSeq λ _=>#[])).get? a=some (seqObj "list" #[] e1):=⟨_,get?_update_seq ho (λ _=>#[])⟩;refine zN (seqEpoch_at aa rfl ?_);refine zN (WY ?_);refine zN (XE ?_);refine Q1 ?_;have J:(((s.heap.update a (Obj.mapSeq λ _=>#[])).push (seqObj "tuple" vs.toArray 0)).push (seqObj "list" #[] 0)).get? a=some (seqObj "list" #[] e1):=by rw[Heap.get?_push_ne _ _ _ (by rw[size_push',XD];exact fR (VH ha)),Heap.get?_push_ne _ _ _ (by rw[XD];exact fR ha)];exact aa
 show wpAny (model prog w) A _ P E { s with heap:=((s.heap.update a (Obj.mapSeq λ _=>#[])).push (seqObj "tuple" vs.toArray 0)).push (seqObj "list" #[] 0) };dsimp only;have hsz:vs.toArray.size=vs.length:=by simp
 have hl:=hT.1;have pl:(pickT ks Value.none vs).length=vs.length:=(pickT_perm ks Value.none vs hl).length_eq;have U:pQ prog w (((s.heap.update a (Obj.mapSeq λ _=>#[])).push (seqObj "tuple" vs.toArray 0)).push (seqObj "list" #[] 0)) ks vs:=hT.keeps λ b o e hc=>by
  have hb:b≠a:= λ z=>by
   rw[z,ho]at e;rw[<- Q9 e]at hc;exact absurd (show(Value.type "list")=Value.type "tuple" from hc) (by decide)
  exact zS _ (zS _ ((VL _ _ (Ne.symm hb)).trans e))
 by_cases h2:vs.toArray.size<2
 .rw[gA h2,gA h2];refine zN (kT ?_);rw[StateT.run_pure];refine zN (kT ?_);dsimp only;refine zN (seqEpoch_at J rfl ?_);have ep:(arrOf (SortSt.mk' general' (vs.toArray.zip vs.toArray) #[] 7 none)).map (·.2)=(pickT ks Value.none vs).toArray:=by
   have:pickT ks Value.none vs=vs:=by unfold pickT;rw[gA (by omega)]
   rw[this];show((vs.toArray.zip vs.toArray).map (·.2))=vs.toArray;apply Array.toList_inj.mp;simp[List.map_snd_zip]
  rw[ep];refine zN (YV J rfl ?_ (hsz2:=by show(pickT ks Value.none vs).length<=_;rw[pl,ZW];omega));simp only[bne_self_eq_false,ZE,YO];exact kT h
 .rw[gL h2,gL h2];rw[hsz]at h2;obtain⟨fs,kt,fl,fi⟩:=qw U (ae (by omega));refine zN (kat_kind (T:= .type "int") kt (by omega) (λ v hv=>?_) (by decide) ?_);. obtain⟨i,u,rfl⟩:=fi v hv;exact Looks.now
  refine zN (gO (kat_run (E:=E) (ks:=vs) (vs:=vs) (κ:=tuples' ((Value.type "int")!=Value.type "tuple")) (Q:= λ st I=>(arrOf st).map (·.2)=(pickT ks Value.none vs).toArray/\failedOf st=none/\I={ s with heap:=((s.heap.update a (Obj.mapSeq λ _=>#[])).push (seqObj "tuple" vs.toArray 0)).push (seqObj "list" #[] 0) })
   (G:= λ p I=>p=lR ks/\I={ s with heap:=((s.heap.update a (Obj.mapSeq λ _=>#[])).push (seqObj "tuple" vs.toArray 0)).push (seqObj "list" #[] 0) }) rfl (by omega) af (λ p st I hp ha hf hg=>⟨?_,hf,hg.2⟩) ?_) ?_ λ _ _ x=>x);. rw[kat_snds rfl ha,hg.1];unfold pickT;rw[gL (by omega)]
  .have ws:=So.w_sort (C1 ks) (n:=vs.length) (by omega);refine So.WpT.kas (g:=gT ks) (n:=vs.length) (λ i j C hi hj hC=>?_) ws ⟨by unfold lR;rw[hl],rfl⟩;unfold kas_ask;obtain⟨b1,ag,k1⟩:=U.2 i (ks[i]'(by omega)) (kW _);obtain⟨b2,ah,k2⟩:=U.2 j (ks[j]'(by omega)) (kW _);have d1:vs.getD i Value.none= .ref b1:=by rw[QP,ag];rfl
   have d2:vs.getD j Value.none= .ref b2:=by rw[QP,ah];rfl
   rw[d1,d2];refine KN k1 k2 ?_;have:gT ks i j=cj (ks[i]'(by omega)) (ks[j]'(by omega)):=by unfold gT;rw[QP,QP,kW (by omega),kW (by omega)];rfl
   rw[<- this];exact hC
  .rintro⟨⟨⟩,st⟩ I ⟨ab,hf,rfl⟩;dsimp only;refine zN (seqEpoch_at J rfl ?_);rw[ab];refine zN (YV J rfl ?_ (hsz2:=by show(pickT ks Value.none vs).length<=_;rw[pl,ZW];omega));rw[hf];simp only[bne_self_eq_false,ZE,YO];exact kT h
theorem vh{Ok:List (List Int)->List Value->Prop}
  (hc:∀(A':Around)(Q':List Value->Shared->Prop)(E':Value->Shared->Prop),(A'.handled=A.handled)->(∀(vs:List Value)(ks:List (List Int))(h':Heap)(tk:Nat)(d:Drawn),Ok ks vs->vs.length<64->(2<=vs.length->∀k∈ks,k≠[])->pQ prog w h' ks vs->(∀b o,s.heap.get? b=some o->h'.get? b=some o)->Q' vs { s with heap:=h',toks:=tk,drawn:=d })->
   wpAny (model prog w) A' (collect v) Q' E' s)
  (h:∀(C h':Heap)(tk:Nat)(d:Drawn)(ks:List (List Int))(vs:List Value)(e:Nat),Ok ks vs->vs.length=ks.length->(∀b o,s.heap.get? b=some o->C.get? b=some o)->(∀b o,C.get? b=some o->h'.get? b=some o)->h'.get? C.objs.size=some { cls:= .type "list",data:= .seq (pickT ks Value.none vs).toArray e }->
   Q (.ref C.objs.size) { s with heap:=h',toks:=tk,drawn:=d }):
  wpAny (model prog w) A (call (.builtin "sorted") [v]) Q E s:=by refine Calls.call_function_entry PyProof.Rows.kind_sorted PyProof.Rows.plain_sorted PyProof.Rows.entry_sorted (PyProof.Rows.args_sorted1 _) ?_;refine zN (m:=checkCount "sorted" 1 1 _) (kT ?_);refine zN (hc _ _ _ (by simp) λ vs ks C tk d hok I J hT kp=>?_);refine zN (XE ?_ (by rw[ZW];omega));have g1:(C.push (PyProof.Rows.seqObj "list" vs.toArray 0)).get? C.objs.size=some (PyProof.Rows.seqObj "list" vs.toArray 0):=wF _ rfl;have U:pQ prog w (C.push (PyProof.Rows.seqObj "list" vs.toArray 0)) ks vs:=hT.keeps λ b o e _=>zS _ e;refine zN (Q1 (Q5 PyProof.Rows.slot_list_sort ⟨_,g1,rfl⟩ PyProof.Rows.entry_list_sort (nh (s:={ s with heap:=C.push (PyProof.Rows.seqObj "list" vs.toArray 0),toks:=tk,drawn:=d }) g1 U J I ⟨_,rfl,?_⟩) (PyProof.Rows.args_list_sort _)));obtain⟨e,he⟩:=PyProof.Rows.sortedHeap_at (out:=(pickT ks Value.none vs).toArray) g1;refine kT ⟨_,rfl,h C _ tk d ks vs e hok hT.1 kp (λ b o eb=>?_) (by omega)⟩;have hb:=wR eb;rw[PyProof.Rows.sortedHeap_old (fR hb) (by rw[QO];exact VH hb)];exact zS _ eb
end
end Jt.Tu
namespace Jt.Tu
open PySem Jt L2 PyProof.Rows
noncomputable abbrev Lz(l:List (List Int)):Prop:=l.Pairwise λ a b=>cj a b=true
theorem lex_trans(o:cj a b=true)(C:cj b c=true):cj a c=true:=by cases q:cj a c with
 |true=>rfl
 |false=>have e:=uK (a:=c) (b:=a) (c:=b) q (t6 o);simp_all
section
variable {X:Cx}
noncomputable def JZ:V->Addr
 | .ref p=>p
 |_=>0
theorem rR:∀{ns:List Int}{us:List Value},IntsAre us ns->ItemsAre (intKind prog w) ns us
 |_,_,.nil=> .nil
 |_,_,.cons n t r=> .cons (by simp[intKind,Value.isInt]) (rR r)
theorem o_{G:L2.St}{H:Hp}{s:Shared}(I:Inv X pins G H s){p:Addr}{ns:List Int}(C:fQ X.K H p (ns.map V.int)):rh X.prog X.w s.heap ns p:=by obtain⟨its,J,⟨o,U,hc,n,hd⟩,hz⟩:=I.tuple C;exact⟨o,its.toArray,n,U,hc,hd,by simpa using rR (intsAre_of J)⟩
theorem uU{K:PySem.W.Frag}{H:Hp}:∀{vs:List V}{o:List (List Int)},OC K H vs o->vs.length=o.length/\∀i,i<vs.length->vs.getD i .non= .ref (JZ (vs.getD i .non))/\fQ K H (JZ (vs.getD i .non)) ((o.getD i []).map V.int)
 |[],o,h=>by have h':o=[]:=h;subst h';exact⟨rfl,λ i hi=>absurd hi (YU _)⟩
 |v::vs,o,h=>by obtain⟨p,ns,r,rfl,C,rfl,h⟩:=h;obtain⟨a,b⟩:=uU h;refine⟨by simp[a],λ i hi=>?_⟩;cases i with
  |zero=>exact⟨rfl,C⟩
  |succ i=>simpa using b i (by simp_all)
end
noncomputable def tD(ns:List Int):D:= .tup (ns.map .int)
section
variable {prog:Program} {w:World} {A:Around} {E:Value->Shared->Prop} {s:Shared}
theorem mV{a b:Addr}{P:PySem.Fin->Shared->Prop}(hx:rh prog w s.heap x a)(hy:rh prog w s.heap y b)(h:P (.done (.ret (.bool (cj x y)))) s):
  wpAny (model prog w) A (Builtin.«tuple.__lt__» ⟨[.ref a,.ref b],[]⟩) P E s:=by
 have ah:=hy.typeIs;obtain⟨oa,xs,na,ai,_,aj,ak⟩:=hx;obtain⟨ob,ys,nb,ao,_,aq,ar⟩:=hy;show wpAny _ _ (isInstance (.ref b) (.type "tuple") >>= _) _ _ s;refine zN (YM ah isSubtype_tuple_tuple ?_);simp only[Bool.not_true,ZE,YO];refine zN (wpAny_tupleItemsOf ai aj ?_);refine zN (wpAny_tupleItemsOf ao aq ?_);refine zN ?_;refine wpAny_forIn_list _
  (λ rest r s'=>r.1=none/\s'=s/\∃(x' y':List Int) (C I:List Value),rest=List.zip C I/\ItemsAre (intKind prog w) x' C/\ItemsAre (intKind prog w) y' I/\cj x' y'=cj x y/\decide (C.length<I.length)=decide (xs.size<ys.size))
  _ ?_ ?_ _ _ ⟨rfl,rfl,x,y,xs.toList,ys.toList,rfl,ak,ar,rfl,by simp⟩;. rintro⟨u,v⟩ rest r s' ⟨hr,rfl,x',y',C,I,hz,U,J,o,hlen⟩;cases U with
  |nil=>simp at hz
  |@cons k1 u' au aa h1 ab=>cases J with
   |nil=>simp at hz
   |@cons k2 v' av ae h2 af=>
    simp only[List.zip_cons_cons,List.cons.injEq,Prod.mk.injEq]at hz;obtain⟨⟨rfl,rfl⟩,rfl⟩:=hz;refine zN ((intKind prog w).eqBool (a:=k1) (b:=k2) h1 h2 ?_);by_cases hk:k1=k2;. subst hk;rw[QN rfl];refine kT ⟨rfl,rfl,au,av,aa,ae,rfl,ab,af,?_,by simpa using hlen⟩;rw[<- o];conv=>rhs;unfold cj;rw[gA rfl]
    .rw[QR hk];have hf:cj x y=decide (k1<k2):=by rw[<- o];conv=>lhs;unfold cj;rw[gL hk]
     rw[hf]at h;obtain⟨t1,rfl⟩:=VX (show Value.isInt k1 u=true from h1);obtain⟨t2,rfl⟩:=VX (show Value.isInt k2 v=true from h2);refine zN (V5 ?_);refine zN (PyProof.Rows.lt_int (a:=k1) (b:=k2) ?_);exact zN (kT (kT (kT h)))
 .rintro⟨r1,r2⟩ s' ⟨hr,rfl,x',y',C,I,hz,U,J,o,hlen⟩;subst hr;refine kT ?_;have ag:decide (xs.size<ys.size)=cj x y:=by rw[<- o,<- hlen];cases U with
   |nil=>cases J with
    |nil=>rfl
    |cons _ _=>simp[cj]
   |cons _ _=>cases J with
    |nil=>simp[cj]
    |cons _ _=>simp at hz
  show P (.done (.ret (.bool (decide (xs.size<ys.size))))) s';rw[ag];exact h
theorem AV{a b:Addr}{Q:Value->Shared->Prop}(C:A.units<cLine)(hx:rh prog w s.heap x a)(o:rh prog w s.heap y b)(h:Q (.bool (cj x y)) s):wpAny (model prog w) A (compareOp .Lt (.ref a) (.ref b)) Q E s:=
 wpAny_richCompare_same_room (op:= .Lt) hx.typeIs o.typeIs F.slot_tuple_lt (Q5 F.slot_tuple_lt hx.typeIs F.entry_tuple_lt (mV hx o ⟨_,rfl,(λ e=>nomatch e),h⟩) (F.args_tuple_lt_2 _ _)) C
end
section
variable {X:Cx} {a b:Expr} {fa fb:M D} {pos:Pos} {k:Nat}
noncomputable def Mf(K:PySem.W.Frag):R2:= λ v u H Q=>y_ (λ i j=> .bl (decide (i<j))) v u H Q\/ ∃p q ns ms,v= .ref p/\u= .ref q/\fQ K H p (ns.map V.int)/\fQ K H q (ms.map V.int)/\Q (.bl (cj ns ms)) H
theorem KO(J:X.A.units<cLine):ij X (compareOp .Lt) (Mf X.K):=by
 intro pins s G H v w u z Q I o C h;rcases h with h|⟨p,q,ns,ms,rfl,rfl,U,h2,q⟩
 .exact w9 pins s G H v w u z Q I o C h
 .cases o;cases C;exact AV J (o_ I U) (o_ I h2) ⟨.bl _,H,I,rfl,q⟩
noncomputable def CC(x y:D):Option D:=match x,y with
 | .tup xs,.tup ys=>match b_ xs,b_ ys with
  |some ns,some ms=>some (.bl (cj ns ms))
  |_,_=>none
 |_,_=>y9 x y
theorem Fq{K:PySem.W.Frag}:nc (Mf K) CC:= λ c o S G T H x y v u d Q s e k=>by
 unfold CC at e;split at e
 .split at e
  .rename_i ns ms C I;cases e;obtain⟨p,vs,rfl,g1,g2⟩:=s.st.tail.head.tup;obtain⟨q,us,rfl,g3,J⟩:=s.st.head.tup;have U:=c_ g2 C;have h2:=c_ J I;subst U h2;exact .inr ⟨p,q,ns,ms,rfl,rfl,.of (bq _ _ g1),.of (bq _ _ g3),k _ _ (s.stk (.cons .mkB s.st.tail.tail))⟩
  grind
 .exact .inl (iU (λ _ _ _=> .mkB) c o S G T H x y v u d Q s e k)
theorem de_ltU(o:cb k X.A)(C:DE X a fa)(I:DE X b fb):DE X (.Compare a [.Lt] [b] pos) (m2 CC fa fb):=iL (KO (by have:=g6 o;omega)) Fq C I
end
theorem jU (h:vs.length=ks.length):(pickT ks z vs).length=vs.length:=(pickT_perm ks z vs h).length_eq
theorem jA (r:Vals vs us):Vals (pickT ks V.non vs) (pickT ks Value.none us):= by
 unfold pickT
 split
 .exact r
 .exact mi (fun i=>ic r i) _
theorem qd (r:Rs H ds vs):Rs H (pickT ks D.non ds) (pickT ks V.non vs):= by
 unfold pickT
 split
 .exact r
 .exact zG (fun i=>xw r i) _
section
variable {X:Cx}
theorem pF:c6 X (.builtin "sorted") (λ xs H Q=>∃p vs C,xs=[.ref p]/\(iE X.K H p vs\/fQ X.K H p vs)/\OC X.K H vs C/\(∀ns∈C,ns≠[])/\C.length<64/\∀l,H l=none->Q (.ref l) (upd H l (.lst (pickT C V.non vs)))):=by
 intro pins s G H xs us Q I r h;obtain⟨p,vs,C,rfl,hq,ht,ae,ah,q⟩:=h;obtain⟨u,rfl,ru⟩:=r.one;cases ru;obtain⟨hl,aa⟩:=uU ht;have fin:∀{its:List Value},Vals vs its->(∀(A':Around)(Q':List Value->Shared->Prop)(E':Value->Shared->Prop),(∀h':Heap,(∀b o,s.heap.get? b=some o->h'.get? b=some o)->Q' its { s with heap:=h' })->wpAny (model X.prog X.w) A' (collect (.ref p)) Q' E' s)->
   wpAny (model X.prog X.w) X.A (call (.builtin "sorted") [.ref p]) (EP X pins G Q) X.xe s:= λ{its} U hc=>by
  have af:its.length=C.length:=by rw[<- U.length,hl]
  have tu:pQ X.prog X.w s.heap C its:=⟨af,λ i k e=>by
   have hi:i<vs.length:=by rw[hl];exact(wV.mp e).1
   have rr:=ic U i;rw[(aa i hi).1]at rr;have ab:i<its.length:=by omega
   refine⟨JZ (vs.getD i .non),?_,?_⟩
   .rw[kW ab];have:its.getD i Value.none=its[i]:=by simp[ab]
    rw[this]at rr;exact ZO some rr
   .have:=o_ I (aa i hi).2;grind⟩;refine vh (Ok:= λ ks ws=>ks=C/\ws=its) (λ A' Q' E' _ J=>hc A' Q' E' λ h' k=>J its C h' s.toks s.drawn ⟨rfl,rfl⟩ (by omega) (λ _=>ae) (tu.keeps λ b o e _=>k b o e) k) λ h1 h' tk d ks ws e ag hlen k k2 hg=>?_;obtain⟨rfl,rfl⟩:=ag;have I1:Inv X pins G H { s with heap:=h1,toks:=tk,drawn:=d }:=Inv.kd I k;refine⟨.ref h1.objs.size,_,I1.laid (t':=tk) (o:= .lst (pickT ks V.non vs)) k2 (wN _) ⟨?_,pickT ks Value.none ws,e,jA U,hg⟩,rfl,q _ (I1.hok.fresh (wN _))⟩;rw[jU hl,ZW];omega
 rcases hq with hq|hq
 .obtain⟨its,U,pl,hz⟩:=I.list hq;obtain⟨o,ho,hc,n,hd⟩:=pl.isList;exact fin U λ A' Q' E' J=>W6 p (.inl rfl) ho hc hd (λ h' k=>J h' k) (by rw[xS,<- U.length];exact hz)
 .obtain⟨its,U,⟨o,ho,hc,n,hd⟩,hz⟩:=I.tuple hq;exact fin U λ A' Q' E' J=>W6 p (.inr rfl) ho hc hd (λ h' k=>J h' k) (by rw[xS,<- U.length];exact hz)
end
noncomputable def gh(xs:List D):Option (List D):=match tupsD xs with
 |some o=>if o.length<64/\o.all (λ ns=> !ns.isEmpty)=true then some (pickT o D.non xs)else none
 |none=>none
section
variable {X:Cx} {e:Expr} {fq:M (List D)} {p pos:Pos}
theorem df_sortedU(hm:X.mg "sorted"=none)(h:DQ X e fq)(hg:autoParam (Gl X "sorted") aQ0._auto_1)(he:autoParam (i4 X e) aQ0._auto_1):DF X (.Call (.Name "sorted" p) [e] [] pos) (mQ gh fq):=
 cw (eT pF hg hm WI (cN h dF he) (by decide) (by decide) he rfl) λ G H Q ⟨c,Y,S,T,xs,ab,s,e,k⟩=>by
  obtain⟨ds,J,e1,e⟩:=bind_some e;obtain⟨I,rfl⟩:=aZ e;refine⟨c,Y,S,T,ds,J,s,e1,λ q vs H1 l hq s1=>?_⟩;unfold gh at I;split at I
  .rename_i C en;split at I
   .rename_i hn;cases I;have tv:=Ah (K:=X.K) (s1.st.left l) en;have U:=(uU tv).1;refine⟨q,vs,C,rfl,hq,tv,λ ns aa e0=>?_,hn.1,λ m hm=>?_⟩;. have:=ZV.mp hn.2 ns aa;rw[e0]at this;cases this
    obtain⟨f1,f2,f3⟩:=s1.fresh hm;have s2:=s1.hide (o:= .lst (pickT C V.non vs)) hm;have hd:ds.length=C.length:=by rw[<- U];exact l.symm
    exact k m _ _ (by rw[jU U,jU hd,U,hd]) (s2.stk ((qd (s2.st.left l)).append (s2.st.right l))) f1 f2 f3
   .cases I
  grind
end
end Jt.Tu
namespace Jt
open PySem PySem.Spec PyProof.Rows
noncomputable def uR (h:Heap) (d:Addr) (es:Array DictEntry):Prop:=∃o,h.get? d=some o/\o.cls=.type "dict" /\ o.data=.dict es es.size
section
variable {prog:Program} {w:World} {A:Around} {E:Value->Shared->Prop} {s:Shared} {d:Addr} {es:Array DictEntry}
theorem uR.at {h h':Heap} (x:uR h d es) (k:∀o,h.get? d=some o->h'.get? d=some o):uR h' d es:=let ⟨o,h1,h2⟩:=x;⟨o,k o h1,h2⟩
theorem yh (hh:A.handled=none) (I:Addr) (hne:d ≠ I) (es:Array DictEntry) :
  Walks prog w A I [I,d] [I] es.size (fun i v=>∃e,es[i]? = some e/\v=e.key) (fun i h=>h.IsKeyIter I d i es.size es.size/\uR h d es) where
 sub:=fun b hb=>by simp at hb;simp [hb]
 frame:=fun _ _ _ st hk=>⟨st.1.at fun o e=>hk I (by simp) o e,st.2.at fun o e=>hk d (by simp) o e⟩
 item:=fun i s Q E hi st hQ=>by
  obtain ⟨st,o,h1,h2,h3⟩:=st
  refine next_raw st h1 h3 hi fun h' it' sb=>?_
  exact hQ _ h' s.toks ⟨_,ZS hi,rfl⟩ ⟨it',o,(sb.2 d hne).trans h1,h2,h3⟩ fun b o hb e=>(sb.2 b (fun z=>hb (by simp [z]))).trans e
 done:=fun s Q E st hQ=>by
  obtain ⟨st,o,h1,h2,h3⟩:=st
  exact end_raw hh st h1 h3 (wN _) fun h' eb=>hQ h' s.toks fun b o hb e=>eb b o (fun z=>hb (by simp [z])) e
 self:=fun _ _ _ _ st hQ=>wpAny_pyIter_keyiter st.1 hQ
theorem EZ (lo:(d == sysModules)=false) (es:Array DictEntry):PySem.W.KdlSrc prog w "dict" d d es.size (fun i v=>∃e,es[i]? = some e/\v=e.key) (fun h=>uR h d es) where
 type:=fun s ⟨o,h1,h2,_⟩=>⟨o,h1,h2⟩
 there:=fun h ⟨o,h1,_⟩=>⟨wR h1,wR h1⟩
 keep:=fun h h' x hk=>x.at (hk d (.inl rfl))
 notList:=by decide
 notTuple:=by decide
 hint:=fun _ _ _ _ ⟨o,h1,h2,_⟩ hq=>PySem.W.kdl_hint_dict ⟨o,h1,h2⟩ hq
 iter:=fun A s hh x=>⟨_,fun i h=>h.IsKeyIter s.heap.objs.size d i es.size es.size/\uR h d es,fun E Q hq=>by
   obtain ⟨o,h1,h2,h3⟩:=x
   exact iter_raw lo h1 ⟨o,h1,h2⟩ h3 hq,
  yh hh _ (by obtain ⟨o,h1,_⟩:=x;exact fR (wR h1)) es,⟨⟨_,wF _ rfl,rfl,rfl⟩,x.at fun o e=>zS _ e⟩⟩
theorem FT {acc:Array Value} (h:ItemsOf (fun i v=>∃e,es[i]? = some e/\v=e.key) acc es.size):acc.toList=es.toList.map (·.key):= by
 refine YZ fun i=>?_
 rw [QS,QW,QW]
 by_cases hi:i < acc.size
 .obtain ⟨e,h1,h2⟩:=h.2 i _ (ZS hi)
  rw [ZS hi,h1,h2];rfl
 .rw [YR (by omega),YR (by have:=h.1;omega)];rfl
theorem rH {Q:List Value->Shared->Prop} (hh:A.handled=none) (lo:(d == sysModules)=false) (x:uR s.heap d es) (hn:es.size ≤ sizeLine)
  (h:∀(h':Heap) (tk:Nat),(∀b o,s.heap.get? b=some o->h'.get? b=some o)->s.heap.objs.size ≤ h'.objs.size->Q (es.toList.map (·.key)) { s with heap:=h',toks:=tk }) :
  wpAny (model prog w) A (collect (.ref d)) Q E s:= by
 have hd:d < s.heap.objs.size:=by obtain ⟨o,h1,_⟩:=x;exact wR h1
 unfold collect
 refine zN (wpAny_runValue (Z9 W9 ?_))
 rw [VT F.plain_proto_collect _]
 show wpAny (model prog w) A.in1 (newList [] >>= fun l=>again (.builtin "list.__iadd__" ⟨[l,.ref d],[]⟩)) _ _ s
 refine zN (QZ (kT ⟨WD Y0 _,Z9 F.entry_list_iadd ?_⟩))
 rw [VT Y0 _]
 have g1:(s.heap.push { cls:=.type "list",data:=.seq ([]:List Value).toArray }).get? s.heap.objs.size=some { cls:=.type "list",data:=.seq ([]:List Value).toArray }:=wF _ rfl
 show wpAny (model prog w) A.in1 (Builtin.List.listExtendWith (.ref s.heap.objs.size) (.ref d) (.ref s.heap.objs.size)) _ _ _
 have key:=PySem.W.kdl_extend (A:=A) (R:=fun r s'=>r=.ok (.ret (.ref s.heap.objs.size))/\∃h' tk acc c,s' = { s with heap:=h',toks:=tk }/\(∀b o,s.heap.get? b=some o->h'.get? b=some o)/\h'.get? s.heap.objs.size=some { cls:=.type "list",dict:=none,data:=.seq acc c,slots:=#[] }/\acc.toList=es.toList.map (·.key))
  (s:={ s with heap:=s.heap.push { cls:=.type "list",data:=.seq ([]:List Value).toArray } }) (EZ (prog:=prog) (w:=w) lo es) hh (x.at fun o e=>zS _ e) _ (VI hd) (VI hd) (.ref s.heap.objs.size) _ g1
  (fun h' tk acc c k hS hacc=>⟨rfl,h',tk,acc,c,rfl,fun b o e=>k b o (fR (wR e)) (zS _ e),hS,FT hacc⟩) hn
 have fin:∀s',(∃h' tk acc c,s' = { s with heap:=h',toks:=tk }/\(∀b o,s.heap.get? b=some o->h'.get? b=some o)/\h'.get? s.heap.objs.size=some { cls:=.type "list",dict:=none,data:=.seq acc c,slots:=#[] }/\acc.toList=es.toList.map (·.key)) ->
   wpAny (model prog w) A (load s.heap.objs.size >>= fun o=>match o.data with | .seq xs _=>pure xs.toList | _=>unsupported "internal:collect") Q E s':=fun s' ⟨h',tk,acc,c,e,k,g,ea⟩=>by
  subst e
  refine zN (wpAny_load (s:={ s with heap:=h',toks:=tk }) g (kT ?_))
  rw [ea]
  exact h h' tk k (WW (wR g))
 refine gO key (fun f s' hf=>?_) fun e s' he=>?_
 .cases f with
  | done f=>
   obtain ⟨e,hq⟩:=hf
   cases e
   exact fin s' hq
  | again c'=>exact ⟨hf.1,VS hf.2 fun r s'' ⟨e,hq⟩=>by subst e;exact fin s'' hq⟩
 .cases he.1
end
end Jt
namespace L2
open PySem PySem.Spec PyProof.Rows
noncomputable def lam (X:Cx) (N':List Str) (px:Str) (scope:Scope) (qual:Str) (q:Addr) (cdv:Value) (A:Around) (s:Shared) (H:Hp):Cx where
 prog:=X.prog
 w:=X.w
 K:=X.K
 mg:=X.mg
 base:=X.base
 A:=A.deeper (PySem.W.envX qual scope s.heap.objs.size q cdv (c7 X.env.cells scope.names []))
 N:=N' ++ [px]
 s₀:=s
 H₀:=H
 env:=PySem.W.envX qual scope s.heap.objs.size q cdv (c7 X.env.cells scope.names [])
 outer:=X.stack
 stack:=PySem.W.envX qual scope s.heap.objs.size q cdv (c7 X.env.cells scope.names []) :: X.stack
 ex:=[]
 fn:=fun x=>[px].contains x
 calm:=X.calm
 pn:=[]
 xe:=fun _ _=>False
section
variable {X:Cx} {pins:List (Addr × Obj)} {G:St} {H:Hp} {s:Shared} {N':List Str} {px:Str} {scope:Scope} {qual:Str} {q:Addr} {cdv:Value} {A:Around}
theorem yf (I:Inv X pins G H s):∀x c,(c7 X.env.cells scope.names []).lookup x=some c->X.env.cells.lookup x=some c/\(x,NameKind.free) ∈ scope.names/\c < s.heap.objs.size:= by
 intro x c h
 rcases gH (mem_of_lookup h) with z | ⟨z1,z2⟩
 .exact nomatch z
 .obtain ⟨v,k⟩:=I.cell x c z1
  exact ⟨z1,z2,k.lt⟩
theorem Inv.lam {h₁:Heap} {tk:Nat} {v:V} {u:Value} (I:Inv X pins G H s) (hA:A.frames=X.A.frames) (hh:A.handled=none) (hk:scope.kind=.function) (S:jW N' [px] X.env.scope scope) (Mk:o4 X.N N' scope) (hpx:scope.names.lookup px=some .local) (hnc:∀x ∈ scope.names,x.2 ≠ .cell)
  (hns:h₁.Ns s.heap.objs.size fun y=>[(px,u)].reverse.lookup y) (keep:∀b o,s.heap.get? b=some o->h₁.get? b=some o) (r:RelV v u) :
  Inv (L2.lam X N' px scope qual q cdv A s H) [] (G ++ [some v]) H { s with heap:=h₁,toks:=tk }:= by
 have hc:=@yf X pins G H s scope I
 have hasC:∀x,(scope.names.lookup x=some .cell ∨ scope.names.lookup x=some .free)->∃c,(c7 X.env.cells scope.names []).lookup x=some c:=fun x hx=>by
  rcases hx with hx | hx
  .exact absurd rfl (hnc _ (mem_of_lookup hx))
  .have hm:=mem_of_lookup hx
   obtain ⟨c,e⟩:=I.ok.has x (S.free x hm)
   exact YF.mp (fJ (.inl ⟨hm,by rw [e];rfl⟩))
 refine ⟨⟨I.ok.mod,hk,rfl,rfl,wN _,fun x y c h1 h2=>I.ok.inj x y c (hc x c h1).1 (hc y c h2).1,fun x hx=>hasC x hx,fun x c hx h=>?_,fun _=>hh,Around.frames_deeper (hA.trans I.ok.frames),.inr ⟨rfl,rfl⟩,fun b hb=>absurd (show b ∈ ([]:List Addr) from hb) (by simp),fun b o e=>I.bs b o e,Q3 I.ok.bsz I.sz,fun b o e hb=>absurd (show b ∈ ([]:List Addr) from hb) (by simp),fun b hb=>absurd (show b ∈ ([]:List Addr) from hb) (by simp),I.stack,I.stkFree,I.tb⟩,
  rfl,I.bare,Un.kept keep,⟨_,hns,fun i x v' h1 h2 h3=>?_⟩,fun x c h=>?_,I.hok.fresh (wN _),fun x c h=>I.freeC x c (hc x c h).1,fun p hp=>absurd (show p ∈ ([]:List (Addr × Obj)) from hp) (by simp),I.hok.kept keep,?_⟩
 .have hx':[px].contains x=true:=hx
  exact absurd (hc x c h).2.1 (S.own x (by simpa using hx'))
 .by_cases hi:i < G.length
  .rw [QL hi] at h2
   have hN':N'[i]? = some x:= by
    have:(N' ++ [px])[i]? = some x:=h1
    rwa [QL (by rw [Mk.len,<- I.len];exact hi)] at this
   have hmem:x ∈ N':=Y5 hN'
   have hfree:scope.names.lookup x=some .free:= by
    rcases h3 with h3 | h3 | h3
    .exact absurd hmem (S.out x _ (mem_of_lookup h3) (.inl rfl))
    .exact absurd hmem (S.out x _ (mem_of_lookup h3) (.inr rfl))
    .exact h3
   have hN:X.N[i]? = some x:= by
    rcases Mk.same i x hN' with z | z
    .exact z
    .rw [hfree] at z;cases z
   have hkX:=S.free x (mem_of_lookup hfree)
   obtain ⟨m,hn,hl⟩:=I.loc
   obtain ⟨u',r',l⟩:=hl i x v' hN h2 (.inr hkX)
   refine ⟨u',r',.inr ⟨.inr hfree,?_⟩⟩
   rcases l with ⟨k,_⟩ | ⟨_,c,hcc,hcell⟩
   .have k':X.env.scope.names.lookup x=some .local:=k
    rw [k'] at hkX
    rcases hkX with z | z <;> cases z
   .obtain ⟨c2,hc2⟩:=hasC x (.inr hfree)
    refine ⟨c2,hc2,?_⟩
    have:=(hc x c2 hc2).1
    rw [hcc] at this;cases this
    exact hcell.keeps keep
  .rw [ZA (by omega)] at h2
   have hi0:i=G.length:= by
    cases e:i - G.length with
    | zero=>omega
    | succ n=>rw [e] at h2;simp at h2
   subst hi0
   rw [Nat.sub_self] at h2
   have h2':some v=some v':=by simpa using h2
   cases h2'
   have hx:x=px:= by
    have:(N' ++ [px])[G.length]? = some x:=h1
    rw [ZA (by rw [Mk.len,<- I.len];exact wN _),Mk.len,<- I.len,Nat.sub_self] at this
    simpa using this.symm
   subst hx
   exact ⟨u,r,.inl ⟨hpx,by simp⟩⟩
 .obtain ⟨v',k⟩:=I.cell x c (hc x c h).1
  exact ⟨v',k.keeps keep⟩
 .show (G ++ [some v]).length=(N' ++ [px]).length
  rw [gE,gE,I.len,Mk.len];rfl
theorem zu {nm:Str} {params:Arguments} {body:Expr} {pm ctv:Value} {c':Addr} {v:V} {u:Value} {te:TE} {Q:VK} (I:Inv X pins G H s) (hA:A.frames=X.A.frames) (hh:A.handled=none) (hroom:A.depth < recursionLimit)
  (hk:scope.kind=.function) (hco:scope.isCoroutine=false) (hgen:scope.isGenerator=false) (S:jW N' [px] X.env.scope scope) (Mk:o4 X.N N' scope) (hpx:scope.names.lookup px=some .local) (hnc:∀x ∈ scope.names,x.2 ≠ .cell)
  (hq:s.heap.get? q=some (PySem.W.kla_obj nm qual params body scope (c7 X.env.cells scope.names []) pm c' ctv)) (hcd:s.heap.CodeRec (.ref c') qual)
  (hbind:bindArgs (PySem.W.kla_fn nm qual params body scope (c7 X.env.cells scope.names []) pm (.ref c') ctv) ⟨[u],[]⟩=pure [(px,u)]) (r:RelV v u)
  (he:PE (L2.lam X N' px scope qual q (.ref c') A s H) body te) (h:te (G ++ [some v]) H Q) :
  codeAny (model X.prog X.w) A (.call (.ref q) ⟨[u],[]⟩) (fun r s'=>∃u',r=.ok (.ret u')/\EP X pins G (fun y H'=>Q y H' /\ ∀b o u,H b=some (.frz o u)->H' b=some (.frz o u)) u' s') s:= by
 refine PySem.W.kla_callFunE hroom hq rfl hco hgen rfl hcd ?_
 rw [hbind]
 refine kT (wpAny_newFunctionEnv hnc (fun y hy=>?_) (fun h₁ hns hsb=>⟨I.nolimit.fresh _ hsb,?_⟩) hk)
 .rw [jP.mp hy];exact hpx
 .have keep:∀b o,s.heap.get? b=some o->h₁.get? b=some o:=fun b o e=>hsb.extBut b o (fR (wR e)) (zS _ e)
  have J:=I.lam (tk:=s.toks + 1) (qual:=qual) (q:=q) (cdv:=.ref c') hA hh hk S Mk hpx hnc hns keep r
  show codeAny _ _ (.expr body (L2.lam X N' px scope qual q (.ref c') A s H).env) _ _
  refine PySem.W.kla_codeExpr (gO (he [] _ _ H Q J h) (fun v' s' z=>?_) fun _ _ z=>False.elim z)
  obtain ⟨x,H',J',rx,qx⟩:=z
  exact ⟨v',rfl,x,H',I.call' (ch:=[]) J'.os J'.base J'.hok J'.bare (fun b hb=>absurd hb (by simp)),rx,qx,J'.base.frzs⟩
end
theorem oX {p:Pos} {c:Value} {l:List Value} (h:TriplesOk l):TriplesOk (l ++ (#[rawInt p.line,rawInt p.col,c]:Array Value).toList):= by
 fun_induction TriplesOk l with
 | case1=>exact trivial
 | case2 a t b u x rest ih=>exact ih h
 | case3=>exact h.elim
theorem u_ {p q:Pos} {c cv:Value} {l:List Value} (h:TriplesOk l) (e:codeAmong q (l ++ (#[rawInt p.line,rawInt p.col,c]:Array Value).toList)=some cv):codeAmong q l=some cv ∨ cv=c:= by
 fun_induction TriplesOk l with
 | case1=>
  right
  simp only [List.nil_append,rawInt,codeAmong] at e
  split at e
  .exact (Q9 e).symm
  .cases e
 | case2 a t b u x rest ih=>
  simp only [List.cons_append,codeAmong] at e ⊢
  split at e
  .rename_i hc;rw [gA hc];exact .inl e
  .rename_i hc;rw [gL hc];exact ih h e
 | case3=>exact h.elim
structure LamK (K:PySem.W.Frag) (mg:Str->Option Value) (c P:Addr):Prop where
 tab:PySem.W.tabIn K dv=some (c,P)
 hd:∀h,K.In h->PySem.W.CodeHd h c P
 blt:∀h,K.In h->h.BuiltinsAt mg P
 main:mainGlobals ≠ P
structure Made (X:Cx) (pins:List (Addr × Obj)) (G:St) (H:Hp) (s:Shared) (params:Arguments) (body:Expr) (scope:Scope) (q:Addr) (H':Hp) (s':Shared) (c':Addr) (pm ctv:Value):Prop where
 inv:Inv X pins G H' s'
 same:∀b o,H b=some o->H' b=some o
 obj:s'.heap.get? q=some (PySem.W.kla_obj "<lambda>" bR params body scope (c7 X.env.cells scope.names []) pm c' ctv)
 free:H' q=none
 new:s.heap.objs.size ≤ q
 cod:∃oc u vs t,H' c' = some (.frz oc u)/\oc.data=.fields vs/\vs[1]? = some (.str bR t)
 keep:∀b o,H b=none->s.heap.get? b=some o->s'.heap.get? b=some o
theorem CQ {X:Cx} {pins:List (Addr × Obj)} {G:St} {H:Hp} {s:Shared} {N':List Str} {px:Str} {scope:Scope} {params:Arguments} {body:Expr} {pos:Pos} {c P:Addr} {E:Value->Shared->Prop} {Q:Value->Shared->Prop} (I:Inv X pins G H s) (L:LamK X.K X.mg c P) (hcode:X.env.code=.ref c) (hqual:X.env.qual ++ "<lambda>" = bR)
  (S:jW N' [px] X.env.scope scope) (hdef:defaultsOf params X.env=([],[]))
  (h:∀q H' s' c' pm ctv,Made X pins G H s params body scope q H' s' c' pm ctv->Q (.ref q) s') :
  wpAny (model X.prog X.w) X.A (eval (.Lambda params body scope pos) X.env) Q E s:= by
 refine PySem.W.kla_eval hdef ?_
 rw [hqual]
 obtain ⟨qs,t0,hP,hq0⟩:=I.tb c P L.tab
 obtain ⟨ps,hPo,htr,hcs⟩:=(show b4 X.prog X.w H s.heap P (.tbl qs) from I.hok P _ hP)
 have hcl:closureFor scope X.env=pure (c7 X.env.cells scope.names []):=dR fun n hn=>I.ok.has n (S.free n hn)
 have hglob:s.heap.Ns mainGlobals X.mg:=I.ok.mod.glob.keeps I.bk
 cases hca:codeAmong pos ps.toList with
 | some cv=>
  obtain ⟨c',oc,u,vs,t,rfl,hf,hd,hv⟩:=hcs bR t0 pos cv hq0 hca
  refine PySem.W.kla_makeFunctionHit hcl I.ok.glob hglob hcode (L.hd _ I.kIn) hPo htr hca (L.blt _ I.kIn) fun ctv h' tk hk hsz=>?_
  have hnew:∀{o:Obj},(h'.push o).get? h'.objs.size=some o ∨ o.isFreed=true:=fun {o}=>by
   cases e:o.isFreed with
   | true=>exact .inr rfl
   | false=>exact .inl (wF _ e)
  have kp:∀b o,s.heap.get? b=some o->(h'.push (PySem.W.kla_obj "<lambda>" bR params body scope (c7 X.env.cells scope.names []) ((X.mg "__name__").getD .none) c' ctv)).get? b=some o:=fun b o e=>zS _ (hk b o e)
  exact h h'.objs.size H _ c' _ ctv ⟨I.kept (t':=tk) kp,fun _ _ e=>e,wF _ rfl,I.hok.fresh hsz,hsz,⟨oc,u,vs,t,hf,hd,hv⟩,fun b o _ e=>kp b o e⟩
 | none=>
  refine PySem.W.kla_makeFunction hcl I.ok.glob hglob hcode (L.hd _ I.kIn) hPo htr hca L.main (L.blt _ I.kIn) fun c' ctv h' tk hx hge hlt hrec htb=>?_
  obtain ⟨c₂,oc,vs,t,e2,hoc,hd,hv⟩:=hrec
  cases e2
  have hc'n:H c' = none:=I.hok.fresh hge
  have hPc:P ≠ c':=fR (QK (wR hPo) hge)
  have hsz:s.heap.objs.size ≤ h'.objs.size:=Q3 hge (WW hlt)
  have kp:∀b o,b ≠ P->s.heap.get? b=some o->(h'.push (PySem.W.kla_obj "<lambda>" bR params body scope (c7 X.env.cells scope.names []) ((X.mg "__name__").getD .none) c' ctv)).get? b=some o:=fun b o hb e=>zS _ (hx b o hb e)
  have nP:∀b,H b=none->b ≠ P:=fun b e z=>by rw [z,hP] at e;cases e
  have same:∀b o,H b=some o->upd H c' (.frz oc (.own 0)) b=some o:=fun b o e=>by rw [a_ (bz e hc'n)];exact e
  have un:Un X.fs [] H (upd H c' (.frz oc (.own 0))) s.heap (h'.push (PySem.W.kla_obj "<lambda>" bR params body scope (c7 X.env.cells scope.names []) ((X.mg "__name__").getD .none) c' ctv)) :=
   ⟨fun b o e n _ _=>kp b o (nP b n) e,fun b o e n _ _=>⟨o.slots,kp b o (nP b n) e⟩,fun b o e n _=>by rw [a_ (fR (QK (wR e) hge))];exact n,
    fun b o e _=>by
     by_cases hb:b=P
     .subst hb;exact ⟨_,zS _ htb⟩
     .exact ⟨o,kp b o hb e⟩,
    fun b xs e=>same b _ e,fun b o u e=>same b _ e,fun b qs e=>⟨#[],by rw [same b _ e];simp⟩⟩
  have hok:iC X.prog X.w (upd H c' (.frz oc (.own 0))) (h'.push (PySem.W.kla_obj "<lambda>" bR params body scope (c7 X.env.cells scope.names []) ((X.mg "__name__").getD .none) c' ctv)):=fun b o e=>by
   by_cases hb:b=c'
   .subst hb
    rw [bf] at e;cases e
    exact ⟨zS _ hoc,oc,zS _ hoc⟩
   .rw [a_ hb] at e
    by_cases hbP:b=P
    .subst hbP
     rw [hP] at e;cases e
     refine ⟨ps ++ #[rawInt pos.line,rawInt pos.col,.ref c'],zS _ htb,?_,fun q1 t1 pos1 cv h1 h2=>?_⟩
     .rw [Array.toList_append];exact oX htr
     .rw [Array.toList_append] at h2
      rcases u_ htr h2 with h2 | h2
      .obtain ⟨c1,oc1,u1,vs1,t1',z1,z2,z3,z4⟩:=hcs q1 t1 pos1 cv h1 h2
       exact ⟨c1,oc1,u1,vs1,t1',z1,same _ _ z2,z3,z4⟩
      .rw [hq0] at h1;cases h1
       exact ⟨c',oc,.own 0,vs,t,h2,bf,hd,hv⟩
    .refine (I.hok b o e).stay (fun d v hdb q=>kp d v ?_ q) (fun d q=>same _ _ q) (fun d xs q=>same _ _ q) fun d ob u q=>same _ _ q
     rcases hdb with z | z
     .rw [z];exact hbP
     .intro z2;rw [z2,hP] at z;cases z
  have I':Inv X pins G (upd H c' (.frz oc (.own 0))) { s with heap:=h'.push (PySem.W.kla_obj "<lambda>" bR params body scope (c7 X.env.cells scope.names []) ((X.mg "__name__").getD .none) c' ctv),toks:=tk }:=I.un un hok
  refine h h'.objs.size _ _ c' _ ctv ⟨I',same,wF _ rfl,?_,hsz,⟨oc,.own 0,vs,t,bf,hd,hv⟩,fun b o n e=>kp b o (nP b n) e⟩
  rw [a_ (VI hlt)]
  exact I.hok.fresh hsz
end L2
namespace L2
open PySem PySem.Spec PyProof.Rows Jt
section
variable {X:Cx} {pins:List (Addr × Obj)} {G:St} {H:Hp} {s:Shared} {h':Heap}
theorem Inv.adopt {t':Nat} {l:Addr} {o:HO} (I:Inv X pins G H s) (hf:dj X pins H l) (k:∀b ob,b ≠ l->s.heap.get? b=some ob->h'.get? b=some ob) (new:b4 X.prog X.w (upd H l o) h' l o) :
  Inv X pins G (upd H l o) { s with heap:=h',toks:=t' }:= by
 have hn:H l=none:=hf.1
 have nit:∀b u,H b=some u->b ≠ l:=fun b u e z=>by rw [z,hn] at e;cases e
 refine I.step (g':=s.gens) (d':=s.drawn) (ch:=[l]) (fun b hb=>?_) (fun b o _ _ hc e _=>k b o (fun z=>hc (by simp [z])) e) (fun b o _ _ hc e _=>⟨o.slots,k b o (fun z=>hc (by simp [z])) e⟩) (fun b o hc e n=>?_)
  (fun b o hc e=>⟨o,k b o (fun z=>hc (by simp [z])) e⟩) (fun b xs e=>by rw [a_ (bz e hn)];exact e) (fun b o u e=>by rw [a_ (bz e hn)];exact e) (fun b ps e=>⟨#[],by rw [a_ (bz e hn),e];simp⟩) (fun m hm=>?_) (fun b u e=>?_) I.bare
 .have e:b=l:=by simpa using hb
  subst e
  obtain ⟨_,f1,_,f3,f4,f5⟩:=hf
  exact ⟨f3,f1,f4,f5⟩
 .rw [a_ fun z=>hc (by simp [z])];exact n
 .obtain ⟨o',es,ep,ho,r⟩:=hm
  exact ⟨o',es,ep,k _ o' (fun z=>hf.2.1 z.symm) ho,r⟩
 .by_cases hb:b=l
  .subst hb;rw [bf] at e;cases e;exact new
  .rw [a_ hb] at e
   refine (I.hok b u e).stay (fun c v hc q=>k c v ?_ q) (fun c q=>by rw [a_ (bz q hn)];exact q) (fun c xs q=>by rw [a_ (bz q hn)];exact q) fun c ob v q=>by rw [a_ (bz q hn)];exact q
   rcases hc with z | z
   .rw [z];exact nit b u e
   .exact nit c _ z
theorem Inv.pin1 {b:Addr} {o:Obj} (I:Inv X pins G H s) (hf:dj X pins H b) (e:s.heap.get? b=some o) (hd:∀v,o.data ≠ .cell v):Inv X (pins ++ [(b,o)]) G H s:=I.pins_of fun p hp=>by
 rcases fD.mp hp with z | z
 .exact I.pin p (xZ _ z)
 .rw [jP.mp z]
  exact ⟨e,hf.1,hf.2.1,hf.2.2.1,hd⟩
theorem Inv.unpin {pl:List (Addr × Obj)} (I:Inv X (pins ++ pl) G H s):Inv X pins G H s:=I.pins_of fun p hp=>I.pin p (xZ _ (ZL _ hp))
theorem Inv.got {b:Addr} {o:Obj} (I:Inv X pins G H s) (hm:(b,o) ∈ pins):s.heap.get? b=some o/\H b=none/\b ≠ X.env.locals/\b ∉ X.fs:= by
 obtain ⟨h1,h2,h3,h4,_⟩:=I.pin (b,o) (xZ _ hm)
 exact ⟨h1,h2,h3,h4⟩
end
noncomputable abbrev fB (xs:Array Value) (e:Nat):Obj:=seqObj "list" xs e
theorem tX (xs:Array Value) (e:Nat):∀v,(fB xs e).data ≠ .cell v:=fun v h=>by cases h
theorem G6 {X:Cx} {pins:List (Addr × Obj)} {σ:St} {A:Around} {E:Value->Shared->Prop} {P:PySem.Fin->Shared->Prop} {q l:Addr} {vs:List Value} {ks:List Int} {n0:Nat} {s:Shared} {H:Hp} (W:Nat->Hp->Prop)
  (I:Inv X pins σ H s) (hl:s.heap.get? l=some (fB vs.toArray n0)) (hfl:dj X pins H l) (hlen:ks.length=vs.length) (h64:vs.length < 64) (w0:W 0 H)
  (turn:∀(i:Nat) (x:Value) (k:Int),vs[i]? = some x->ks[i]? = some k->∀(H':Hp) (s':Shared) (pl:List (Addr × Obj)),Inv X (pins ++ pl) σ H' s' -> W i H' ->
   codeAny (model X.prog X.w) A (.call (.ref q) ⟨[x],[]⟩) (fun r s''=>∃u,r=.ok (.ret u)/\EP X (pins ++ pl) σ (fun y H''=>y=.int k/\W (i + 1) H'') u s'') s')
  (h:∀(H':Hp) (s':Shared) (e:Nat),Inv X pins σ H' s' -> dj X pins H' l->s'.heap.get? l=some (fB (Jt.So.pickI ks Value.none vs).toArray e)->W vs.length H' -> P (.done (.ret .none)) s') :
  wpAny (model X.prog X.w) A (ksk_tree l (.ref q) false) P E s:= by
 have hll:=wR hl
 have sizeV:vs.toArray.size ≤ sizeLine:=by rw [xS,ZW];omega
 unfold ksk_tree
 refine zN (listItems_at hl rfl ?_)
 refine zN (YV hl rfl ?_ sizeV (ZG _))
 obtain ⟨e1,o1⟩:∃e1,(s.heap.update l (Obj.mapSeq fun _=>(#[]:Array Value))).get? l=some (fB #[] e1):=⟨_,get?_update_seq hl fun _=>#[]⟩
 have sb1:=Q4 s.heap l (Obj.mapSeq fun _=>(#[]:Array Value))
 have I1:Inv X pins σ H { s with heap:=s.heap.update l (Obj.mapSeq fun _=>(#[]:Array Value)),toks:=s.toks }:=I.turned (it:=l) (fun b o hb e=>(sb1.2 b hb).trans e) hfl.1 hfl.2.1 hfl.2.2.2.1 hfl.2.2.2.2.1 hfl.2.2.2.2.2
 refine zN (seqEpoch_at o1 rfl ?_)
 refine zN (WY ?_ (by show vs.length ≤ _;rw [ZW];omega))
 refine zN (XE ?_ (ZG _))
 refine Q1 ?_
 generalize hs2:({ s with heap:=((s.heap.update l (Obj.mapSeq fun _=>(#[]:Array Value))).push (seqObj "tuple" vs.toArray 0)).push (seqObj "list" #[] 0) }:Shared)=s2
 have I2:Inv X pins σ H s2:= by
  rw [<- hs2]
  exact I1.kept (t':=s.toks) fun b o e=>zS _ (zS _ e)
 have ol2:s2.heap.get? l=some (fB #[] e1):= by
  rw [<- hs2]
  exact zS _ (zS _ o1)
 generalize hkS:((s.heap.update l (Obj.mapSeq fun _=>(#[]:Array Value))).push (seqObj "tuple" vs.toArray 0)).objs.size=kS
 have hkl:l < kS:=by rw [<- hkS,QO,XD];exact VH hll
 have ok2:s2.heap.get? kS=some (fB #[] 0):= by
  rw [<- hs2,<- hkS]
  exact wF _ rfl
 have hsz1:s.heap.objs.size ≤ kS:=by rw [<- hkS,QO,XD];omega
 have fpk:∀{H':Hp},H' kS=none->dj X pins H' kS:=fun e=>I.fpOk hsz1 e
 have hkn:H kS=none:=I.hok.fresh hsz1
 have I3:Inv X (pins ++ [(l,fB #[] e1)]) σ H s2:=I2.pin1 hfl ol2 (tX _ _)
 have fpk3:∀{H':Hp},H' kS=none->dj X (pins ++ [(l,fB #[] e1)]) H' kS:=fun e=>by
  obtain ⟨a1,a2,a3,a4,a5,a6⟩:=fpk e
  refine ⟨a1,a2,a3,a4,a5,fun p hp=>?_⟩
  rcases fD.mp hp with z | z
  .exact a6 p (ZL _ z)
  .rcases fD.mp z with z | z
   .exact a6 p (xZ _ z)
   .rw [jP.mp z];exact fR hkl
 unfold ksk_rest
 refine zN (V5 ?_)
 rw [List.forIn_toArray]
 refine zN (ksk_fold (fun i s'=>∃H' kA e,Inv X ((pins ++ [(l,fB #[] e1)]) ++ [(kS,fB kA e)]) σ H' s' /\ IntsAre kA.toList (ks.take i)/\W i H') vs 0 s2
  ⟨H,#[],0,I3.pin1 (fpk3 hkn) ok2 (tX _ _),by simpa using IntsAre.nil,w0⟩ ?step ?done)
 case step=>
  rintro j x s' hx ⟨H',kA,e,J,hk,wj⟩
  simp only [Nat.zero_add] at hk wj ⊢
  have hj:j < vs.length:=(wV.mp hx).1
  obtain ⟨k,hkj⟩:∃k,ks[j]? = some k:=⟨_,kW (by omega)⟩
  have hz:kA.size ≤ vs.length:= by
   have h1:=hk.length
   rw [YI,VB] at h1
   omega
  have J':Inv X (pins ++ ([(l,fB #[] e1)] ++ [(kS,fB kA e)])) σ H' s':=by rw [<- ZY];exact J
  refine zN (YE (wpAny_call (VS (turn j x k hx hkj H' s' _ J' wj) fun r s'' hr=>?_)))
  obtain ⟨u,rfl,y,H'',J2,ry,rfl,w2⟩:=hr
  obtain ⟨t2,rfl⟩:=ry
  dsimp only
  have J3:Inv X ((pins ++ [(l,fB #[] e1)]) ++ [(kS,fB kA e)]) σ H'' s'':=by rw [ZY];exact J2
  obtain ⟨g1,g2,g3,g4⟩:=J3.got (xZ _ (jP.mpr rfl))
  have sb:=Q4 s''.heap kS (Obj.mapSeq (·.push (.int k t2)))
  obtain ⟨c2,hc2⟩:∃c2,(s''.heap.update kS (Obj.mapSeq (·.push (.int k t2)))).get? kS=some (fB (kA.push (.int k t2)) c2):=⟨_,get?_update_seq g1 (·.push (.int k t2))⟩
  refine zN (YV g1 rfl ?_ (by rw [ZW];omega) (Q3 (W4 (Array.size_push ..)) (by rw [ZW];omega)))
  have ek:ks.take (j + 1)=ks.take j ++ [k]:=by rw [List.take_add_one,hkj];simp
  have ea:(kA.push (Value.int k t2)).toList=kA.toList ++ [Value.int k t2]:=by simp
  have fp:=fpk3 g2
  have J4:Inv X (pins ++ [(l,fB #[] e1)]) σ H'' { s'' with heap:=s''.heap.update kS (Obj.mapSeq (·.push (.int k t2))),toks:=s''.toks }:=J3.unpin.turned (it:=kS) (fun b o hb e=>(sb.2 b hb).trans e) g2 g3 fp.2.2.2.1 fp.2.2.2.2.1 fp.2.2.2.2.2
  exact kT ⟨rfl,H'',kA.push (.int k t2),c2,J4.pin1 fp hc2 (tX _ _),by rw [ea,ek];exact ksk_snoc hk,w2⟩
 case done=>
  rintro s' ⟨H',kA,e,J,hk,wn⟩
  rw [Nat.zero_add] at hk wn
  rw [W8 (by omega)] at hk
  have hkz:kA.size=vs.length:= by
   have h1:=hk.length
   rw [YI] at h1
   omega
  obtain ⟨g1,g2,g3,g4⟩:=J.got (xZ _ (jP.mpr rfl))
  obtain ⟨f1,f2,f3,f4⟩:=J.got (ZL _ (xZ _ (jP.mpr rfl)))
  refine zN (listItems_at g1 rfl ?_)
  have tail:∀st:SortSt,(arrOf st).map (·.2)=(Jt.So.pickI ks Value.none vs).toArray->failedOf st=none->(Jt.So.pickI ks Value.none vs).length=vs.length ->
    wpAny (model X.prog X.w) A (ksk_tail l false e1 (.ref kS) st) P E s':=fun st hout hfl0 hpl=>by
   have sb:=Q4 s'.heap kS (Obj.mapSeq fun _=>(#[]:Array Value))
   have l1:(s'.heap.update kS (Obj.mapSeq fun _=>(#[]:Array Value))).get? l=some (fB #[] e1):=(sb.2 l (fR hkl)).trans f1
   have sb2:=Q4 (s'.heap.update kS (Obj.mapSeq fun _=>(#[]:Array Value))) l (Obj.mapSeq fun _=>(Jt.So.pickI ks Value.none vs).toArray)
   obtain ⟨c2,hc2⟩:∃c2,((s'.heap.update kS (Obj.mapSeq fun _=>(#[]:Array Value))).update l (Obj.mapSeq fun _=>(Jt.So.pickI ks Value.none vs).toArray)).get? l=some (fB (Jt.So.pickI ks Value.none vs).toArray c2):=⟨_,get?_update_seq l1 fun _=>(Jt.So.pickI ks Value.none vs).toArray⟩
   have J1:Inv X pins σ H' s':=J.unpin.unpin
   have fpl:dj X pins H' l:=⟨f2,hfl.2⟩
   have fp:=fpk g2
   unfold ksk_tail
   dsimp only
   rw [hout]
   refine zN (YV g1 rfl ?_ (by rw [hkz,ZW];omega) (ZG _))
   refine zN (wpAny_letGo ?_)
   refine zN (seqEpoch_at l1 rfl ?_)
   refine zN (YV l1 rfl ?_ (ZG _) ?_)
   .rw [hfl0]
    simp only [bne_self_eq_false,ZE,YO]
    have J2:Inv X pins σ H' { s' with heap:=s'.heap.update kS (Obj.mapSeq fun _=>(#[]:Array Value)),toks:=s'.toks }:=J1.turned (it:=kS) (fun b o hb e=>(sb.2 b hb).trans e) g2 g3 fp.2.2.2.1 fp.2.2.2.2.1 fp.2.2.2.2.2
    have J3:Inv X pins σ H' { s' with heap:=(s'.heap.update kS (Obj.mapSeq fun _=>(#[]:Array Value))).update l (Obj.mapSeq fun _=>(Jt.So.pickI ks Value.none vs).toArray),toks:=s'.toks }:=Inv.turned (s:={ s' with heap:=s'.heap.update kS (Obj.mapSeq fun _=>(#[]:Array Value)),toks:=s'.toks }) (it:=l) J2 (fun b o hb e=>(sb2.2 b hb).trans e) f2 f3 hfl.2.2.2.1 hfl.2.2.2.2.1 hfl.2.2.2.2.2
    exact kT (h H' _ c2 J3 fpl hc2 wn)
   .simp only [ZE,YO,xS]
    rw [hpl,ZW];omega
  unfold ksk_end
  simp only [ZE,YO]
  by_cases h2:vs.toArray.size < 2
  .rw [gA h2,gA h2]
   rw [xS] at h2
   refine zN (kT ?_)
   rw [StateT.run_pure]
   refine zN (kT ?_)
   dsimp only
   have ep:Jt.So.pickI ks Value.none vs=vs:=by unfold Jt.So.pickI;rw [gA (by omega)]
   refine tail _ ?_ rfl (by rw [ep])
   rw [ep]
   show ((kA.zip vs.toArray).map (·.2))=vs.toArray
   apply Array.toList_inj.mp
   rw [Array.toList_map,ksk_zip,List.map_snd_zip (by simp [hkz])]
  .rw [gL h2,gL h2]
   rw [xS] at h2
   rw [ksk_kind hk (by rw [hkz];omega)]
   refine zN (kT ?_)
   have hzl:kA.toList.length=vs.length:=by rw [YI,hkz]
   have ew:SortSt.mk' oneType' (kA.zip vs.toArray) #[] 7 none=SortSt.mk' oneType' (kA.toList.toArray.zip vs.toArray) #[] 7 none:=by rw [Array.toArray_toList]
   rw [ew]
   refine zN (gO (PySem.W.kat_run (E:=E) (ks:=kA.toList) (vs:=vs) (κ:=oneType') (Q:=fun st s''=>(arrOf st).map (·.2)=(Jt.So.pickI ks Value.none vs).toArray/\failedOf st=none/\s'' = s')
    (G:=fun p s''=>p=Jt.So.ordI ks/\s'' = s') hzl (by omega) h64 (fun p st s'' hp ha hf hg=>⟨?_,hf,hg.2⟩) ?_) ?_ fun _ _ x=>x)
   .rw [PySem.W.kat_snds hzl ha,hg.1]
    unfold Jt.So.pickI
    rw [gL (by omega)]
   .have ws:=Jt.So.w_sort (Jt.So.gI_ord ks) (n:=vs.length) (by omega)
    refine Jt.So.WpT.kas (g:=Jt.So.gI ks) (n:=vs.length) (fun i j C hi hj hC=>?_) ws ⟨by unfold Jt.So.ordI;rw [hlen],rfl⟩
    unfold PySem.W.kas_ask
    obtain ⟨t1,e1'⟩:=hk.get i (ks[i]'(by omega)) (kW _)
    obtain ⟨t2,e2'⟩:=hk.get j (ks[j]'(by omega)) (kW _)
    have d1:kA.toList.getD i Value.none=.int (ks[i]'(by omega)) t1:=by rw [QP,e1'];rfl
    have d2:kA.toList.getD j Value.none=.int (ks[j]'(by omega)) t2:=by rw [QP,e2'];rfl
    rw [d1,d2]
    refine PySem.W.kat_lt_int ?_
    have:Jt.So.gI ks i j=decide (ks[i]'(by omega) < ks[j]'(by omega)):= by
     unfold Jt.So.gI
     rw [QP,QP,kW (by omega),kW (by omega)];rfl
    rw [<- this];exact hC
   .rintro ⟨u,st⟩ s'' ⟨hout,hf,rfl⟩
    dsimp only
    exact tail st hout hf (by
     have:=Jt.So.pickI_perm ks Value.none vs hlen.symm
     exact this.length_eq)
theorem xQ {H:Hp} {es:Array DictEntry} {kvs:List (List Key × V)} (sz:es.size=kvs.length) (h:∀(i:Nat) (p:List Key × V),kvs[i]? = some p->∃(hlt:i < es.size) (b:Addr),es[i].key=.ref b/\H b=some (.tup (p.1.map kV))) :
  ∃bs:List Addr,bs.length=kvs.length/\es.toList.map (·.key)=bs.map Value.ref/\∀(i:Nat) (p:List Key × V),kvs[i]? = some p->∃b,bs[i]? = some b/\H b=some (.tup (p.1.map kV)):= by
 have hk:∀i (hi:i < es.size),∃b,es[i].key=.ref b:=fun i hi=>by
  obtain ⟨_,b,e,_⟩:=h i kvs[i] (kW (by omega))
  exact ⟨b,e⟩
 have e0:es.toList.map (·.key)=(es.toList.map fun e=>match e.key with | .ref b=>b | _=>0).map Value.ref:= by
  rw [Q2]
  refine QQ fun e he=>?_
  obtain ⟨i,hi,rfl⟩:=ZF he
  obtain ⟨b,eb⟩:=hk i (by simpa using hi)
  have eb':es.toList[i].key=.ref b:=by simpa using eb
  simp only [Function.comp,eb']
 refine ⟨_,by simp [sz],e0,fun i p hp=>?_⟩
 obtain ⟨hlt,b,eb,hb⟩:=h i p hp
 refine ⟨b,?_,hb⟩
 rw [QS,QW,ZS hlt]
 simp only [Option.map_some,eb]
noncomputable def FI (ta te:TE):TE:=fun G H Q=>ta G H fun v H1=>∃(d:Addr) (kvs:List (List Key × V)),v=.ref d/\Rd H1 d (.dT kvs)/\kvs.length < 64 /\
 ∀H2:Hp,(∀b o,H1 b=some o->H2 b=some o)->∀bs:List Addr,bs.length=kvs.length->(∀(i:Nat) (p:List Key × V),kvs[i]? = some p->∃b,bs[i]? = some b/\H2 b=some (.tup (p.1.map kV))) ->
  ∃(ks:List Int) (W:Nat->Hp->Prop),ks.length=kvs.length/\W 0 H2/\(∀(i:Nat) (k:Int) (b:Addr) (H':Hp),bs[i]? = some b->ks[i]? = some k->W i H' -> te (G ++ [some (.ref b)]) H' fun y H''=>y=.int k/\W (i + 1) H'') /\
   ∀(H':Hp) (l:Addr),W kvs.length H' -> H' l=none->Q (.ref l) (upd H' l (.lst (Jt.So.pickI ks .non (bs.map V.ref))))
theorem jA {ks:List Int} {bs:List Addr}:Vals (Jt.So.pickI ks V.non (bs.map V.ref)) (Jt.So.pickI ks Value.none (bs.map Value.ref)):= by
 have base:∀l:List Addr,Vals (l.map V.ref) (l.map Value.ref):=fun l=>by
  induction l with
  | nil=>exact .nil
  | cons b r ih=>exact .cons rfl ih
 unfold Jt.So.pickI
 split
 .exact base bs
 .exact mi (fun i=>ic (base bs) i) _
section
variable {X:Cx} {a body:Expr} {params:Arguments} {scope:Scope} {lp kp p pos:Pos} {ta te:TE} {c P:Addr} {N':List Str} {px:Str} {k:Nat}
theorem rQ (hr:cb k X.A) (L:LamK X.K X.mg c P) (hcode:X.env.code=.ref c) (hm:X.mg "sorted" = none) (ha:PE X a ta)
  (he:∀q c' A s H,(lam X N' px scope bR q (.ref c') A s H).A.units + 100 < cLine->PE (lam X N' px scope bR q (.ref c') A s H) body te)
  (hS:autoParam (cM N' [px] X.env.scope scope=true) aQ0._auto_1) (hM:autoParam (cG X.N N' scope=true) aQ0._auto_1) (hk:autoParam (scope.kind=.function) aQ0._auto_1) (hco:autoParam (scope.isCoroutine=false) aQ0._auto_1) (hgen:autoParam (scope.isGenerator=false) aQ0._auto_1)
  (hpx:autoParam (scope.names.lookup px=some .local) aQ0._auto_1) (hnc:autoParam ((scope.names.all fun x=>!(x.2 == .cell))=true) aQ0._auto_1) (hqual:autoParam (X.env.qual ++ "<lambda>" = bR) aQ0._auto_1) (hdef:autoParam (defaultsOf params X.env=([],[])) aQ0._auto_1)
  (hbind:∀(u:Value) (cl:List (Str × Addr)) (pm ctv:Value) (c':Addr),bindArgs (PySem.W.kla_fn "<lambda>" bR params body scope cl pm (.ref c') ctv) ⟨[u],[]⟩=pure [(px,u)]:=by intros;rfl)
  (hg:autoParam (Gl X "sorted") aQ0._auto_1) (hst:autoParam (i4 X a) aQ0._auto_1) :
  PE X (.Call (.Name "sorted" p) [a] [⟨some "key",.Lambda params body scope lp,kp⟩] pos) (FI ta te):= by
 intro pins s G H Q I h
 have S:=g_ hS
 have Mk:=ig hM
 have hnc':∀x ∈ scope.names,x.2 ≠ .cell:=fun x hx e=>by
  have:=ZV.mp hnc x hx
  rw [e] at this
  simp at this
 refine WR (fv I hg hm (u:=.builtin "sorted") rfl ?_ (by decide) (by decide))
 refine callWith_builtin_kwB (by rw [hst];rfl) rfl (evalArgs_kw2 rfl (b9 ((cN ha dF hst) pos pins s G H (fun vs H1=>match vs with
  | [v]=>∃(d:Addr) (kvs:List (List Key × V)),v=.ref d/\Rd H1 d (.dT kvs)/\kvs.length < 64 /\
   ∀H2:Hp,(∀b o,H1 b=some o->H2 b=some o)->∀bs:List Addr,bs.length=kvs.length->(∀(i:Nat) (p:List Key × V),kvs[i]? = some p->∃b,bs[i]? = some b/\H2 b=some (.tup (p.1.map kV))) ->
    ∃(ks:List Int) (W:Nat->Hp->Prop),ks.length=kvs.length/\W 0 H2/\(∀(i:Nat) (k:Int) (b:Addr) (H':Hp),bs[i]? = some b->ks[i]? = some k->W i H' -> te (G ++ [some (.ref b)]) H' fun y H''=>y=.int k/\W (i + 1) H'') /\
     ∀(H':Hp) (l:Addr),W kvs.length H' -> H' l=none->Q (.ref l) (upd H' l (.lst (Jt.So.pickI ks .non (bs.map V.ref))))
  | _=>False) I h) fun us s1 ⟨vs,H1,I1,r,q⟩=>?_) hst)
 match vs,q with
 | [v],q=>
  obtain ⟨d,kvs,rfl,hd,h64,fin⟩:=q
  obtain ⟨u,rfl,ru⟩:=r.one
  cases ru
  show wpAny _ _ (evalAll [do let v <- eval (.Lambda params body scope lp) X.env;standAt pos;pure v]) _ _ s1
  refine wpAny_evalAll_cons (zN (CQ I1 L hcode hqual S hdef fun q H2 s2 c' pm ctv M=>zN (VE (kT (wpAny_evalAll_nil ?_)))))
  show wpAny _ _ (call (.builtin "sorted") [.ref d] [(Str.ofString "key",.ref q)]) _ _ s2
  have fq:dj X pins H2 q:=I1.fpOk M.new M.free
  have I3:=M.inv.pin1 fq M.obj (fun v h=>by cases h)
  obtain ⟨oc,uu,ws,tt,hc',hdat,hv1⟩:=M.cod
  have hd2:Rd H2 d (.dT kvs):=Jt.Rd.mono M.same hd
  obtain ⟨lo,o,es,h1,h2,h3,h4,h5⟩:=ph M.inv.hok hd2
  obtain ⟨bs,hbl,hbk,hbs⟩:=xQ h4 h5
  obtain ⟨ks,W,hkl,w0,turn,last⟩:=fin H2 M.same bs hbl hbs
  refine call_function_entry_kw kind_sorted plain_sorted entry_sorted (ksk_s1 _ _) ?_
  unfold Builtin.«sorted»
  refine zN (m:=checkCount "sorted" 1 1 _) (kT ?_)
  refine zN (rH hr.hd lo ⟨o,h1,h2,h3⟩ (by rw [h4,ZW];omega) fun g1 tk1 k1 hsz=>?_)
  rw [hbk]
  have hvl:(bs.map Value.ref).length=kvs.length:=by rw [uL,hbl]
  refine zN (XE ?_ (by rw [hvl,ZW];omega))
  have I4:Inv X (pins ++ [(q,PySem.W.kla_obj "<lambda>" bR params body scope (c7 X.env.cells scope.names []) pm c' ctv)]) G H2 { s2 with heap:=g1.push (fB (bs.map Value.ref).toArray 0),toks:=tk1 }:=I3.kept (t':=tk1) fun b o e=>zS _ (k1 b o e)
  have hgl:(g1.push (fB (bs.map Value.ref).toArray 0)).get? g1.objs.size=some (fB (bs.map Value.ref).toArray 0):=wF _ rfl
  have fl:dj X (pins ++ [(q,PySem.W.kla_obj "<lambda>" bR params body scope (c7 X.env.cells scope.names []) pm c' ctv)]) H2 g1.objs.size:=I3.fpOk hsz (I3.hok.fresh hsz)
  refine zN (Q1 (wpAny_call_entry_kw slot_list_sort ⟨_,hgl,rfl⟩ entry_list_sort ?body (ksk_l1 _ _)))
  case body=>
   show wpAny (model X.prog X.w) X.A.in1.in1 (Builtin.«list.sort» ⟨[.ref g1.objs.size],[(Str.ofString "key",.ref q)]⟩) _ _ _
   rw [ksk_t1]
   refine G6 (fun i H'=>W i H' /\ H' c' = some (.frz oc uu)) I4 hgl fl (by rw [hkl,hvl]) (by omega) ⟨w0,hc'⟩ (fun i x kk hx hkk H' s' pl J wi=>?_) fun H' s' e J fl' hg' wn=>⟨_,rfl,kT ⟨_,rfl,?_⟩⟩
   .rw [QS] at hx
    cases hb:bs[i]? with
    | none=>rw [hb] at hx;cases hx
    | some b=>
     rw [hb] at hx
     cases hx
     obtain ⟨g1',_⟩:=J.got (ZL _ (xZ _ (jP.mpr rfl)))
     obtain ⟨goc,_⟩:=(show b4 X.prog X.w H' s'.heap c' (.frz oc uu) from J.hok c' _ wi.2)
     refine VS (zu (v:=.ref b) (u:=.ref b) (te:=te) J rfl hr.hd hr.depth hk hco hgen S Mk hpx hnc' g1' ⟨c',oc,ws,tt,rfl,goc,hdat,hv1⟩ (hbind _ _ _ _ _) rfl (he q c' _ s' H' (by have:=hr.un;show X.A.units + 1 + 1 + 3 + 100 < _;omega)) (turn i kk b H' hb hkk wi.1)) fun r s'' ⟨u',e',y,H'',J'',ry,⟨qy,wy⟩,fz⟩=>?_
     exact ⟨u',e',y,H'',J'',ry,qy,wy,fz _ _ _ wi.2⟩
   .have J1:=J.unpin
    have fl1:dj X pins H' g1.objs.size:=⟨fl'.1,fl'.2.1,fl'.2.2.1,fl'.2.2.2.1,fl'.2.2.2.2.1,fun p hp=>fl'.2.2.2.2.2 p (by
     rcases fD.mp hp with z | z
     .exact ZL _ z
     .exact xZ _ (ZL _ z))⟩
    have hpl:(Jt.So.pickI ks V.non (bs.map V.ref)).length=kvs.length:= by
     rw [(Jt.So.pickI_perm ks V.non (bs.map V.ref) (by rw [uL,hbl,hkl])).length_eq,uL,hbl]
    refine ⟨.ref g1.objs.size,upd H' g1.objs.size (.lst (Jt.So.pickI ks .non (bs.map V.ref))),J1.adopt (h':=s'.heap) (t':=s'.toks) fl1 (fun b ob _ e=>e) ⟨by rw [hpl,ZW];omega,Jt.So.pickI ks Value.none (bs.map Value.ref),e,jA,hg'⟩,rfl,last H' _ (by rw [hvl] at wn;exact wn.1) fl'.1⟩
end
end L2
namespace Jt
open PySem L2
noncomputable def pairD (p:Int × Int):D:=.tup [.int p.1,.int p.2]
noncomputable def AI:D->Option iQ
 | .dip kvs=>some (bp (kvs.map fun p=>pairD p.1))
 | _=>none
theorem xn {H:Hp} {p:Int × Int} {b:Addr} (h:H b=some (.tup [.int p.1,.int p.2])):R H (pairD p) (.ref b):=.mkT h (.cons .mkI (.cons .mkI .nil))
theorem J9 {H:Hp} {a:Addr} {kvs kvs':List (List Key × V)} (h:H a=some (.dT kvs)) (h':Rd H a (.dT kvs')):kvs' = kvs:= by
 rcases h' with e | ⟨o,e⟩
 .rw [h] at e;cases e;rfl
 .rw [h] at e;cases e
theorem Au {a:Addr} {kvs:List ((Int × Int) × Int)}:Jw (OT a kvs.length) (bp (kvs.map fun p=>pairD p.1)) [.dip kvs] [.ref a]:=fun c Y S G T H i s=>by
 obtain ⟨p,e,h1⟩:=s.st.head.dip
 cases e
 have hH:H a=some (eW kvs):=bq _ _ h1
 refine ⟨fun act d ha hd=>?_,fun e _=>⟨_,.inl hH,by simp,by rw [e];simp [bp]⟩⟩
 have hg:=eA ha hd
 rw [QS] at hg
 cases q:kvs[i]? with
 | none=>rw [q] at hg;cases hg
 | some kv=>
  rw [q] at hg
  cases hg
  have hi:i < kvs.length:=(wV.mp q).1
  refine ⟨⟨_,.inl hH,by simp,hi⟩,fun x H' y=>?_⟩
  obtain ⟨rfl,kvs',p',b,hr,hp,rfl,hb⟩:=y
  rw [J9 hH hr,QS,q] at hp
  cases hp
  exact s.stk (.cons (xn (s.seeT hb)) s.st)
section
variable {X:Cx} {a:Expr} {fa fk:M D}
theorem Ez {tg l:Expr} (hl:DE X l fa):DI X tg l (do let x <- fa;lift (AI x)):=qp (DY hl) fun G H R ⟨c,Y,S,T,it,δ',s,e,k⟩=>by
 obtain ⟨x,δ1,e1,e⟩:=bind_some e
 obtain ⟨e2,rfl⟩:=aZ e
 refine ⟨c,Y,S,T,x,δ1,s,e1,fun v H' s'=>?_⟩
 cases x with
 | dip kvs=>
  cases e2
  obtain ⟨p,rfl,h1⟩:=s'.st.head.dip
  refine ⟨p,_,rfl,.inl (bq _ _ h1),?_⟩
  rw [uL]
  exact k _ [.dip kvs] [.ref p] H' rfl Au s'
 | _=>cases e2
noncomputable def i6 (fk:M D):List ((Int × Int) × Int)->M (List Int)
 | []=>pure []
 | p :: r=>fun Y=>match fk (Y ++ [.pu (pairD p.1)]) with
  | some (.int k,δ')=>(match i6 fk r (δ'.take Y.length) with
   | some (ks,δ'')=>some (k :: ks,δ'')
   | none=>none)
  | _=>none
theorem lq {p:(Int × Int) × Int} {r:List ((Int × Int) × Int)} {Y δ':DS} {ks:List Int} (h:i6 fk (p :: r) Y=some (ks,δ')):∃k δ1 ks1,fk (Y ++ [.pu (pairD p.1)])=some (.int k,δ1)/\i6 fk r (δ1.take Y.length)=some (ks1,δ')/\ks=k :: ks1:= by
 unfold i6 at h
 split at h
 .rename_i k δ1 e
  split at h
  .rename_i ks1 δ2 e2
   cases h
   exact ⟨k,δ1,ks1,e,e2,rfl⟩
  .cases h
 .cases h
theorem ou:∀{kvs:List ((Int × Int) × Int)} {Y δ':DS} {ks:List Int},i6 fk kvs Y=some (ks,δ')->ks.length=kvs.length
 | [],Y,δ',ks,h=>by cases h;rfl
 | p :: r,Y,δ',ks,h=>by
  obtain ⟨k,δ1,ks1,_,e2,rfl⟩:=lq h
  simp [ou e2]
noncomputable def pZ (fa fk:M D):M (List D):=do
 let x <- fa
 match x with
 | .dip kvs=>if kvs.length < 64 then (do
   let ks <- i6 fk kvs
   pure (So.pickI ks .non (kvs.map fun p=>pairD p.1))) else lift none
 | _=>lift none
theorem qd {H:Hp} {ds:List D} {vs:List V} (h:Rs H ds vs) (ks:List Int):Rs H (So.pickI ks .non ds) (So.pickI ks .non vs):= by
 unfold So.pickI
 split
 .exact h
 .have one:∀i:Nat,R H (ds.getD i .non) (vs.getD i .non):=fun i=>by
   rw [QP,QP]
   cases q:ds[i]? with
   | none=>
    have:vs[i]? = none:=by rw [List.getElem?_eq_none_iff] at q ⊢;rw [h.length];exact q
    rw [this];exact .mkN
   | some d=>
    obtain ⟨v,e,r⟩:=h.get q
    rw [e];exact r
  generalize (So.ordI ks).toList=l
  induction l with
  | nil=>exact .nil
  | cons i r ih=>exact .cons (one i) ih
theorem Sl.snoc {c:Ct} {Y:DS} {S:List D} {G:L2.St} {T:List V} {H:Hp} {d:D} {v:V} (s:Sl c Y (d :: S) G (v :: T) H):Sl c (Y ++ [.pu d]) S (G ++ [some v]) T H:= by
 have h1:=s.ext 1
 have h2:=h1.setPu (i:=Y.length) (by simp)
 have e1:(Y ++ List.replicate 1 Slot.un).set Y.length (.pu d)=Y ++ [.pu d]:=by simp
 have e2:(G ++ List.replicate 1 (none:Option V)).set Y.length (some v)=G ++ [some v]:=by rw [s.len];simp
 rw [e1,e2] at h2
 exact h2
theorem q_ {H:Hp}:∀{kvs:List ((Int × Int) × Int)} {bs:List Addr},bs.length=kvs.length->(∀(i:Nat) (p:(Int × Int) × Int),kvs[i]? = some p->∃b,bs[i]? = some b/\H b=some (.tup [.int p.1.1,.int p.1.2]))->Rs H (kvs.map fun p=>pairD p.1) (bs.map V.ref)
 | [],[],_,_=>.nil
 | p :: r,b :: bs,hl,h=>by
  obtain ⟨b',e,hb⟩:=h 0 p rfl
  cases e
  exact .cons (xn hb) (q_ (by simpa using hl) fun i q hq=>h (i + 1) q (by simpa using hq))
 | [],_ :: _,hl,_=>by cases hl
 | _ :: _,[],hl,_=>by cases hl
theorem xY {b:Expr} {fb:M D} {pos:Pos} (hu:X.A.units + 100 < cLine) (ha:DE X a fa) (hb:DE X b fb) (hs:autoParam (h_ b) aQ3._auto_1):DE X (.Subscript a b pos) (m2 ir fa fb):=BA (A0 tF (wd (by omega))) w4 ha hb hs
theorem q0 {body:Expr} {params:Arguments} {scope:Scope} {lp kp p pos:Pos} {cc P:Addr} {N':List Str} {px:Str} {k:Nat} (hr:cb k X.A) (L:LamK X.K X.mg cc P) (hcode:X.env.code=.ref cc) (hm:X.mg "sorted" = none) (ha:DE X a fa)
  (he:∀q c' A s H,(lam X N' px scope bR q (.ref c') A s H).A.units + 100 < cLine->DE (lam X N' px scope bR q (.ref c') A s H) body fk)
  (hS:autoParam (cM N' [px] X.env.scope scope=true) aQ0._auto_1) (hM:autoParam (cG X.N N' scope=true) aQ0._auto_1) (hk:autoParam (scope.kind=.function) aQ0._auto_1) (hco:autoParam (scope.isCoroutine=false) aQ0._auto_1) (hgen:autoParam (scope.isGenerator=false) aQ0._auto_1)
  (hpx:autoParam (scope.names.lookup px=some .local) aQ0._auto_1) (hnc:autoParam ((scope.names.all fun x=>!(x.2 == .cell))=true) aQ0._auto_1) (hqual:autoParam (X.env.qual ++ "<lambda>" = bR) aQ0._auto_1) (hdef:autoParam (defaultsOf params X.env=([],[])) aQ0._auto_1)
  (hbind:∀(u:Value) (cl:List (Str × Addr)) (pm ctv:Value) (c':Addr),bindArgs (PySem.W.kla_fn "<lambda>" bR params body scope cl pm (.ref c') ctv) ⟨[u],[]⟩=pure [(px,u)]:=by intros;rfl)
  (hg:autoParam (Gl X "sorted") aQ0._auto_1) (hst:autoParam (i4 X a) aQ0._auto_1) :
  DF X (.Call (.Name "sorted" p) [a] [⟨some "key",.Lambda params body scope lp,kp⟩] pos) (pZ fa fk):=cw (rQ hr L hcode hm ha he hS hM hk hco hgen hpx hnc hqual hdef hbind hg hst) fun G H Q ⟨c,Y,S,T,xs,δ',s,e,q⟩=>by
 obtain ⟨x,δ1,e1,e⟩:=bind_some e
 refine ⟨c,Y,S,T,x,δ1,s,e1,fun v H1 s1=>?_⟩
 cases x with
 | dip kvs=>
  dsimp only at e
  split at e
  .rename_i h64
   obtain ⟨ks,δ2,e2,e⟩:=bind_some e
   obtain ⟨rfl,rfl⟩:=aU e
   obtain ⟨d,rfl,h1⟩:=s1.st.head.dip
   refine ⟨d,_,rfl,.inl (bq _ _ h1),by simpa using h64,fun H2 same bs hbl hbs=>?_⟩
   rw [uL] at hbl
   have s2:=s1.grow same
   have hrs:Rs (dC c δ1 G H2) (kvs.map fun p=>pairD p.1) (bs.map V.ref):=q_ hbl fun i p hp=>by
    obtain ⟨b,eb,hb⟩:=hbs i ([.inl p.1.1,.inl p.1.2],.int p.2) (by rw [QS,hp];rfl)
    exact ⟨b,eb,s2.seeT hb⟩
   have s3:Sl c δ1 ((kvs.map fun p=>pairD p.1) ++ S) G (bs.map V.ref ++ T) H2:=s2.stk (hrs.append s2.st.tail)
   have hlk:=ou e2
   refine ⟨ks,fun i H'=>∃δi,Sl c δi ((kvs.map fun p=>pairD p.1) ++ S) G (bs.map V.ref ++ T) H' /\ i6 fk (kvs.drop i) δi=some (ks.drop i,δ2),by simpa using hlk,⟨δ1,s3,e2⟩,fun i kk b H' hb hkk ⟨δi,si,ei⟩=>?_,fun H' l ⟨δn,sn,en⟩ hl=>?_⟩
   .have hi:i < kvs.length:=by rw [<- hlk];exact (wV.mp hkk).1
    obtain ⟨p,hp⟩:∃p,kvs[i]? = some p:=⟨kvs[i],kW hi⟩
    have ed:kvs.drop i=p :: kvs.drop (i + 1):= by
     rw [QM hi]
     have:=kW hi
     rw [hp] at this;cases this;rfl
    rw [ed] at ei
    obtain ⟨k1,δ3,ks1,f1,f2,f3⟩:=lq ei
    have ek:ks.drop i=kk :: ks.drop (i + 1):= by
     have hi':=(wV.mp hkk).1
     rw [QM hi']
     have:=kW hi'
     rw [hkk] at this;cases this;rfl
    rw [ek] at f3
    cases f3
    have hrs':=si.st.left (by simp [hbl])
    obtain ⟨v',ev,rv⟩:=hrs'.get (show (kvs.map fun p=>pairD p.1)[i]? = some (pairD p.1) by rw [QS,hp];rfl)
    rw [QS,hb] at ev
    cases ev
    have s4:Sl c (δi ++ [.pu (pairD p.1)]) ((kvs.map fun p=>pairD p.1) ++ S) (G ++ [some (.ref b)]) (bs.map V.ref ++ T) H':=(si.stk (.cons rv si.st)).snoc
    refine ⟨c,_,_,_,.int kk,δ3,s4,f1,fun y H'' s5=>⟨s5.st.head.int,δ3.take δi.length,?_,f2⟩⟩
    have s6:=s5.pop.cut δi.length
    rw [si.len,YB] at s6
    .rw [si.len];exact s6
    .rfl
   .rw [uL,List.drop_of_length_le (wN _),List.drop_of_length_le (by omega)] at en
    cases en
    have hf:=sn.fresh hl
    have hrs':=sn.st.left (by simp [hbl])
    have hpk:=qd hrs' ks
    have s7:=sn.stk (hpk.append (sn.st.right (by simp [hbl])))
    exact q l _ _ hpk.length (s7.hide hl) hf.1 hf.2.1 hf.2.2
  .cases e
 | _=>cases e
end
end Jt
namespace Jt
open PySem L2 PyProof.Rows
section
variable {P:Program} {w:World} {K:PySem.W.Frag} {mg:Str->Option Value} {base:Heap} {k:Nat} {N ps:List Str} {st:Stmt} {body:M Fl} {c PT:Addr}
theorem OY(F:DD K x qual st f fd)(S:cg N ps (aX st)){cdv:Value}(hc:fd.code=cdv)
  (J:∀(A:Around)(outer:List Env)(s:Shared)(H:Hp)(E:XK),cb k (A.deeper (PyProof.Rows.envOfC qual (aX st) s.heap.objs.size f cdv))->m_ (fU eZ P w K mg base N qual (aX st) f cdv A outer s H E).nox (bQ st) body):
  dX P w K mg base eZ (k+1) f fd ps (zJ ps.length (bL N body)):=by
 obtain⟨oc,od,kV,doc,pm,an,cd,ct,ae,rfl,lk,U⟩:=F.ex;have aa:cd=cdv:=hc;subst aa;refine HU lk U S (λ vs H Q E h=>h.1) λ A outer s H vs Q E hr h=>?_;refine⟨_,(J A outer s H E hr).nox,?_⟩;obtain⟨hl,Z,ds,d,hZ,r,e,q⟩:=h;have ab:ps.length<=N.length:=by have:=ZO List.length S.pre;rw[VB]at this;omega
 have s0:=lY (N:=N) hZ r (by rw[hl];exact ab);have fin:∀{C:DS}{I:L2.St}{v:V}{H':Hp},Sl ⟨Z,[],H⟩ C [d] I [v] H'->Q v H':= λ{C I v H'} s'=>
  q v H' (λ b o J=>s'.keep b o (by simp) J) (s'.st.head.mono (bO (λ a o _ z=> .inl z) λ _ _ _ h=>h));unfold bL at e;split at e;. rename_i d' C eb;cases e;exact⟨_,_,_,_,_,_,s0,eb,λ v I H' s'=>fin s'⟩
 .rename_i C eb;cases e;exact⟨_,_,_,_,_,_,s0,eb,λ I H' s'=>fin (v:= .non) (s'.stk (.cons .mkN .nil))⟩
 grind
structure Kh (K:PySem.W.Frag) (mg:Str->Option Value) (c PT:Addr):Prop extends LamK K mg c PT where
 cod:∀f fd,mg dv=some (.ref f)->(∃oc od osl,K.lookup f=some ⟨oc,od,.func fd,osl⟩)->fd.code=.ref c
theorem PH(L:Kh K mg c PT)(E:Ent K mg dv ps st)(S:cg N ps (aX st))
  (C:∀(f:Addr)(A:Around)(outer:List Env)(s:Shared)(H:Hp)(E:XK),cb k (A.deeper (PyProof.Rows.envOfC dv (aX st) s.heap.objs.size f (.ref c)))->m_ (fU eZ P w K mg base N dv (aX st) f (.ref c) A outer s H E).nox (bQ st) body):
  Kn P w K mg base eZ (k+1) dv ps (zJ ps.length (bL N body)):=by
 obtain⟨⟨f,fd,F,m,b⟩⟩:=E;have I:fd.code= .ref c:=by obtain⟨J,od,kV,doc,pm,an,cd,ct,o,e,lk,U⟩:=F.ex;exact L.cod f fd m ⟨J,od,o,lk⟩
 exact⟨⟨f,fd,OY F S I (C f),m,F.kp,b⟩⟩
noncomputable def Je(vs:Array Value):Addr:=match(vs[11]?:Option Value)with
 |some (.ref P)=>P
 |_=>0
noncomputable def codeOk(vs:Array Value)(c bm:Addr):Bool:=
 (match(vs[11]?:Option Value)with|some (.ref _)=>true|_=>false)&&(match vs.getD 18 .none with| .str _ _=>true|_=>false)&&(match vs.getD 7 .none with| .int _ _=>true|_=>false)&&
 (match vs.getD 9 .none with| .bool _=>true|_=>false)&&(match vs.getD 10 .none with| .int _ _=>true|_=>false)&&decide (c≠Je vs)&&decide (bm≠builtinsNs)&&decide (bm≠mainGlobals)&&decide (bm≠Je vs)&&decide (mainGlobals≠Je vs)
theorem GZ(X:K.In h)(G:h.Ns mainGlobals mg){f c bm:Addr}{oc:Value}{od C:Option Addr}{fd:FuncData}{sl I J:Array (Option Value)}{vs:Array Value}
  (a:PySem.W.nsIn K mainGlobals dv=some (some (.ref f)))(l:K.lookup f=some ⟨oc,od,.func fd,sl⟩)(hc:fd.code= .ref c)(lc:K.lookup c=some ⟨.type "code",C,.fields vs,I⟩)
  (b:PySem.W.nsIn K mainGlobals "__builtins__"=some (some (.ref bm)))(lb:K.lookup bm=some ⟨.type "module",some builtinsNs,.plain,J⟩)(U:codeOk vs c bm=true):Kh K mg c (Je vs):=by
 unfold codeOk at U;simp only[Z3,YC]at U;obtain⟨⟨⟨⟨⟨⟨⟨⟨⟨v1,v2⟩,v3⟩,v4⟩,v5⟩,v6⟩,v7⟩,v8⟩,v9⟩,v10⟩:=U;have o:(vs[11]?:Option Value)=some (.ref (Je vs)):=by unfold Je;grind
 have tab:PySem.W.tabIn K dv=some (c,Je vs):=by unfold PySem.W.tabIn;rw[a];dsimp only;rw[l];dsimp only;rw[hc];dsimp only;rw[lc];dsimp only;rw[o]
 have st:∀{u:Value},(match u with| .str _ _=>true|_=>false)=true->∃a b,u= .str a b:= λ{u} h=>by cases u <;> first|exact⟨_,_,rfl⟩|cases h
 have it:∀{u:Value},(match u with| .int _ _=>true|_=>false)=true->∃a b,u= .int a b:= λ{u} h=>by cases u <;> first|exact⟨_,_,rfl⟩|cases h
 have bt:∀{u:Value},(match u with| .bool _=>true|_=>false)=true->∃a,u= .bool a:= λ{u} h=>by cases u <;> first|exact⟨_,rfl⟩|cases h
 obtain⟨s1,s2,aa⟩:=st v2;obtain⟨i1,i2,e7⟩:=it v3;obtain⟨b1,e9⟩:=bt v4;obtain⟨j1,j2,ab⟩:=it v5;refine⟨⟨tab,λ h' X'=>⟨_,vs,s1,s2,i1,i2,b1,j1,j2,X' _ _ lc,rfl,rfl,o,?_,aa,e7,e9,ab,v6⟩,λ h' X'=>⟨bm,_,WK X G b,v7,v8,v9,X' _ _ lb,rfl,rfl,rfl⟩,v10⟩,λ f' af hm ⟨ag,od',ae,lk⟩=>?_⟩;. rw[Array.getD_eq_getD_getElem?,o];rfl
 .have e:=WK X G a;rw[hm]at e;cases e;rw[l]at lk;cases lk;exact hc
end
theorem xM {P:Program} {w:World} {K:PySem.W.Frag} {mg mb:Str->Option Value} {k:Nat} {fa a:Addr} {fd:FuncData} {x:Str} {sp:Sp} {s₁:Shared} {vs:List Value} {ns:List Int} {c PT:Addr}
  (KX:K.In s₁.heap) (hns:s₁.heap.Ns mainGlobals mg) (hb:s₁.heap.Ns builtinsNs mb) (hbb:∀x:Str,x ≠ "__name__" -> mb x=bootBuiltins x) (hlim:s₁.heap.NoLimit) (hg:s₁.gens = #[])
  (ha:s₁.heap.get? a=some { cls:=.type "list",data:=.seq vs.toArray }) (hi:IntsAre vs ns) (hl:ns.length ≤ sizeLine) (hr:cb k callerA) (hKa:K.lookup a=none)
  (htab:PySem.W.tabIn K dv=some (c,PT)) (hPT:s₁.heap.get? PT=some (PySem.W.tabObj #[])) (hCd:PySem.W.CodeHd s₁.heap c PT) (hKP:K.lookup PT=none)
  (F:∀base:Heap,K.In base->base.Ns mainGlobals mg->dX P w K mg base eZ k fa fd [x] sp) (hbind:∀(s:Shared) (u:Value),BindsTo s fd ⟨[u],[]⟩ [(x,u)])
  (hsp:∀H:Hp,Rd H a (.lst (ns.map V.int))->sp [.ref a] H (fun v _=>v=.bl true) fun _ _ _=>False) :
  codeAny (model P w) callerA (.call (.ref fa) ⟨[.ref a],[]⟩) (fun r s'=>r=.ok (.ret (.bool true))/\OldK s₁.heap s'.heap/\s'.os=s₁.os/\AllBare s'.gens) s₁:= by
 have rv:=ia hi
 have hne:PT ≠ a:=fun z=>by rw [z,ha] at hPT;cases hPT
 let H:Hp:=fun b=>if b=a then some (.frz { cls:=.type "list",data:=.seq vs.toArray } (.lst (ns.map V.int))) else if b=PT then some (.tbl #[.str bR 0]) else none
 have Ha:H a=some (.frz { cls:=.type "list",data:=.seq vs.toArray } (.lst (ns.map V.int))):=gA rfl
 have HP:H PT=some (.tbl #[.str bR 0]):=(gL hne).trans (gA rfl)
 have Hn:∀b,b ≠ a->b ≠ PT->H b=none:=fun b h1 h2=>(gL h1).trans (gL h2)
 have Hc:∀b,H b=none ∨ b=a ∨ b=PT:=fun b=>by
  by_cases h1:b=a
  .exact .inr (.inl h1)
  .by_cases h2:b=PT
   .exact .inr (.inr h2)
   .exact .inl (Hn b h1 h2)
 have hok:iC P w H s₁.heap:=fun b o e=>by
  by_cases h1:b=a
  .subst h1;rw [Ha] at e;cases e
   exact ⟨ha,by rw [uL];exact hl,vs,_,rv,ha⟩
  .by_cases h2:b=PT
   .subst h2;rw [HP] at e;cases e
    exact ⟨#[],hPT,trivial,fun q t0 pos cv _ h=>by cases h⟩
   .rw [Hn b h1 h2] at e;cases e
 have base_of:∀{b:Addr} {o:Obj},s₁.heap.get? b=some o->b ≠ a->b ≠ PT->(pj s₁.heap H).get? b=some o:=fun e h1 h2=>ze e (Hn _ h1 h2)
 have nsK:∀{b:Addr} {m:Str->Option Value},s₁.heap.Ns b m->(pj s₁.heap H).Ns b m:=fun {b m} ⟨o,es,ep,e,d,r⟩=>⟨o,es,ep,base_of e (fun z=>by rw [z,ha] at e;cases e;cases d) (fun z=>by rw [z,hPT] at e;cases e;cases d),d,r⟩
 have hKb:K.In (pj s₁.heap H):=fun b o e=>base_of (KX b o e) (fun z=>by rw [z,hKa] at e;cases e) fun z=>by rw [z,hKP] at e;cases e
 have hM:Mod K mg (pj s₁.heap H):=⟨hKb,nsK hns,⟨mb,nsK hb,hbb⟩,let ⟨mc,h1,h2⟩:=hlim;⟨mc,nsK h1,h2⟩⟩
 have e0:Ea P w K mg (pj s₁.heap H) callerA [] s₁ H:=⟨rfl,hM,fun b o e=>GY e,W4 (xE _ _),trivial,fun b hb=>absurd (show b ∈ ([]:List Addr) from hb) (by simp),hok,.of_eq hg,fun c' P' e=>by
  rw [htab] at e;cases e
  exact ⟨_,0,HP,rfl⟩⟩
 refine VS ((F _ hKb (nsK hns)).run callerA [] s₁ H ⟨[.ref a],[]⟩ [.ref a] [.ref a] _ _ hr e0 (hbind s₁ (.ref a)) (.cons rfl .nil) (hsp H (.inr ⟨_,Ha⟩))) fun r s' h=>?_
 cases r with
 | error e=>exact False.elim h
 | ok fl=>
  cases fl with
  | next=>exact False.elim h
  | brk=>exact False.elim h
  | cont=>exact False.elim h
  | ret u=>
   obtain ⟨v,H',os,bare,un,hok',r',q⟩:=h
   have q':v=.bl true:=q
   subst q'
   obtain rfl:u=Value.bool true:=r'
   have cas:∀b o,s₁.heap.get? b=some o->s'.heap.get? b=some o ∨ (b=PT/\o=PySem.W.tabObj #[]/\∃ps,s'.heap.get? b=some (PySem.W.tabObj ps)):=fun b o e=>by
    rcases Hc b with z | z | z
    .exact .inl (un.keep b o e z (by intro z;exact absurd (show b ∈ ([]:List Addr) from z) (by simp)) (by simp))
    .subst z
     obtain ⟨e2,_⟩:=hok' b _ (un.frzs b _ _ Ha)
     rw [ha] at e;cases e
     exact .inl e2
    .subst z
     obtain ⟨more,e2⟩:=un.tbls b _ HP
     obtain ⟨ps,e3,_⟩:=(show b4 P w H' s'.heap b (.tbl _) from hok' b _ e2)
     simp_all
   refine ⟨rfl,⟨fun b o e=>?_,fun b o e=>?_⟩,os,bare⟩
   .rcases cas b o e with z | ⟨rfl,rfl,ps,z⟩
    .exact .inl z
    .exact .inr (.inl ⟨(hCd.tab hPT).isCodeTable,rfl,#[],ps,rfl,by rw [Array.empty_append];exact z⟩)
   grind
end Jt
namespace Jt
open PySem PySem.W PySem.Calls PyProof.Rows L2
theorem pG{K:PySem.W.Frag}(h:Ae K=true){a:Addr}{vs:Array Value}{C:Heap}(X:K.In C)(e:C.get? a=some { cls:= .type "list",data:= .seq vs }):K.lookup a=none:=by cases q:K.lookup a with
 |none=>rfl
 |some o=>have:=X a o q;rw[e]at this;cases this;have I:=ZV.mp h _ (mem_of_lookupK q);simp_all
theorem m9{K:PySem.W.Frag}(h:noTabs K=true){a:Addr}{C:Heap}(X:K.In C)(e:C.get? a=some (tabObj #[])):K.lookup a=none:=by cases q:K.lookup a with
 |none=>rfl
 |some o=>have:=X a o q;rw[e]at this;cases this;have I:=ZV.mp h _ (mem_of_lookupK q);simp_all
structure IQ (K K':PySem.W.Frag):Prop where
 lk:∀{a:Addr} {o:Obj},K.lookup a=some o->K'.lookup a=some o
section
variable {K K':PySem.W.Frag}
theorem IQ.ns (U:IQ K K') {n:Addr} {x:Str} {y:Option Value} (e:nsIn K n x=some y):nsIn K' n x=some y:= by
 unfold nsIn at e ⊢
 cases q:K.lookup n with
 | none=>rw [q] at e;cases e
 | some o=>rw [q] at e;rw [U.lk q];exact e
theorem IQ.code (U:IQ K K') {cd:Value} {x:Str} (e:codeIn K cd x=true):codeIn K' cd x=true:= by
 unfold codeIn at e ⊢
 cases cd with
 | ref c=>
  dsimp only at e ⊢
  cases q:K.lookup c with
  | none=>rw [q] at e;cases e
  | some o=>rw [q] at e;rw [U.lk q];exact e
 | _=>cases e
theorem IQ.fh (U:IQ K K') {x:Str} {st:Stmt} (h:Fh K x st):Fh K' x st:= by
 obtain ⟨⟨f,oc,od,kV,dc,pm,an,cd,ct,sl,a,l,c,k⟩⟩:=h
 refine fh_mk (U.ns a) (U.lk l) (U.code c) ?_
 unfold keepIn
 dsimp only
 rw [U.lk l]
theorem bm_eq {h:Heap} {mg:Str->Option Value} {bm b:Addr} {o:Obj} (X:K.In h) (G:h.Ns mainGlobals mg) (hbm:mg "__builtins__" = some (.ref bm)) (hlk:K.lookup bm=some o) (lb:nsIn K mainGlobals "__builtins__" = some (some (.ref b))):K.lookup b=some o:= by
 have:=mg_of X G lb
 rw [hbm] at this
 cases this
 exact hlk
end
theorem walkM {l:PySem.W.OpenLaw} {q:Program} {loose:List Str} {XP:(Str->Option Value)->Heap->Prop} {YP:World->Heap->Prop} {d:DefRec} {K:Params->PySem.W.Frag} {k:Nat} (hn:l.most=some 63) (hdf:d.params.defaults=[]) (hr:cb k callerA)
  (hY:∀(w:World) (h:Heap),YP w h->(K w.params).In h) (hL:∀w:World,Ae (K w.params)=true) (hN:∀w:World,noTabs (K w.params)=true) (hq:((recsOf q).find? fun e=>e.name == dv).isSome=true)
  (F:∀(w:World) (mg:Str->Option Value) (fa:Addr) (h:Heap) (K':PySem.W.Frag) (bm:Addr) (sl:Array (Option Value)),IQ (K w.params) K' -> K'.In h->h.Ns mainGlobals mg->mg d.name=some (.ref fa)->mg "__builtins__" = some (.ref bm)->K'.lookup bm=some ⟨.type "module",some builtinsNs,.plain,sl⟩ ->
   (∃c PT,tabIn K' dv=some (c,PT))/\∃fd:FuncData,(∀(s:Shared) (u:Value),BindsTo s fd ⟨[u],[]⟩ [("_law_script",u)])/\∀base:Heap,K'.In base->base.Ns mainGlobals mg->dX l.prog w K' mg base eZ k fa fd ["_law_script"] uO) :
  PySem.W.WalkO q loose XP YP l.row.toRowW d [] (fun f vs=>PySem.call f vs):= by
 intro w s₀ s₁ mg mb G Y fa o pm cd doc dV kV ho hd hcd hD hmg hg args vals as hpre hlay hrd hwl hlo
 obtain rfl:dV=.none:=Dflts.none hD hdf
 obtain rfl:kV=.none:=Dflts.noKw hD
 obtain ⟨a,vs,ns,rfl,rfl,hobj,hints,hlen⟩:=Att.script_of hn hpre hwl
 have KX:=hY w _ Y
 obtain ⟨bm,ob,hb1,_,hb3,hb4,hb5,hb6⟩:=G.T.bmain
 obtain ⟨oc,od,odt,osl⟩:=ob
 dsimp only at hb4 hb5 hb6
 subst hb4;subst hb5;subst hb6
 have U:IQ (K w.params) (K w.params ++ [(bm,⟨.type "module",some builtinsNs,.plain,osl⟩)]):=⟨fun {a o} e=>by rw [WT,e];rfl⟩
 have one:∀{a:Addr},a ≠ bm->(K w.params).lookup a=none->(K w.params ++ [(bm,(⟨.type "module",some builtinsNs,.plain,osl⟩:Obj))]).lookup a=none:=fun {a} h1 h2=>by
  rw [WT,h2]
  show ([(bm,_)]:List (Addr × Obj)).lookup a=none
  unfold List.lookup
  rw [YJ.mpr h1]
  rfl
 have two:∀{a:Addr} {o:Obj},(K w.params ++ [(bm,(⟨.type "module",some builtinsNs,.plain,osl⟩:Obj))]).lookup a=some o->(K w.params).lookup a=some o ∨ (a=bm/\o=⟨.type "module",some builtinsNs,.plain,osl⟩):=fun {a o} e=>by
  rw [WT] at e
  cases q:(K w.params).lookup a with
  | some o2=>rw [q] at e;exact .inl e
  | none=>
   rw [q] at e
   have e:([(bm,(⟨.type "module",some builtinsNs,.plain,osl⟩:Obj))]:List (Addr × Obj)).lookup a=some o:=e
   by_cases h:a=bm
   .subst h
    rw [List.lookup_cons_self] at e
    cases e
    exact .inr ⟨rfl,rfl⟩
   .unfold List.lookup at e
    rw [YJ.mpr h] at e
    cases e
 have KX2:(K w.params ++ [(bm,(⟨.type "module",some builtinsNs,.plain,osl⟩:Obj))]).In s₁.heap:=fun a o e=>by
  rcases two e with e | ⟨rfl,rfl⟩
  .exact KX a o e
  .exact hb3
 have hlk:(K w.params ++ [(bm,(⟨.type "module",some builtinsNs,.plain,osl⟩:Obj))]).lookup bm=some ⟨.type "module",some builtinsNs,.plain,osl⟩:= by
  rw [WT]
  cases q:(K w.params).lookup bm with
  | some o2=>
   have:=KX _ _ q
   rw [hb3] at this
   cases this
   rfl
  | none=>
   show ([(bm,_)]:List (Addr × Obj)).lookup bm=_
   rw [List.lookup_cons_self]
 obtain ⟨⟨c,PT,htab⟩,fd,hb,hF⟩:=F w mg fa _ _ bm osl U KX2 G.T.g hmg hb1 hlk
 obtain ⟨dr,hdr⟩:=YF.mp hq
 obtain ⟨hCd,hPT⟩:=tab_of G.T KX2 hdr htab
 have bits:=BQ hlay
 refine enter_call (VS (xM KX2 G.T.g G.T.b G.T.builtins G.T.nolimit hg hobj hints (Q3 hlen (by decide)) hr (one (fun z=>by rw [z,hb3] at hobj;have q:=ZO Obj.data (Q9 hobj);cases q) (pG (hL w) KX hobj)) htab hPT hCd (one (fun z=>by rw [z,hb3] at hPT;cases hPT) (m9 (hN w) KX hPT)) hF hb (fun H hS=>⟨a,ns,rfl,hS,hlen,bits,fun _=>rfl⟩)) fun r s' hq=>?_)
 obtain ⟨rfl,h2,h3,h4⟩:=hq
 exact ⟨.inl ⟨.bool true,.bool true,[],rfl,fun _=>rfl,.bool true,Att.post_true l _,fun _=>⟨List.Pairwise.nil,fun _ hm=>(nomatch hm)⟩⟩,h2,h3,h4⟩
end Jt
namespace Jt
open PySem L2
section
variable {Y:DS}
theorem M8(ds:List D)(I:Nat->DS->Prop)(U:Ok fi Y λ it C=>it=bp ds/\I 0 C)
  (ht:∀k(hk:k<ds.length) Y,I k Y->Ok (gt ds[k]) Y λ _ J=>Ok body J λ fl o=>match fl with
   | .nx=>I (k+1) o
   | .ct=>I (k+1) o
   | .bk=>Ok g o Q
   | .rt d=>Q (.rt d) o
   | .rf d=>Q (.rf d) o)(hQ:∀Y,I ds.length Y->Ok g Y Q):Ok (d8 (do let it<- fi;Jt.forM gt body it.2 it.1) g) Y Q:=by refine ck.mpr (oBind (U.mono λ it C ⟨e,h0⟩=>?_));subst e;exact mF ds I h0 (λ k hk Y h=>(ht k hk Y h).mono λ _ _ h=>h.mono λ fl _ h=>by omega) hQ
end
end Jt
namespace Jt.Tu
open PySem Jt
theorem lr:∀(h:List Int),b_ (h.map .int)=some h
 |[]=>rfl
 |a::r=>by rw[ZH];unfold b_;rw[lr r];rfl
theorem eG:∀(ks:List (List Int)),tupsD (ks.map tD)=some ks
 |[]=>rfl
 |a::r=>by show(match b_ (a.map .int),tupsD (r.map tD)with|some x,some y=>some (x::y)|_,_=>none)=_;rw[lr,eG r]
end Jt.Tu
namespace K16
open PySem L2 Jt
noncomputable def top (i:Nat):Stmt:=PySem.Challenge.pw_jointrees_k16_whole_any_ear_first.main.body.getD i (.Pass ⟨0,0,0,0⟩)
structure Bi (mg:Str->Option Value):Prop where
 all:mg "all" = none
 any:mg "any" = none
 bool:mg "bool" = none
 enumerate:mg "enumerate" = none
 int:mg "int" = none
 isinstance:mg "isinstance" = none
 len:mg "len" = none
 list:mg "list" = none
 max:mg "max" = none
 min:mg "min" = none
 range:mg "range" = none
 set:mg "set" = none
 sorted:mg "sorted" = none
 sum:mg "sum" = none
 tuple:mg "tuple" = none
 zip:mg "zip" = none
 g_MOST_COLUMNS:∃t,mg "MOST_COLUMNS" = some (.int 7 t)
 g_MOST_HEADS:∃t,mg "MOST_HEADS" = some (.int 6 t)
section
variable {P:Program} {w:World} {K:PySem.W.Frag} {mg:Str->Option Value} {base:Heap}
abbrev Dc:List Str:=["_law_script","_law_k"]
noncomputable def qH:Pk HP 2 "_law_cell" Dc (top 50) fun c k o=>Bi c.mg->o :=
 ⟨_,fun E m=>
  kP E fun nd hr=>
  (aQ (b5 (vA (aI 1) (bW m.len (aJ (aI 0) aO))) (aR (bc (ba (aI 0) (aI 1)))) bw)
  (aR (bc (d3 (jF aV (aI 1)) aV))))⟩
noncomputable abbrev wB:=qH.m
abbrev zA:List Str:=["_law_script","_law_k","_law_cell_here","_law_number","_law_mixed","_law_j"]
noncomputable def td:Pk HF 2 "_law_box" zA (top 51) fun c k o=>Bi c.mg->qH.H c k->o :=
 ⟨_,fun E m i1d=>
  kF E fun nd hr=>
  (aQ (bh 2 nd (aW i1d hr (aJ (aI 0) (aJ (aI 1) aO))))
  (aQ (b5 (fZ (mh (aI 2) aV) aV) (aR (hU (da (aJ (Dq (aI 2) aV) aO)))) bw)
  (aQ (bh 3 nd aV)
  (aQ (bh 4 nd (mh (aI 2) aV))
  (aQ (dZ (bZ rfl m.range (aJ aV aO)) (bu 5 nd) (aQ (bh 4 nd (mh (d3 (d3 (d3 (jF (aI 4) aV) (jF (jF aV (aI 5)) (aI 5))) (jF aV (aI 1))) aV) aV))
  (aR (bh 3 nd (d3 (jF (aI 3) aV) (aI 4))))))
  (aR (hU (da (aJ (aI 3) aO)))))))))⟩
noncomputable abbrev vN:=td.m
abbrev se:List Str:=["_law_box_here","_law_many","_law_digit"]
noncomputable def lG:Pk HB 2 "_law_take" se (top 52) fun c k o=>o :=
 ⟨_,fun E  =>
  kB E fun nd hr=>
  (aQ (bh 2 nd (mh (gG 0 aV) (aI 1)))
  (aQ (Aq 0 (Dq (gG 0 aV) (aI 1)))
  (aR (bc (aI 2)))))⟩
noncomputable abbrev oO:=lG.m
abbrev mW:List Str:=["_law_box_here","_law_many","_law_way","_law_size","_law_heads","_law_turn","_law_some","_law_ahead","_law_fresh","_law_left","_law_order_here"]
noncomputable def z9:Pk HB 1 "_law_layout" mW (top 53) fun c k o=>Bi c.mg->lG.H c k->o :=
 ⟨_,fun E m i00=>
  kB E fun nd hr=>
  (aQ (bh 1 nd (d3 aV (bJ 0 i00 hr (aJ aV aO))))
  (aQ (bh 2 nd (bJ 0 i00 hr (aJ aV aO)))
  (aQ (bh 3 nd (d3 aV (bJ 0 i00 hr (aJ aV aO))))
  (aQ (b5 (iW (eU (fZ (aI 2) aV) (dN (qS (aI 1) aV)))) (aQ (bh 3 nd (pK m.min (aJ (aI 1) (aJ aV aO))))
  (aR (bc (cu (aJ (aI 1) (aJ (bH m.tuple (aJ (bg (cz (p7 mW "_law_k" 11 (b7 (bZ rfl m.range (aJ (aI 3) aO))) fun _=>(bH m.tuple (aJ (bg (jM m.sorted (j4 (bg (da (aJ (aI 11) (aJ (mh (d3 (aI 11) aV) (aI 3)) aO))))))) aO))))) aO)) aO)))))) bw)
  (aQ (b5 (iW (eU (fZ (aI 2) aV) (dN (qS (aI 1) aV)))) (aQ (bh 3 nd (d3 aV (bJ 0 i00 hr (aJ (qh (pK m.min (aJ (aI 1) (aJ aV aO))) aV) aO))))
  (aR (bc (cu (aJ (aI 1) (aJ (bH m.tuple (aJ (bg (cz (p7 mW "_law_out" 11 (b7 (bZ rfl m.range (aJ (aI 3) aO))) fun _=>(bH m.tuple (aJ (bg (cz (Di (mW ++ (["_law_out"]:List Str)) "_law_k" 12 (b7 (bZ rfl m.range (aJ (aI 3) aO))) (fun _=>(gk hr (aI 12) (aI 11))) fun _=>(aI 12)))) aO))))) aO)) aO)))))) bw)
  (aQ (dQ 4 nd (da aO))
  (aQ (dZ (bZ rfl m.range (aJ (aI 3) aO)) (bu 5 nd) (aQ (lK 6 nd (Di mW "_law_column" 11 (b7 (bZ rfl m.range (aJ (aI 1) aO))) (fun _=>(fZ (bJ 0 i00 hr (aJ aV aO)) aV)) fun _=>(aI 11)))
  (aQ (b5 (iW (eU (vA (aI 2) aV) (dN (Dj hr (BC 4) (vR (bg (da aO))))))) (aQ (bh 7 nd (gG 4 (bJ 0 i00 hr (aJ (kf 4 m.len) aO))))
  (aQ (lK 8 nd (Di mW "_law_column" 11 (b7 (bU (aI 6))) (fun _=>(nv hr (bg (cz (Di (mW ++ (["_law_column"]:List Str)) "_law_head" 12 (Bo 4) (fun _=>(tj (aI 11) (aI 12))) fun _=>(aI 12)))) (bg (da aO)))) fun _=>(aI 11)))
  (aR (bh 6 nd (bg (Jb (vR (aI 8)) (vR (bg (cz (Di mW "_law_column" 11 (b7 (bU (aI 7))) (fun _=>(fZ (bJ 0 i00 hr (aJ aV aO)) aV)) fun _=>(aI 11))))))))))) bw)
  (aQ (b5 (iW (eU (fZ (aI 2) aV) (eU (Dj hr (BC 4) (vR (bg (da aO)))) (dN (fZ (bJ 0 i00 hr (aJ aV aO)) aV))))) (aR (bh 6 nd (gG 4 (bJ 0 i00 hr (aJ (kf 4 m.len) aO))))) bw)
  (aR (d9 4 (aJ (K8 (bH m.tuple (aJ (bg (oU m.sorted m.set (j4 (aI 6)))) aO)) (gx (cu (aJ (bJ 0 i00 hr (aJ (aI 1) aO)) aO)))) aO)))))))
  (aQ (dQ 9 nd (l0 m.list m.range (aJ (aI 3) aO)))
  (aQ (lK 10 nd (p7 (["_law_box_here","_law_many","_law_way","_law_size","_law_heads","?5","_law_some","_law_ahead","_law_fresh","_law_left","_law_order_here"]:List Str) "_law_turn" 11 (b7 (bZ rfl m.range (aJ (aI 3) aO))) fun _=>(BU 9 (aJ (bJ 0 i00 hr (aJ (kf 9 m.len) aO)) aO))))
  (aR (bc (cu (aJ (aI 1) (aJ (bH m.tuple (aJ (bg (cz (p7 mW "_law_number" 11 (b7 (bU (aI 10))) fun _=>(gG 4 (aI 11))))) aO)) aO))))))))))))))⟩
noncomputable abbrev Kg:=z9.m
abbrev IU:List Str:=["layout"]
noncomputable def mz:Pk HP 1 "all_numbers" IU (top 18) fun c k o=>Bi c.mg->o :=
 ⟨_,fun E m=>
  kP E fun nd hr=>
  (aR (bc (jx m.tuple m.range (aJ (bW m.len (aJ (ba (aI 0) aV) aO)) aO))))⟩
noncomputable abbrev Bg:=mz.m
abbrev rJ:List Str:=["layout","left","number","heads","others"]
noncomputable def nC:Pk HP 3 "shared_by" rJ (top 19) fun c k o=>Bi c.mg->o :=
 ⟨_,fun E m=>
  kP E fun nd hr=>
  (aQ (bh 3 nd (ba (aI 0) aV))
  (aQ (bh 4 nd (bg (cz (Di rJ "other" 5 (b7 (bU (aI 1))) (fun _=>(gk hr (aI 5) (aI 2))) fun _=>(ba (aI 3) (aI 5))))))
  (aR (bc (bH m.tuple (aJ (bg (cz (Di rJ "column" 5 (b7 (bU (ba (aI 3) (aI 2)))) (fun _=>(bT (KR m.any (aJ (bg (cz (p7 (rJ ++ (["column"]:List Str)) "head" 6 (b7 (bU (aI 4))) fun _=>(vD (aI 5) (aI 6))))) aO)))) fun _=>(aI 5)))) aO))))))⟩
noncomputable abbrev CY:=nC.m
abbrev zH:List Str:=["things","wanted"]
noncomputable def sX:Pk HP 2 "has_all" zH (top 14) fun c k o=>Bi c.mg->o :=
 ⟨_,fun E m=>
  kP E fun nd hr=>
  (aR (bc (kL m.all (aJ (bg (cz (p7 zH "one" 2 (b7 (bU (aI 1))) fun _=>(vD (aI 2) (aI 0))))) aO))))⟩
noncomputable abbrev Dk:=sX.m
abbrev C8:List Str:=["layout","left","number","heads","shared"]
noncomputable def oA:Pk HF 3 "holders_of" C8 (top 20) fun c k o=>sX.H c k->nC.H c k->o :=
 ⟨_,fun E i1e i07=>
  kF E fun nd hr=>
  (aQ (bh 3 nd (ba (aI 0) aV))
  (aQ (bh 4 nd (aW i07 hr (aJ (aI 0) (aJ (aI 1) (aJ (aI 2) aO)))))
  (aR (hU (cz (Di C8 "other" 5 (b7 (bU (aI 1))) (fun _=>(iW (eU (gk hr (aI 5) (aI 2)) (dN (bT (aW i1e hr (aJ (ba (aI 3) (aI 5)) (aJ (aI 4) aO)))))))) fun _=>(aI 5)))))))⟩
noncomputable abbrev zB:=oA.m
abbrev Cf:List Str:=["layout","left","found","number","holders"]
noncomputable def oE:Pk HF 2 "ears_among" Cf (top 21) fun c k o=>oA.H c k->o :=
 ⟨_,fun E i08=>
  kF E fun nd hr=>
  (aQ (dQ 2 nd (da aO))
  (aQ (dZ (bU (aI 1)) (bu 3 nd) (aQ (bh 4 nd (bg (dA i08 hr (aJ (aI 0) (aJ (aI 1) (aJ (aI 3) aO))))))
  (aR (b5 (bT (aI 4)) (aR (d9 2 (aJ (cu (aJ (aI 3) (aJ (ba (aI 4) aV) aO))) aO))) bw))))
  (aR (hU (tH 2)))))⟩
noncomputable abbrev vt:=oE.m
abbrev De:List Str:=["left","gone"]
noncomputable def oI:Pk HP 2 "all_but" De (top 23) fun c k o=>Bi c.mg->o :=
 ⟨_,fun E m=>
  kP E fun nd hr=>
  (aR (bc (bH m.tuple (aJ (bg (cz (Di De "number" 2 (b7 (bU (aI 0))) (fun _=>(gk hr (aI 2) (aI 1))) fun _=>(aI 2)))) aO))))⟩
noncomputable abbrev BH:=oI.m
abbrev Ip:List Str:=["layout","left","steps","found"]
noncomputable def n_:Pk HF 1 "steps_for" Ip (top 28) fun c k o=>oI.H c k->mz.H c k->oE.H c k->o :=
 ⟨_,fun E i09 i01 i05=>
  kF E fun nd hr=>
  (aQ (bh 1 nd (aW i01 hr (aJ (aI 0) aO)))
  (aQ (dQ 2 nd (da aO))
  (aQ (bh 3 nd (bg (dA i05 hr (aJ (aI 0) (aJ (aI 1) aO)))))
  (aQ (qG 8 (bT (aI 3)) (aQ (d9 2 (aJ (ba (aI 3) aV) aO))
  (aQ (bh 1 nd (aW i09 hr (aJ (aI 1) (aJ (ba (ba (aI 3) aV) aV) aO))))
  (aR (bh 3 nd (bg (dA i05 hr (aJ (aI 0) (aJ (aI 1) aO)))))))))
  (aR (hU (tH 2)))))))⟩
noncomputable abbrev Bh:=n_.m
abbrev HG:List Str:=["thing"]
noncomputable def qR:Pk HP 1 "is_whole" HG (top 8) fun c k o=>Bi c.mg->o :=
 ⟨_,fun E m=>
  kP E fun nd hr=>
  (aR (bc (g0 (mI .int m.isinstance m.int (aI 0)) (gx (Jg (mI .bool m.isinstance m.bool (aI 0)))))))⟩
noncomputable abbrev BW:=qR.m
abbrev Aa:List Str:=["thing","many"]
noncomputable def l_:Pk HP 2 "is_below" Aa (top 9) fun c k o=>qR.H c k->o :=
 ⟨_,fun E i1f=>
  kP E fun nd hr=>
  (aR (bc (g0 (aW i1f hr (aJ (aI 0) aO)) (gx (Gr aV (aI 0) (aI 1))))))⟩
noncomputable abbrev wk:=l_.m
abbrev BR:List Str:=["thing","many"]
noncomputable def oM:Pk HP 2 "are_below" BR (top 10) fun c k o=>Bi c.mg->l_.H c k->o :=
 ⟨_,fun E m i02=>
  kP E fun nd hr=>
  (aR (bc (g0 (mI .tup m.isinstance m.tuple (aI 0)) (gx (kL m.all (aJ (bg (cz (p7 BR "part" 2 (b7 (bU (aI 0))) fun _=>(aW i02 hr (aJ (aI 2) (aJ (aI 1) aO)))))) aO))))))⟩
noncomputable abbrev Cz:=oM.m
abbrev N3:List Str:=["thing","many"]
noncomputable def yc:Pk HP 2 "is_two_below" N3 (top 11) fun c k o=>Bi c.mg->oM.H c k->o :=
 ⟨_,fun E m i0a=>
  kP E fun nd hr=>
  (aR (bc (g0 (aW i0a hr (aJ (aI 0) (aJ (aI 1) aO))) (gx (ur (bW m.len (aJ (aI 0) aO)) aV)))))⟩
noncomputable abbrev JX:=yc.m
abbrev IA:List Str:=["layout","left","thing","ear","holder"]
noncomputable def vG:Pk HP 3 "is_step" IA (top 24) fun c k o=>Bi c.mg->oA.H c k->yc.H c k->o :=
 ⟨_,fun E m i08 G_q6=>
  kP E fun nd hr=>
  (aQ (b5 (dH (bT (aW G_q6 hr (aJ (aI 2) (aJ (bW m.len (aJ (ba (aI 0) aV) aO)) aO))))) (aR (bc eD)) bw)
  (aQ (pN (aI 2) (eS (n:=2) (bC (bu 3 nd) (bC (bu 4 nd) du))))
  (aR (bc (g0 (vD (aI 3) (aI 1)) (gx (vD (aI 4) (bg (dA i08 hr (aJ (aI 0) (aJ (aI 1) (aJ (aI 3) aO))))))))))))⟩
noncomputable abbrev Iq:=vG.m
abbrev Mu:List Str:=["layout","thing","left","step"]
noncomputable def xR:Pk HP 2 "left_or_none" Mu (top 25) fun c k o=>Bi c.mg->oI.H c k->mz.H c k->vG.H c k->o :=
 ⟨_,fun E m i09 i01 i1g=>
  kP E fun nd hr=>
  (aQ (b5 (dH (bT (mI .lst m.isinstance m.list (aI 1)))) (aR (bc jJ)) bw)
  (aQ (bh 2 nd (aW i01 hr (aJ (aI 0) aO)))
  (aQ (dZ (bU (aI 1)) (bu 3 nd) (aQ (b5 (dH (bT (aW i1g hr (aJ (aI 0) (aJ (aI 2) (aJ (aI 3) aO)))))) (aR (bc jJ)) bw)
  (aR (bh 2 nd (aW i09 hr (aJ (aI 2) (aJ (ba (aI 3) aV) aO)))))))
  (aR (bc (aI 2))))))⟩
noncomputable abbrev Kc:=xR.m
abbrev HQ:List Str:=["layout","steps","left"]
noncomputable def og:Pk HP 2 "left_by" HQ (top 27) fun c k o=>xR.H c k->o :=
 ⟨_,fun E G_q5=>
  kP E fun nd hr=>
  (aQ (bh 2 nd (aW G_q5 hr (aJ (aI 0) (aJ (aI 1) aO))))
  (aQ (b5 (Jy (aI 2) jJ) (aR gS) bw)
  (aR (bc (aI 2)))))⟩
noncomputable abbrev Ic:=og.m
abbrev sv:List Str:=["layout","left"]
noncomputable def rB:Pk HP 1 "bare_core" sv (top 29) fun c k o=>Bi c.mg->og.H c k->nC.H c k->n_.H c k->o :=
 ⟨_,fun E m i0b i07 i0c=>
  kP E fun nd hr=>
  (aQ (bh 1 nd (aW i0b hr (aJ (aI 0) (aJ (bg (dA i0c hr (aJ (aI 0) aO))) aO))))
  (aQ (b5 (fZ (bW m.len (aJ (aI 1) aO)) aV) (aR (bc (cu aO))) bw)
  (aR (bc (bH m.tuple (aJ (bg (Jt.Tu.df_sortedU m.sorted (j4 (bg (cz (p7 sv "number" 2 (b7 (bU (aI 1))) fun _=>(aW i07 hr (aJ (aI 0) (aJ (aI 1) (aJ (aI 2) aO)))))))))) aO))))))⟩
noncomputable abbrev vo:=rB.m
abbrev A3:List Str:=["_law_box_here","_law_many","_law_left"]
noncomputable def rK:Pk HB 2 "_law_order" A3 (top 54) fun c k o=>Bi c.mg->lG.H c k->o :=
 ⟨_,fun E m i00=>
  kB E fun nd hr=>
  (aQ (dQ 2 nd (l0 m.list m.range (aJ (aI 1) aO)))
  (aR (bc (bH m.tuple (aJ (bg (cz (p7 A3 "_law_place" 3 (b7 (bZ rfl m.range (aJ (aI 1) aO))) fun _=>(BU 2 (aJ (bJ 0 i00 hr (aJ (kf 2 m.len) aO)) aO))))) aO)))))⟩
noncomputable abbrev A6:=rK.m
abbrev Az:List Str:=["layout"]
noncomputable def qP:Pk HF 1 "ears" Az (top 22) fun c k o=>mz.H c k->oE.H c k->o :=
 ⟨_,fun E i01 i05=>
  kF E fun nd hr=>
  (aR (hU (dA i05 hr (aJ (aI 0) (aJ (aW i01 hr (aJ (aI 0) aO)) aO)))))⟩
noncomputable abbrev zT:=qP.m
abbrev B8:List Str:=["_law_box_here","_law_layout_here","_law_left","_law_found","_law_alone","_law_some","_law_ear","_law_holder"]
noncomputable def qA:Pk HB 2 "_law_gone" B8 (top 55) fun c k o=>Bi c.mg->lG.H c k->qP.H c k->o :=
 ⟨_,fun E m i00 i1h=>
  kB E fun nd hr=>
  (aQ (dQ 2 nd (l0 m.list m.range (aJ (bW m.len (aJ (ba (aI 1) aV) aO)) aO)))
  (aQ (dQ 3 nd (da aO))
  (aR (qG 9 (bT eD) (aQ (bh 4 nd (bH m.tuple (aJ (bg (cz (p7 B8 "_law_number" 8 (Bo 2) fun _=>(ba (ba (aI 1) aV) (aI 8))))) aO)))
  (aQ (bh 5 nd (bg (dA i1h hr (aJ (cu (aJ (ba (aI 1) aV) (aJ (aI 4) aO))) aO))))
  (aQ (b5 (nv hr (aI 5) (bg (da aO))) (aR (bc (bg (tH 3)))) bw)
  (aQ (pN (ba (aI 5) (bJ 0 i00 hr (aJ (bW m.len (aJ (aI 5) aO)) aO))) (eS (n:=2) (bC (bu 6 nd) (bC (bu 7 nd) du))))
  (aQ (d9 3 (aJ (cu (aJ (gG 2 (aI 6)) (aJ (gG 2 (aI 7)) aO))) aO))
  (aR (yC 2 (aJ (gG 2 (aI 6)) aO))))))))))))⟩
noncomputable abbrev IJ:=qA.m
abbrev J0:List Str:=["_law_layout_here","_law_core","_law_one","_law_other","_law_apart"]
noncomputable def A9:Pk HP 2 "_law_core_right" J0 (top 56) fun c k o=>Bi c.mg->o :=
 ⟨_,fun E m=>
  kP E fun nd hr=>
  (aQ (dZ (bZ rfl m.range (aJ (bW m.len (aJ (aI 1) aO)) aO)) (bu 2 nd) (aR (dZ (bZ rfl m.range (aJ (bW m.len (aJ (aI 1) aO)) aO)) (bu 3 nd) (aQ (lK 4 nd (Di J0 "_law_column" 5 (b7 (bU (ba (aI 1) (aI 2)))) (fun _=>(CV (aI 5) (ba (aI 1) (aI 3)))) fun _=>(aI 5)))
  (aR (b5 (iW (eU (gk hr (aI 2) (aI 3)) (dN (nv hr (aI 4) (bg (da aO)))))) (aR (bc eD)) bw))))))
  (aR (bc (Iy hr (aI 1) (bH m.tuple (aJ (bg (Jt.Tu.df_sortedU m.sorted (j4 (aI 1)))) aO))))))⟩
noncomputable abbrev NG:=A9.m
abbrev vQ:List Str:=["labels","one","other","least","most"]
noncomputable def nZ:Pk HP 3 "linked" vQ (top 16) fun c k o=>Bi c.mg->o :=
 ⟨_,fun E m=>
  kP E fun nd hr=>
  (aQ (bh 3 nd (pK m.min (aJ (ba (aI 0) (aI 1)) (aJ (ba (aI 0) (aI 2)) aO))))
  (aQ (bh 4 nd (uE m.max (aJ (ba (aI 0) (aI 1)) (aJ (ba (aI 0) (aI 2)) aO))))
  (aR (bc (bH m.tuple (aJ (bg (cz (p7 vQ "label" 5 (b7 (bU (aI 0))) fun _=>(LX (nv hr (aI 5) (aI 4)) (aI 3) (aI 5))))) aO))))))⟩
noncomputable abbrev Dr:=nZ.m
abbrev MD:List Str:=["many","pairs","labels","one","other"]
noncomputable def zy:Pk HP 2 "has_no_ring" MD (top 41) fun c k o=>Bi c.mg->nZ.H c k->o :=
 ⟨_,fun E m i03=>
  kP E fun nd hr=>
  (aQ (bh 2 nd (jx m.tuple m.range (aJ (aI 0) aO)))
  (aQ (dZ (bU (aI 1)) (eS (n:=2) (bC (bu 3 nd) (bC (bu 4 nd) du))) (aQ (b5 (nv hr (ba (aI 2) (aI 3)) (ba (aI 2) (aI 4))) (aR (bc eD)) bw)
  (aR (bh 2 nd (aW i03 hr (aJ (aI 2) (aJ (aI 3) (aJ (aI 4) aO))))))))
  (aR (bc eD))))⟩
noncomputable abbrev My:=zy.m
abbrev Ay:List Str:=["things"]
noncomputable def rX:Pk HP 1 "is_rising" Ay (top 15) fun c k o=>Bi c.mg->o :=
 ⟨_,fun E m=>
  kP E fun nd hr=>
  (aR (bc (kL m.all (aJ (bg (cz (O6 (n:=2) Ay ["one","other"] 1 (b7 (K1 m.zip (aJ (aI 0) (aJ (B5 (aI 0) (E4 aV) EH) aO)))) (fun nd _=>(eS (n:=2) (bC (bu 1 nd) (bC (bu 2 nd) du)))) (fun _=>jg) fun _=>(Jt.Tu.de_ltU hr (aI 1) (aI 2))))) aO))))⟩
noncomputable abbrev zo:=rX.m
abbrev IL:List Str:=["layout","thing"]
noncomputable def qZ:Pk HP 2 "is_pair" IL (top 40) fun c k o=>Bi c.mg->yc.H c k->o :=
 ⟨_,fun E m G_q6=>
  kP E fun nd hr=>
  (aR (bc (g0 (aW G_q6 hr (aJ (aI 1) (aJ (bW m.len (aJ (ba (aI 0) aV) aO)) aO))) (gx (MZ (ba (aI 1) aV) (ba (aI 1) aV))))))⟩
noncomputable abbrev H_:=qZ.m
abbrev wg:List Str:=["layout","thing","many"]
noncomputable def ra:Pk HP 2 "is_tree" wg (top 42) fun c k o=>Bi c.mg->zy.H c k->qZ.H c k->rX.H c k->o :=
 ⟨_,fun E m G_q9 i1i i1j=>
  kP E fun nd hr=>
  (aQ (bh 2 nd (bW m.len (aJ (ba (aI 0) aV) aO)))
  (aQ (b5 (iW (qm (dH (bT (mI .tup m.isinstance m.tuple (aI 1)))) (mD (zX (bW m.len (aJ (aI 1) aO)) (qh (aI 2) aV))))) (aR (bc eD)) bw)
  (aQ (b5 (iW (qm (dH (bT (kL m.all (aJ (bg (cz (p7 wg "pair" 3 (b7 (bU (aI 1))) fun _=>(aW i1i hr (aJ (aI 0) (aJ (aI 3) aO)))))) aO)))) (mD (dH (bT (aW i1j hr (aJ (aI 1) aO))))))) (aR (bc eD)) bw)
  (aR (bc (aW G_q9 hr (aJ (aI 2) (aJ (aI 1) aO))))))))⟩
noncomputable abbrev BX:=ra.m
abbrev KZ:List Str:=["numbers","tree","inner"]
noncomputable def Dd:Pk HP 2 "hang_together" KZ (top 43) fun c k o=>Bi c.mg->o :=
 ⟨_,fun E m=>
  kP E fun nd hr=>
  (aQ (lK 2 nd (O6 (n:=2) KZ ["one","other"] 3 (b7 (bU (aI 1))) (fun nd _=>(eS (n:=2) (bC (bu 3 nd) (bC (bu 4 nd) du)))) (fun _=>oW (iW (eU (tj (aI 3) (aI 0)) (dN (tj (aI 4) (aI 0)))))) fun _=>(aI 3)))
  (aR (bc (LR (bW m.len (aJ (aI 2) aO)) (qh (bW m.len (aJ (aI 0) aO)) aV)))))⟩
noncomputable abbrev Nh:=Dd.m
abbrev zU:List Str:=["layout","column","many","heads"]
noncomputable def qU:Pk HP 2 "heads_of" zU (top 34) fun c k o=>Bi c.mg->l_.H c k->o :=
 ⟨_,fun E m i02=>
  kP E fun nd hr=>
  (aQ (pN (aI 0) (eS (n:=2) (bC (bu 2 nd) (bC (bu 3 nd) du))))
  (aQ (b5 (dH (bT (aW i02 hr (aJ (aI 1) (aJ (aI 2) aO))))) (aR gS) bw)
  (aR (bc (bH m.tuple (aJ (bg (cz (O6 (n:=2) zU ["number","head"] 4 (b7 (vO m.enumerate (aJ (aI 3) aO))) (fun nd _=>(eS (n:=2) (bC (bu 4 nd) (bC (bu 5 nd) du)))) (fun _=>oW (tj (aI 1) (aI 5))) fun _=>(aI 4)))) aO))))))⟩
noncomputable abbrev HV:=qU.m
abbrev D8:List Str:=["layout","thing"]
noncomputable def D3:Pk HP 2 "is_join_tree" D8 (top 44) fun c k o=>Bi c.mg->Dd.H c k->qU.H c k->ra.H c k->o :=
 ⟨_,fun E m G_q2 i0d i1k=>
  kP E fun nd hr=>
  (aQ (b5 (dH (bT (aW i1k hr (aJ (aI 0) (aJ (aI 1) aO))))) (aR (bc eD)) bw)
  (aR (bc (kL m.all (aJ (bg (cz (p7 D8 "column" 2 (b7 (bZ rfl m.range (aJ (ba (aI 0) aV) aO))) fun _=>(aW G_q2 hr (aJ (aW i0d hr (aJ (aI 0) (aJ (aI 2) aO))) (aJ (aI 1) aO)))))) aO)))))⟩
noncomputable abbrev LH:=D3.m
abbrev IK:List Str:=["things"]
noncomputable def sD:Pk HP 1 "are_unlike" IK (top 12) fun c k o=>Bi c.mg->o :=
 ⟨_,fun E m=>
  kP E fun nd hr=>
  (aR (bc (ur (yD m.len m.set (j4 (aI 0))) (bW m.len (aJ (aI 0) aO)))))⟩
noncomputable abbrev C7:=sD.m
abbrev MX:List Str:=["thing","many"]
noncomputable def uA:Pk HP 2 "are_all_below" MX (top 13) fun c k o=>Bi c.mg->oM.H c k->sD.H c k->o :=
 ⟨_,fun E m i0a i1l=>
  kP E fun nd hr=>
  (aR (bc (g0 (aW i0a hr (aJ (aI 0) (aJ (aI 1) aO))) (g0 (ur (bW m.len (aJ (aI 0) aO)) (aI 1)) (gx (aW i1l hr (aJ (aI 0) aO)))))))⟩
noncomputable abbrev uG:=uA.m
abbrev xr:List Str:=["heads","places"]
noncomputable def ny:Pk HP 2 "moved" xr (top 36) fun c k o=>Bi c.mg->o :=
 ⟨_,fun E m=>
  kP E fun nd hr=>
  (aR (bc (bH m.tuple (aJ (bg (cz (p7 xr "head" 2 (b7 (bU (aI 0))) fun _=>(bH m.tuple (aJ (bg (jM m.sorted (j4 (bg (cz (p7 (xr ++ (["head"]:List Str)) "column" 3 (b7 (bU (aI 2))) fun _=>(dY hr (aI 1) (aI 3)))))))) aO))))) aO))))⟩
noncomputable abbrev zP:=ny.m
abbrev qK:List Str:=["layout","order","many","heads"]
noncomputable def wZ:Pk HP 2 "named" qK (top 37) fun c k o=>Bi c.mg->uA.H c k->ny.H c k->o :=
 ⟨_,fun E m G_q3 i0e=>
  kP E fun nd hr=>
  (aQ (pN (aI 0) (eS (n:=2) (bC (bu 2 nd) (bC (bu 3 nd) du))))
  (aQ (b5 (dH (bT (aW G_q3 hr (aJ (aI 1) (aJ (aI 2) aO))))) (aR gS) bw)
  (aR (bc (cu (aJ (aI 2) (aJ (aW i0e hr (aJ (aI 3) (aJ (CJ (N':=qK) (own:=["place","column"]) (lo:=4) hr (b7 (vO m.enumerate (aJ (aI 1) aO))) (fun _ _ _ _=>(eS (n:=2) (bC (bu 4 (show (qK ++ (["place","column"]:List Str):List Str).Nodup by decide +kernel)) (bC (bu 5 (show (qK ++ (["place","column"]:List Str):List Str).Nodup by decide +kernel)) du)))) (fun _ _ _ _=>jg) (fun _ _ _ _=>(aI 5)) (fun _ _ _ _=>(aI 4))) aO))) aO)))))))⟩
noncomputable abbrev Ih:=wZ.m
abbrev Dv:List Str:=["layout","thing"]
noncomputable def qF:Pk HP 2 "are_steps" Dv (top 26) fun c k o=>xR.H c k->o :=
 ⟨_,fun E G_q5=>
  kP E fun nd hr=>
  (aR (bc (vz (aW G_q5 hr (aJ (aI 0) (aJ (aI 1) aO))) jJ)))⟩
noncomputable abbrev xa:=qF.m
abbrev IV:List Str:=["layout","thing"]
noncomputable def wD:Pk HP 2 "need_head" IV (top 33) fun c k o=>Bi c.mg->l_.H c k->o :=
 ⟨_,fun E m i02=>
  kP E fun nd hr=>
  (aR (b5 (dH (bT (aW i02 hr (aJ (aI 1) (aJ (bW m.len (aJ (ba (aI 0) aV) aO)) aO))))) (aR gS) bw))⟩
noncomputable abbrev Iu:=wD.m
abbrev CU:List Str:=["layout","one","other","heads"]
noncomputable def vw:Pk HP 3 "common" CU (top 35) fun c k o=>Bi c.mg->wD.H c k->o :=
 ⟨_,fun E m i0s=>
  kP E fun nd hr=>
  (aQ (xt (aW i0s hr (aJ (aI 0) (aJ (aI 1) aO))))
  (aQ (xt (aW i0s hr (aJ (aI 0) (aJ (aI 2) aO))))
  (aQ (bh 3 nd (ba (aI 0) aV))
  (aR (bc (bH m.tuple (aJ (bg (cz (Di CU "column" 4 (b7 (bU (ba (aI 3) (aI 1)))) (fun _=>(tj (aI 4) (ba (aI 3) (aI 2)))) fun _=>(aI 4)))) aO)))))))⟩
noncomputable abbrev Iw:=vw.m
abbrev Bl:List Str:=["layout","many"]
noncomputable def AJ:Pk HP 1 "pair_weights" Bl (top 45) fun c k o=>Bi c.mg->vw.H c k->o :=
 ⟨_,fun E m i1m=>
  kP E fun nd hr=>
  (aQ (bh 1 nd (bW m.len (aJ (ba (aI 0) aV) aO)))
  (aR (bc (yi (N':=Bl) (own:=["one","other"]) (lo:=2) hr (b7 (bZ rfl m.range (aJ (aI 1) aO))) (fun _ _ _ _=>(bu 2 (show (Bl ++ (["one","other"]:List Str):List Str).Nodup by decide +kernel))) (fun _ _ _ _=>jg) (fun _ _ _ _=>(xF rfl m.range (aJ (d3 (aI 2) aV) (aJ (aI 1) aO)))) (fun _ _ _ _=>(bu 3 (show (Bl ++ (["one","other"]:List Str):List Str).Nodup by decide +kernel))) (fun _ _ _ _=>jg) (fun _ _ _ _=>(cu (aJ (aI 2) (aJ (aI 3) aO)))) (fun _ _ _ _=>(bW m.len (aJ (aW i1m hr (aJ (aI 0) (aJ (aI 2) (aJ (aI 3) aO)))) aO)))))))⟩
noncomputable abbrev J8:=AJ.m
abbrev zm:List Str:=["layout"]
noncomputable def qV:Pk HP 1 "due_weight" zm (top 48) fun c k o=>Bi c.mg->qU.H c k->o :=
 ⟨_,fun E m i0d=>
  kP E fun nd hr=>
  (aR (bc (KY m.sum (aJ (bg (cz (p7 zm "column" 1 (b7 (bZ rfl m.range (aJ (ba (aI 0) aV) aO))) fun _=>(uE m.max (aJ (qh (bW m.len (aJ (aW i0d hr (aJ (aI 0) (aJ (aI 1) aO))) aO)) aV) (aJ aV aO)))))) aO))))⟩
noncomputable abbrev z_:=qV.m
noncomputable abbrev BO:Stmt:=top 46
abbrev sV:List Str:=["weights","labels","total","one","other"]
theorem jK:cg sV ["weights","labels"] (aX BO):=⟨rfl,rfl,rfl,by decide +kernel,rfl,by decide +kernel,by decide +kernel⟩
noncomputable def qM:M Fl :=
 (d8 (uj 2 (pure (.int 0)))
  (d8 (
  do let it <- (do let x <- (do let xs <- (pZ (cB 0) (m1 uV (m2 ir (cB 0) (cB 5))));pure (D.lst xs));lift (df x));forM (jZ 2 (md (ka 3) (md (ka 4) vH))) (zw ((m2 (km true) (m2 ir (cB 1) (cB 3)) (m2 ir (cB 1) (cB 4))) >>= qk) (d8 (uj 1 (mC (dg 3 (bL vQ Dr)) (iG (cB 1) (iG (cB 3) (iG (cB 4) (pure []))))))
  (uj 2 (m2 lL (cB 2) (m2 ir (cB 0) (Cg (iG (cB 3) (iG (cB 4) (pure [])))))))) (pure .nx)) it.2 it.1)
  (do let d <- (cB 2);pure (Fl.rt d))))
variable (P w K mg base) in
noncomputable abbrev gN (k:Nat):Prop:=Kn P w K mg base eZ k "most_more" ["weights","labels"] (zJ 2 (bL sV qM))
theorem Jk {k:Nat} {c_l P_l:Addr} (LK:Kh K mg c_l P_l) (E:Ent K mg "most_more" ["weights","labels"] BO) (m:Bi mg) (i03:nZ.H ⟨P,w,K,mg,base⟩ k):gN P w K mg base (k + 1) :=
 PH LK E jK fun _ A outer s H E hr=>
  (aQ (bh 2 jK.nd aV)
  (aQ (dZ (bU (bg (q0 (N':=sV) (px:="pair") hr LK.toLamK rfl m.sorted (aI 0) (fun _ _ _ _ _ hu=>(Lg (xY hu (aI 0) (aI 5))))))) (eS (bC (bu 3 jK.nd) (bC (bu 4 jK.nd) du))) (aR (b5 (gk hr (dY hr (aI 1) (aI 3)) (dY hr (aI 1) (aI 4))) (aQ (bh 1 jK.nd (aW i03 hr (aJ (aI 1) (aJ (aI 3) (aJ (aI 4) aO)))))
  (aR (FP 2 jK.nd (dY hr (aI 0) (cu (aJ (aI 3) (aJ (aI 4) aO))))))) bw)))
  (aR (bc (aI 2)))))
abbrev JM:List Str:=["layout","weights","labels","due","taken","one","other","weight","then"]
noncomputable def C9:Pk HP 1 "first_join_tree" JM (top 47) fun c k o=>Bi c.mg->qV.H c k->nZ.H c k->gN c.P c.w c.K c.mg c.base k->AJ.H c k->o :=
 ⟨_,fun E m i1n i03 i0t G_q7=>
  kP E fun nd hr=>
  (aQ (bh 1 nd (aW G_q7 hr (aJ (aI 0) aO)))
  (aQ (bh 2 nd (jx m.tuple m.range (aJ (bW m.len (aJ (dY hr (aI 0) aV) aO)) aO)))
  (aQ (bh 3 nd (aW i1n hr (aJ (aI 0) aO)))
  (aQ (b5 (gk hr (aW i0t hr (aJ (aI 1) (aJ (aI 2) aO))) (aI 3)) (aR (bc jJ)) bw)
  (aQ (dQ 4 nd (da aO))
  (aQ (dZ (Ez (aI 1)) (eS (n:=2) (bC (bu 5 nd) (bC (bu 6 nd) du))) (aQ (bh 7 nd (dY hr (aI 1) (cu (aJ (aI 5) (aJ (aI 6) aO)))))
  (aR (b5 (gk hr (dY hr (aI 2) (aI 5)) (dY hr (aI 2) (aI 6))) (aQ (bh 8 nd (aW i03 hr (aJ (aI 2) (aJ (aI 5) (aJ (aI 6) aO)))))
  (aR (b5 (fZ (d3 (aI 7) (aW i0t hr (aJ (aI 1) (aJ (aI 8) aO)))) (aI 3)) (aQ (d9 4 (aJ (cu (aJ (aI 5) (aJ (aI 6) aO))) aO))
  (aQ (bh 2 nd (aI 8))
  (aR (D7 3 nd (aI 7))))) bw))) bw))))
  (aR (bc (yG 4 m.tuple)))))))))⟩
noncomputable abbrev Gp:=C9.m
abbrev HR:List Str:=["one","other","many","heads"]
noncomputable def sJ:Pk HP 2 "beside" HR (top 38) fun c k o=>Bi c.mg->ny.H c k->o :=
 ⟨_,fun E m i0e=>
  kP E fun nd hr=>
  (aQ (bh 2 nd (d3 (ba (aI 0) aV) (ba (aI 1) aV)))
  (aQ (bh 3 nd (G_ (ba (aI 0) aV) (aW i0e hr (aJ (ba (aI 1) aV) (aJ (bg (yk m.list m.range (aJ (ba (aI 0) aV) (aJ (aI 2) aO)))) aO)))))
  (aQ (b5 (iW (qm (qS (aI 2) (sf m.g_MOST_COLUMNS)) (mD (qS (bW m.len (aJ (aI 3) aO)) (sf m.g_MOST_HEADS))))) (aR gS) bw)
  (aR (bc (cu (aJ (aI 2) (aJ (aI 3) aO))))))))⟩
noncomputable abbrev IC:=sJ.m
abbrev oj:List Str:=["_law_script","_law_k","_law_box_here","_law_layout_here","_law_told","_law_core","_law_steps","_law_left","_law_alone","_law_pairs","_law_order_here","_law_due","_law_head"]
theorem dJ:cg oj ["_law_script"] (aX (top 57)):=⟨rfl,rfl,rfl,by decide +kernel,rfl,by decide +kernel,by decide +kernel⟩
noncomputable def AG:Qk oj (top 57) fun c k o=>Bi c.mg->td.H c k->A9.H c k->qA.H c k->z9.H c k->rK.H c k->qF.H c k->rB.H c k->sJ.H c k->C9.H c k->D3.H c k->og.H c k->wZ.H c k->n_.H c k->o :=
 ⟨_,fun hr m i1o G_q1 i0u G_q8 i1p i1q i0f i1r G_q0 G_q4 i0b i1t i0c=>
  (aQ (dZ (bZ rfl m.range (aJ (uE m.max (aJ aV (aJ (pK m.min (aJ (bW m.len (aJ (aI 0) aO)) (aJ aV aO))) aO))) aO)) (bu 1 dJ.nd) (aQ (dQ 2 dJ.nd (dA i1o hr (aJ (aI 0) (aJ (aI 1) aO))))
  (aQ (bh 3 dJ.nd (bJ 2 G_q8 hr aO))
  (aQ (bh 4 dJ.nd (bg (dA i0c hr (aJ (aI 3) aO))))
  (aQ (bh 5 dJ.nd (aW i0f hr (aJ (aI 3) aO)))
  (aQ (dZ (bU (bg (da (aJ (bJ 2 i0u hr (aJ (aI 3) aO)) (aJ (bJ 2 i0u hr (aJ (aI 3) aO)) (aJ (aI 4) aO)))))) (bu 6 dJ.nd) (aQ (b5 (iW (qm (dH (bT (aW i1q hr (aJ (aI 3) (aJ (aI 6) aO))))) (mD (zX (bW m.len (aJ (aI 6) aO)) (bW m.len (aJ (aI 4) aO)))))) (aR (bc eD)) bw)
  (aQ (bh 7 dJ.nd (aW i0b hr (aJ (aI 3) (aJ (aI 6) aO))))
  (aQ (bh 8 dJ.nd (bH m.tuple (aJ (bg (cz (p7 oj "_law_number" 13 (b7 (bU (aI 7))) fun _=>(ba (ba (aI 3) aV) (aI 13))))) aO)))
  (aR (b5 (iW (eU (qS (bW m.len (aJ (aI 7) aO)) aV) (dN (gk hr (aW i0f hr (aJ (cu (aJ (ba (aI 3) aV) (aJ (aI 8) aO))) aO)) (aI 5))))) (aR (bc eD)) bw))))))
  (aQ (b5 (iW (qm (dH (bT (aW G_q1 hr (aJ (aI 3) (aJ (aI 5) aO))))) (mD (gk hr (Iy hr (aI 5) (cu aO)) (vz (aW G_q0 hr (aJ (aI 3) aO)) jJ))))) (aR (bc eD)) bw)
  (aQ (bh 9 dJ.nd (bH m.tuple (aJ (bg (Jt.Tu.df_sortedU m.sorted (j4 (bg (cz (p7 oj "_law_step" 13 (b7 (bU (aI 4))) fun _=>(cu (aJ (Gd m.min (aJ (aI 13) aO)) (aJ (Gb m.max (aJ (aI 13) aO)) aO))))))))) aO)))
  (aQ (b5 (iW (eU (nv hr (aI 5) (cu aO)) (dN (dH (bT (aW G_q4 hr (aJ (aI 3) (aJ (aI 9) aO)))))))) (aR (bc eD)) bw)
  (aQ (bh 10 dJ.nd (bJ 2 i1p hr (aJ (ba (aI 3) aV) aO)))
  (aQ (dQ 11 dJ.nd (da aO))
  (aQ (dZ (bU (aI 5)) (bu 12 dJ.nd) (aR (d9 11 (aJ (bH m.tuple (aJ (bg (jM m.sorted (j4 (bg (cz (p7 oj "_law_column" 13 (b7 (bU (aI 12))) fun _=>(AB (aI 10) (aJ (aI 13) aO)))))))) aO)) aO))))
  (aQ (b5 (gk hr (aW i0f hr (aJ (aW i1t hr (aJ (aI 3) (aJ (aI 10) aO))) aO)) (bH m.tuple (aJ (bg (Jt.Tu.df_sortedU m.sorted (KL 11))) aO))) (aR (bc eD)) bw)
  (aR (b5 (iW (eU (vA (ba (aI 3) aV) aV) (dN (vA (bW m.len (aJ (ba (aI 3) aV) aO)) aV)))) (aR (b5 (gk hr (aW i0f hr (aJ (aW i1r hr (aJ (aI 3) (aJ (cu (aJ aV (aJ (cu (aJ (cu (aJ aV aO)) aO)) aO))) aO))) aO)) (aI 5)) (aR (bc eD)) bw)) bw)))))))))))))))
  (aR (bc eD)))⟩
noncomputable abbrev HC:=AG.m
end
end K16
namespace K16
inductive cX (E:List (Nat × Nat)):Nat->Nat->Prop
 | refl (a:Nat):cX E a a
 | step {a b c:Nat}:((a,b) ∈ E ∨ (b,a) ∈ E)->cX E b c->cX E a c
theorem cX.trans(h:cX E a b)(g:cX E b c):cX E a c:=by induction h with
 |refl=>exact g
 |step e _ o=>exact .step e (o g)
theorem cX.one(h:(a,b)∈E\/(b,a)∈E):cX E a b:= .step h (.refl b)
theorem cX.symm(h:cX E a b):cX E b a:=by induction h with
 |refl=>exact .refl _
 |step e _ o=>exact o.trans (.one e.symm)
theorem cX.mono (s:∀e ∈ E,e ∈ F) (h:cX E a b):cX F a b:= by
 induction h with
 | refl=>exact .refl _
 | step e _ ih=>exact .step (e.imp (s _) (s _)) ih
theorem cX.nil(h:cX [] a b):a=b:=by cases h with
 |refl=>rfl
 |step e _=>simp_all
theorem qQ{u v a b:Nat}:cX ((u,v)::E) a b↔cX E a b\/(cX E a u/\cX E v b)\/(cX E a v/\cX E u b):=by
 constructor;. intro h;induction h with
  |refl=>exact .inl (.refl _)
  |@step a b c e _ I=>
   have U:(a=u/\b=v)\/(a=v/\b=u)\/(a,b)∈E\/(b,a)∈E:=by
    rcases e with e|e
    .rcases wW.mp e with e|e
     .cases e;exact .inl ⟨rfl,rfl⟩
     .exact .inr (.inr (.inl e))
    .rcases wW.mp e with e|e
     .cases e;exact .inr (.inl ⟨rfl,rfl⟩)
     .exact .inr (.inr (.inr e))
   rcases U with⟨rfl,rfl⟩|⟨rfl,rfl⟩|e
   .rcases I with h|⟨_,h⟩|⟨_,h⟩
    .exact .inr (.inl ⟨.refl _,h⟩)
    .exact .inr (.inl ⟨.refl _,h⟩)
    .exact .inl h
   .rcases I with h|⟨_,h⟩|⟨_,h⟩
    .exact .inr (.inr ⟨.refl _,h⟩)
    .exact .inl h
    .exact .inr (.inr ⟨.refl _,h⟩)
   .rcases I with h|⟨o,C⟩|⟨o,C⟩
    .exact .inl (.step e h)
    .exact .inr (.inl ⟨.step e o,C⟩)
    .exact .inr (.inr ⟨.step e o,C⟩)
 .have m:∀e∈E,e∈(u,v)::E:= λ e he=>uN _ he;have J:cX ((u,v)::E) u v:= .one (.inl uT);rintro(h|⟨o,C⟩|⟨o,C⟩);. exact h.mono m
  .exact(o.mono m).trans (J.trans (C.mono m))
  .exact(o.mono m).trans (J.symm.trans (C.mono m))
noncomputable def Hv(f:Nat->Nat)(E:List (Nat×Nat)):Prop:=∀a b,f a=f b↔cX E a b
noncomputable def FC(f:Nat->Nat)(u v:Nat):Nat->Nat:= λ a=>if f a=f u then f v else f a
theorem El:Hv id []:= λ a b=>⟨λ h=>by cases h;exact .refl _,λ h=>h.nil⟩
theorem wc(L:Hv f E)(u v:Nat):Hv (FC f u v) ((u,v)::E):= λ a b=>by rw[qQ,<- L a b,<- L a u,<- L v b,<- L a v,<- L u b];unfold FC;grind
theorem gW:∀E:List (Nat×Nat),∃f,Hv f E
 |[]=>⟨id,El⟩
 |(u,v)::E=>by obtain⟨f,L⟩:=gW E;exact⟨_,wc L u v⟩
noncomputable def uq:List Nat->List Nat
 |[]=>[]
 |x::l=>if x∈l then uq l else x::uq l
theorem dG:∀{l:List Nat},a∈uq l↔a∈l
 |[]=>Iff.rfl
 |x::l=>by
  unfold uq;split;. rw[dG];simp_all
  .rw[wW,dG,wW]
theorem lH:∀l:List Nat,(uq l).Nodup
 |[]=>WX
 |x::l=>by
  unfold uq;split;. exact lH l
  .rename_i h;exact Q8.mpr ⟨λ z=>h (dG.mp z),lH l⟩
theorem HN:∀{l:List Nat},l.Nodup->uq l=l
 |[],_=>rfl
 |x::l,h=>by have h:=Q8.mp h;unfold uq;rw[gL h.1,HN h.2]
noncomputable def cls(f:Nat->Nat)(V:List Nat):Nat:=(uq (V.map f)).length
theorem lj:∀{V:List Nat},(∀a∈V,∀b∈V,f a=f b↔g a=g b)->cls f V=cls g V
 |[],_=>rfl
 |x::V,h=>by
  have C:=lj (f:=f) (g:=g) (V:=V) λ a I b J=>h a (uN _ I) b (uN _ J);have e:f x∈V.map f↔g x∈V.map g:=by
   rw[fN,fN];constructor;. rintro⟨y,o,e⟩;exact⟨y,o,(h y (uN _ o) x uT).mp e⟩
   .rintro⟨y,o,e⟩;exact⟨y,o,(h y (uN _ o) x uT).mpr e⟩
  unfold cls at*;rw[ZH,ZH];unfold uq;by_cases q:f x∈V.map f;. rw[gA q,gA (e.mp q)];exact C
  .rw[gL q,gL λ z=>q (e.mpr z),QU,QU,C]
theorem Fp{V:List Nat}{u v:Nat}(C:u∈V)(I:v∈V)(h:f u≠f v):cls (FC f u v) V+1=cls f V:=by
 have p:(uq (V.map (FC f u v))++[f u]).Perm (uq (V.map f)):=by
  refine(ZZ (VZ.mpr ⟨lH _,by simp,?_⟩) (lH _)).mpr λ a=>?_
  .intro a J b U e;rw[jP.mp U]at e;subst e;obtain⟨y,_,e⟩:=fN.mp (dG.mp J);unfold FC at e;split at e;. exact h e.symm
   .rename_i q;exact q e
  .rw[fD,dG,dG,fN,fN,jP];constructor
   .rintro(⟨y,o,e⟩|rfl)
    .unfold FC at e;split at e;. exact⟨v,I,e⟩
     .exact⟨y,o,e⟩
    .exact⟨u,C,rfl⟩
   .rintro⟨y,o,rfl⟩;by_cases q:f y=f u;. exact .inr q
    .exact .inl ⟨y,o,gL q⟩
 have:=p.length_eq;rw[gE]at this;exact this
theorem uz:cls f V<=1↔ ∀a∈V,∀b∈V,f a=f b:=by
 constructor;. intro h a C b I;have o:f a∈uq (V.map f):=dG.mpr (fN.mpr ⟨a,C,rfl⟩);have J:f b∈uq (V.map f):=dG.mpr (fN.mpr ⟨b,I,rfl⟩);unfold cls at h;match e:uq (V.map f),h with
  |[],_=>rw[e]at o;cases o
  |[x],_=>rw[e]at o J;rw[jP.mp o,jP.mp J]
  |_::_::_,h=>simp at h
 .intro h;unfold cls;match e:uq (V.map f)with
  |[]=>simp
  |[x]=>simp
  |x::y::r=>
   have hx:x∈uq (V.map f):=by rw[e];simp
   have U:y∈uq (V.map f):=by rw[e];simp
   obtain⟨a,C,ea⟩:=fN.mp (dG.mp hx);obtain⟨b,I,eb⟩:=fN.mp (dG.mp U);have nd:=lH (V.map f);rw[e]at nd;have:=(Q8.mp nd).1;exact absurd (by rw[<- ea,<- eb,h a C b I];simp) this
noncomputable def fe(E:List (Nat×Nat)):Prop:=∀k,(h:k<E.length)-> ¬cX (E.take k) E[k].1 E[k].2
theorem fe.sub(h:fe E):fe (E.filter p):=by
 have gen:∀(F:List (Nat×Nat)),fe F->fe (F.filter p):=by
  have rev:∀(n:Nat)(F:List (Nat×Nat)),F.length=n->fe F->fe (F.filter p):=by intro n;induction n with
   |zero=>intro F hl _;rw[VU hl];intro k C;simp at C
   |succ n J=>
    intro F hl hF;have I:F≠[]:= λ z=>by rw[z]at hl;cases hl
    have e:=List.dropLast_concat_getLast I;generalize hG:F.dropLast=G at*;generalize hx:F.getLast I=x at*;have U:G.length=n:=by rw[<- hG,List.length_dropLast,hl];rfl
    have fG:fe G:= λ k C z=>by
     have o:k<F.length:=by omega
     refine hF k o ?_;have e1:F.take k=G.take k:=by rw[<- e,ZR (by omega)]
     have e2:F[k]=G[k]:=by
      have:F[k]?=G[k]?:=by rw[<- e,QL C]
      rw[kW o,kW C]at this;exact Q9 this
     rw[e1,e2];exact z
    have nx: ¬cX G x.1 x.2:= λ z=>by
     have o:n<F.length:=by omega
     refine hF n o ?_;have e1:F.take n=G:=by rw[<- e,ZR (by omega),<- U,List.take_length]
     have e2:F[n]=x:=by
      have:F[n]?=some x:=by rw[<- e,ZA (by omega),U];simp
      rw[kW o]at this;exact Q9 this
     rw[e1,e2];exact z
    have J:=J G U fG;rw[<- e,XR];cases hp:p x with
    |false=>simpa[hp]using J
    |true=>
     have:[x].filter p=[x]:=by simp[hp]
     rw[this];intro k C;rw[gE,List.length_singleton]at C;by_cases q:k<(G.filter p).length;. rw[ZR (by omega),WM q];exact J k q
     .have:k=(G.filter p).length:=by omega
      subst this;rw[ZR (wN _)];simp;exact λ z=>nx (z.mono λ e he=>(uP.mp he).1)
  grind
 grind
theorem i7(nd:V.Nodup):∀(E:List (Nat×Nat))(k:Nat),(∀e∈E,e.1∈V/\e.2∈V)->k<=E.length->∀f,Hv f (E.take k)->V.length<=cls f V+k/\((∀j,(h:j<E.length)->j<k-> ¬cX (E.take j) E[j].1 E[j].2)↔cls f V+k=V.length)
 |E,0,I,hk,f,L=>by
  have e:cls f V=V.length:=by
   have:=lj (f:=f) (g:=id) (V:=V) λ a _ b _=>by rw[L a b];exact⟨λ h=>h.nil,λ h=>by cases h;exact .refl _⟩
   rw[this];unfold cls;rw[List.map_id,HN nd]
  simp_all
 |E,k+1,I,hk,f,L=>by
  have o:k<E.length:=by omega
  obtain⟨g,C⟩:=gW (E.take k);obtain⟨i1,i2⟩:=i7 nd E k I (by omega) g C;obtain⟨mu,mv⟩:=I _ (QT o);have tk:E.take (k+1)=E.take k++[E[k]]:=ZD o;have L2:=wc C E[k].1 E[k].2;have same:cls f V=cls (FC g E[k].1 E[k].2) V:=lj λ a _ b _=>by
   rw[L a b,L2 a b,tk];constructor
   .exact cX.mono λ e he=>by
     rcases fD.mp he with he|he
     .exact uN _ he
     .rw[jP.mp he];exact uT
   .exact cX.mono λ e he=>by
     rcases wW.mp he with he|he
     .rw[he];exact fD.mpr (.inr (jP.mpr rfl))
     .exact fD.mpr (.inl he)
  by_cases q:g E[k].1=g E[k].2
  .have e:FC g E[k].1 E[k].2=g:=by
    funext a;unfold FC;split;. rename_i z;rw[z,q]
    .rfl
   rw[same,e];exact⟨by omega,⟨λ h=>absurd ((C _ _).mp q) (h k o (by omega)),λ h=>by omega⟩⟩
  .have c:=Fp (f:=g) mu mv q;rw[same];refine⟨by omega,?_⟩;constructor;. intro h;have:=i2.mp λ j J U=>h j J (by omega);omega
   .intro h j J U;by_cases e:j=k;. subst e;exact λ z=>q ((C _ _).mpr z)
    .exact i2.mpr (by omega) j J (by omega)
theorem dM(nd:V.Nodup){E:List (Nat×Nat)}(C:∀e∈E,e.1∈V/\e.2∈V){f:Nat->Nat}(L:Hv f E):V.length<=cls f V+E.length/\(fe E↔cls f V+E.length=V.length):=by have h:=i7 nd E E.length C (wN _) f (by simp_all);exact⟨h.1,⟨λ z=>h.2.mp λ j o _=>z j o,λ z j o=>h.2.mpr z j o o⟩⟩
noncomputable def Nd(E:List (Nat×Nat))(V:List Nat):Prop:=∀a∈V,∀b∈V,cX E a b
theorem vY{f:Nat->Nat}(L:Hv f E):Nd E V↔cls f V<=1:=by rw[uz];exact⟨λ h a o b C=>(L a b).mpr (h a o b C),λ h a o b C=>(L a b).mp (h a o b C)⟩
theorem wQ{V:List Nat}(h:V≠[]):1<=cls f V:=by cases V with
 |nil=>simp_all
 |cons x V=>refine ZT (a:=f x) (dG.mpr ?_);simp
theorem va(nd:V.Nodup){E:List (Nat×Nat)}(o:∀e∈E,e.1∈V/\e.2∈V)(C:fe E):V.length<=E.length+1↔Nd E V:=by obtain⟨f,L⟩:=gW E;have h:=(dM nd o L).2.mp C;rw[vY L];omega
noncomputable abbrev Pr:=Nat×Nat
theorem Dp:∀{V:List Nat},(∀a∈V,∀b∈V,f a=f b->g a=g b)->cls g V<=cls f V
 |[],_=>wN _
 |x::V,h=>by have I:=Dp (f:=f) (g:=g) (V:=V) λ a o b C=>h a (uN _ o) b (uN _ C);unfold cls at*;rw[ZH,ZH];unfold uq;grind
theorem ve (h:∀e ∈ E,cX F e.1 e.2) (r:cX E a b):cX F a b:= by
 induction r with
 | refl a=>exact .refl a
 | step z _ ih=>
  rcases z with z | z
  .exact (h _ z).trans ih
  .exact (h _ z).symm.trans ih
theorem ft (h:e ∈ E):cX E e.1 e.2:=.one (.inl h)
theorem jb:fe []:= λ k h=>absurd h (by simp)
theorem qC (h:fe (A ++ B)):fe A:=fun k hk=>by
 have:=h k (by grind)
 rw [ZR (by omega),WM hk] at this
 omega
theorem mH{T:List Pr}{e:Pr}:fe (T++[e])↔fe T/\ ¬cX T e.1 e.2:=by
 constructor;. intro h;refine⟨qC h,?_⟩;have:=h T.length (by simp);simp_all
 .rintro⟨C,I⟩ k J;by_cases o:k<T.length;. rw[ZR (by omega),WM o];exact C k o
  .have:k=T.length:=by simp at J;omega
   subst this;simpa using I
noncomputable def ends(E:List Pr):List Nat:=uq (E.map (·.1)++E.map (·.2))
theorem jf(h:e∈E):e.1∈ends E/\e.2∈ends E:=
 ⟨dG.mpr (fD.mpr (.inl (fN.mpr ⟨e,h,rfl⟩))),dG.mpr (fD.mpr (.inr (fN.mpr ⟨e,h,rfl⟩)))⟩
theorem La{E F:List Pr}(C:fe E)(I:fe F)(h:∀e∈E,cX F e.1 e.2):E.length<=F.length:=by obtain⟨f,Lf⟩:=gW E;obtain⟨g,o⟩:=gW F;have nd:(ends (E++F)).Nodup:=lH _;have J:=(dM nd (λ e he=>jf (fD.mpr (.inl he))) Lf).2.mp C;have U:=(dM nd (λ e he=>jf (fD.mpr (.inr he))) o).2.mp I;have c3:=Dp (f:=f) (g:=g) (V:=ends (E++F)) λ a _ b _ e=>(o a b).mpr (ve h ((Lf a b).mp e));omega
theorem l8{E F:List Pr}(p:E.Perm F)(h:fe E):fe F:=by obtain⟨f,Lf⟩:=gW E;have o:Hv f F:= λ a b=>(Lf a b).trans ⟨cX.mono λ e he=>p.mem_iff.mp he,cX.mono λ e he=>p.mem_iff.mpr he⟩;have nd:(ends E).Nodup:=lH _;have C:=(dM nd (λ e he=>jf he) Lf).2.mp h;refine(dM nd (λ e he=>jf (p.mem_iff.mpr he)) o).2.mpr ?_;rw[<- p.length_eq];omega
theorem nY{E:List Pr}(h:fe E):E.Nodup:=by rw[List.nodup_iff_pairwise_ne,Z7];intro i j I o C e;refine h j o ?_;rw[<- e];refine ft ?_;rw[List.mem_take_iff_getElem];grind
open Classical in
noncomputable def fC:List Pr->List Pr->List Pr
 |[],_=>[]
 |e::r,T=>if cX T e.1 e.2 then fC r T else e::fC r (T++[e])
theorem jc:∀(L T:List Pr),(fC L T).Sublist L
 |[],T=> .slnil
 |e::r,T=>by
  unfold fC;split;. exact(jc r T).cons _
  .exact(jc r _).cons_cons _
theorem kG:∀{L T:List Pr},fe T->fe (T++fC L T)
 |[],T,h=>by unfold fC;rw[ZU];exact h
 |e::r,T,h=>by
  unfold fC;split;. exact kG h
  .rename_i n;have:=kG (L:=r) (mH.mpr ⟨h,n⟩);simp_all
theorem kQ:∀{L T:List Pr},∀e∈L,cX (T++fC L T) e.1 e.2
 |[],_,e,he=>nomatch he
 |x::r,T,e,he=>by
  unfold fC;split
  .rename_i z;rcases wW.mp he with rfl|he
   .exact z.mono λ e he=>fD.mpr (.inl he)
   .exact kQ e he
  .rcases wW.mp he with rfl|he
   .exact ft (fD.mpr (.inr uT))
   .have:=kQ (L:=r) (T:=T++[x]) e he;rw[ZY]at this;exact this
theorem wq{r T:List Pr}(h:cX T e.1 e.2):fC (e::r) T=fC r T:=by rw[fC,gA h]
theorem xA{r T:List Pr}(h: ¬cX T e.1 e.2):fC (e::r) T=e::fC r (T++[e]):=by rw[fC,gL h]
theorem kc:∀(A B T:List Pr),fC (A++B) T=fC A T++fC B (T++fC A T)
 |[],B,T=>by simp[fC]
 |e::r,B,T=>by
  rw[List.cons_append];by_cases h:cX T e.1 e.2;. rw[wq h,wq h];exact kc r B T
  .rw[xA h,xA h,kc r B (T++[e]),ZY];rfl
noncomputable def wt(w:Pr->Int)(L:List Pr):Int:=(L.map w).sum
theorem d7(w:Pr->Int)(e:Pr)(L:List Pr):wt w (e::L)=w e+wt w L:=by rfl
theorem Ef(p:A.Perm B):wt w A=wt w B:=by induction p with
 |nil=>rfl
 |cons x _ o=>rw[d7,d7,o]
 |swap x y l=>rw[d7,d7,d7,d7];omega
 |trans _ _ C I=>simp_all
theorem L8(w:Pr->Int)(p q:Pr->Bool):∀(L:List Pr)(d I:Int),0<=d->L.Pairwise (λ a b=>w b<=w a)->(∀e∈L,0<=w e/\w e<=I)->(∀k,(((L.take k).filter p).length:Int)<=d+((L.take k).filter q).length)->
  0<=I->wt w (L.filter p)<=d*I+wt w (L.filter q)
 |[],d,I,hd,_,_,_,h0=>by have:=Int.mul_nonneg hd h0;simpa[wt]using this
 |e::r,d,I,hd,hs,hw,J,h0=>by
  have U:=ZI.mp hs;obtain⟨w1,w2⟩:=hw e uT;have m0:d*w e<=d*I:=Int.mul_le_mul_of_nonneg_left w2 hd;have k1:=J 1;have next:∀d':Int,0<=d'->(∀k,(((r.take k).filter p).length:Int)<=d'+((r.take k).filter q).length)->wt w (r.filter p)<=d'*w e+wt w (r.filter q):= λ d' h1 h2=>
   L8 w p q r d' (w e) h1 U.2 (λ x hx=>⟨(hw x (uN _ hx)).1,U.1 x hx⟩) h2 w1;cases o:p e <;> cases C:q e
  .have h:=next d hd λ k=>by have:=J (k+1);simpa[o,C]using this
   simp[VR,o,C,ZE,YO];omega
  .have h:=next (d+1) (by omega) λ k=>by
    have:=J (k+1);simp[o,C]at this|-;omega
   simp[VR,o,C,ZE,YO,W0,d7];grind
  .have h1:0<=d-1:=by simp[o,C]at k1;omega
   have h:=next (d-1) h1 λ k=>by have:=J (k+1);simp[o,C]at this|-;omega
   simp[o,d7];grind
  .have h:=next d hd λ k=>by have:=J (k+1);simp[o,C]at this|-;omega
   simp[o,C,d7];omega
theorem qq{L C:List Pr}(nd:L.Nodup)(o:C.Nodup)(h:∀e∈C,e∈L):(L.filter λ e=>decide (e∈C)).Perm C:=by refine(ZZ (nd.filter _) o).mpr λ e=>?_;rw[uP,YC];exact⟨λ z=>z.2,λ z=>⟨h e z,z⟩⟩
theorem lQ(nd:(A++B).Nodup):A.filter (λ e=>decide (e∈fC (A++B) T))=fC A T:=by
 have I:A.filter (λ e=>decide (e∈fC (A++B) T))=A.filter λ e=>decide (e∈fC A T):=by refine Y1 λ e he=>?_;rw[kc,Y7,fD];refine⟨λ z=>z.elim id λ z=>?_,.inl⟩;have J:=(jc B _).mem z;exact absurd rfl ((VZ.mp nd).2.2 e he e J)
 rw[I];have gen:∀{S L:List Pr},L.Nodup->S.Sublist L->L.filter (λ e=>decide (e∈S))=S:=by intro S L nd sl;induction sl with
  |slnil=>rfl
  |cons a sl C=>have o:=Q8.mp nd;rw[VR,gL (by simpa using λ z=>o.1 (sl.mem z)),C o.2]
  |cons_cons a sl C=>have o:=Q8.mp nd;rw[VR,gA (by simp)];congr 1;rw[<- C o.2];refine Y1 λ e he=>?_;rw[C o.2,Y7,wW];exact⟨λ z=>z.elim (λ q=>absurd (q▸he) o.1) id,.inr⟩
 exact gen (VZ.mp nd).1 (jc A T)
theorem B7{L T C:List Pr}(nd:L.Nodup)(hs:L.Pairwise λ a b=>w b<=w a)(hw:∀e∈L,0<=w e)(hT:fe T)(hC:fe (T++C))(hm:∀e∈C,e∈L):wt w C<=wt w (fC L T):=by
 have J:C.Nodup:=(VZ.mp (nY hC)).2.1;have p:=qq nd J hm;have o:fe (T++L.filter λ e=>decide (e∈C)):=l8 (p.symm.append_left T) hC;obtain⟨I,h0,U⟩:∃I:Int,0<=I/\∀e∈L,w e<=I:=by cases L with
  |nil=>exact⟨0,by omega,λ e he=>nomatch he⟩
  |cons x r=>exact⟨w x,hw x uT,λ e he=>by
    rcases wW.mp he with rfl|he
    .exact XS _
    .exact(ZI.mp hs).1 e he⟩
 have h:=L8 w (λ e=>decide (e∈C)) (λ e=>decide (e∈fC L T)) L 0 I (XS _) hs (λ e he=>⟨hw e he,U e he⟩) (λ k=>?_) h0;. rw[Ef p]at h;have e:=lQ (A:=L) (B:=[]) (T:=T) (by rw[ZU];exact nd);rw[ZU]at e;rw[e]at h;simpa using h
 .have aa:(L.take k++L.drop k).Nodup:=by rw[List.take_append_drop];exact nd
  have e:=lQ (T:=T) aa;have f1:fe (T++(L.take k).filter λ e=>decide (e∈C)):=by
   have:L.filter (λ e=>decide (e∈C))=(L.take k).filter (λ e=>decide (e∈C))++(L.drop k).filter λ e=>decide (e∈C):=by rw[<- XR,List.take_append_drop]
   rw[this,<- ZY]at o;exact qC o
  have:=La f1 (kG (L:=L.take k) hT) λ e he=>by
   rcases fD.mp he with he|he
   .exact ft (fD.mpr (.inl he))
   .exact kQ e (uP.mp he).1
  simp_all
section
variable (w:Pr->Int) (M:List Pr->Int)
open Classical in
noncomputable def tw:List Pr->List Pr->Int->List Pr
 |[],T,_=>T
 |e::r,T,d=>if cX T e.1 e.2 then tw r T d else if w e+M (T++[e])=d then tw r (T++[e]) (d-w e)else tw r T d
theorem M9{r T:List Pr}{d:Int}(h:cX T e.1 e.2):tw w M (e::r) T d=tw w M r T d:=by rw[tw,gA h]
theorem MJ{r T:List Pr}{d:Int}(h: ¬cX T e.1 e.2)(o:w e+M (T++[e])=d):tw w M (e::r) T d=tw w M r (T++[e]) (d-w e):=by rw[tw,gL h,gA o]
theorem MM{r T:List Pr}{d:Int}(h: ¬cX T e.1 e.2)(o:w e+M (T++[e])≠d):tw w M (e::r) T d=tw w M r T d:=by rw[tw,gL h,gL o]
end
section
variable {w:Pr->Int} {SL PL:List Pr} {n:Nat}
structure Fm (w:Pr->Int) (SL PL:List Pr) (n:Nat):Prop where
 perm:SL.Perm PL
 nd:PL.Nodup
 ord:SL.Pairwise fun a b=>w b ≤ w a
 pos:∀e ∈ PL,0 ≤ w e
 rng:∀e ∈ PL,e.1 < n/\e.2 < n
 con:∀a,a < n->∀b,b < n->cX PL a b
 one:1 ≤ n
theorem Fm.ndS(F:Fm w SL PL n):SL.Nodup:=F.perm.nodup_iff.mpr F.nd
theorem Fm.most(F:Fm w SL PL n){T C:List Pr}(o:fe T)(I:fe (T++C))(hm:∀e∈C,e∈PL):wt w C<=wt w (fC SL T):=
 B7 F.ndS F.ord (λ e he=>F.pos e (F.perm.mem_iff.mp he)) o I λ e he=>F.perm.mem_iff.mpr (hm e he)
noncomputable def Pk(w:Pr->Int)(T:List Pr)(d:Int)(X:List Pr):Prop:=fe (T++X)/\wt w X=d
open Classical in
theorem K5(F:Fm w SL PL n){T:List Pr}:∀e∈fC SL T,e∈PL:= λ e he=>F.perm.mem_iff.mp ((jc SL T).mem he)
open Classical in
end
theorem oe{B:Type}(f g:B->Int):∀L:List B,(∀x∈L,f x<=g x)->(L.map f).sum<=(L.map g).sum/\((L.map f).sum=(L.map g).sum↔ ∀x∈L,f x=g x)
 |[],_=>⟨XS _,⟨λ _ x hx=>(nomatch hx),λ _=>rfl⟩⟩
 |a::r,h=>by obtain⟨o,C⟩:=oe f g r λ x hx=>h x (uN _ hx);have h0:=h a uT;simp;grind
theorem sum_add{B:Type}(f g:B->Int):∀L:List B,(L.map λ x=>f x+g x).sum=(L.map f).sum+(L.map g).sum
 |[]=>rfl
 |a::r=>by simp[sum_add f g r];omega
theorem zK{B:Type}(p:B->Bool):∀L:List B,(L.map λ x=>if p x=true then(1:Int)else 0).sum=(L.filter p).length
 |[]=>rfl
 |a::r=>by simp[zK p r,VR];split <;> simp <;> omega
theorem lu{B A:Type}(q:B->A->Bool)(C:List A):∀t:List B,(t.map λ e=>((C.filter (q e)).length:Int)).sum=(C.map λ c=>((t.filter λ e=>q e c).length:Int)).sum
 |[]=>by
  have:∀C:List A,(C.map λ c=>((([]:List B).filter λ e=>q e c).length:Int)).sum=0:= λ C=>by induction C with
   |nil=>rfl
   |cons c r o=>simp_all
  simp_all
 |e::t=>by rw[ZH,List.sum_cons,lu q C t,<- zK (q e) C,<- sum_add];congr 1;refine QQ λ c _=>?_;rw[VR];split <;> simp <;> omega
section
variable {hs:List (List Int)} {M:Nat} {t:List Pr}
noncomputable def co(hs:List (List Int))(c i:Nat):Bool:=decide ((c:Int)∈hs.getD i [])
noncomputable def wh(hs:List (List Int))(e:Pr):Int:=(((hs.getD e.1 []).filter λ x=>decide (x∈hs.getD e.2 [])).length:Nat)
noncomputable def vc(hs:List (List Int))(c:Nat):List Nat:=(List.range hs.length).filter λ i=>co hs c i
noncomputable def ec(hs:List (List Int))(t:List Pr)(c:Nat):List Pr:=t.filter λ e=>co hs c e.1&&co hs c e.2
noncomputable def o8(hs:List (List Int))(M:Nat):Int:=((List.range M).map λ c=>max (((vc hs c).length:Int) -1) 0).sum
theorem D2(U:∀h∈hs,h.Pairwise (. < .)/\∀c∈h,0<=c/\c<M)(e:Pr):wh hs e=(((List.range M).filter λ c=>co hs c e.1&&co hs c e.2).length:Nat):=by
 have ok:(hs.getD e.1 []).Pairwise (. < .)/\∀c∈hs.getD e.1 [],0<=c/\c<M:=by rw[QP];cases q:hs[e.1]? with
  |none=>exact⟨.nil,λ c hc=>nomatch hc⟩
  |some h=>exact U h (Y5 q)
 unfold wh;have o:((hs.getD e.1 []).filter λ x=>decide (x∈hs.getD e.2 [])).Nodup:=(ok.1.imp λ h=>Int.ne_of_lt h).filter _;have C:(((List.range M).filter λ c=>co hs c e.1&&co hs c e.2).map λ(c:Nat)=>(c:Int)).Nodup:=by rw[List.nodup_iff_pairwise_ne,ZX];exact(List.nodup_range.filter _).imp λ h z=>h (by omega)
 have p:=(ZZ o C).mpr λ x=>by
  simp only[uP,fN,YC,co,Z3];constructor;. rintro⟨I,J⟩;obtain⟨a,b⟩:=ok.2 x I;have e:x.toNat=x:=WC a;grind
  .rintro⟨c,⟨_,I,J⟩,rfl⟩;exact⟨I,J⟩
 rw[p.length_eq,uL]
theorem uC(U:fe t)(C:∀e∈t,e.1<hs.length/\e.2<hs.length)(c:Nat):((ec hs t c).length:Int)<=max (((vc hs c).length:Int) -1) 0/\(((ec hs t c).length:Int)=max (((vc hs c).length:Int) -1) 0↔Nd (ec hs t c) (vc hs c)):=by
 have hF:fe (ec hs t c):=U.sub;have hV:∀e∈ec hs t c,e.1∈vc hs c/\e.2∈vc hs c:= λ e he=>by obtain⟨I,o⟩:=uP.mp he;simp at o;exact⟨uP.mpr ⟨wL.mpr (C e I).1,o.1⟩,uP.mpr ⟨wL.mpr (C e I).2,o.2⟩⟩
 have nd:(vc hs c).Nodup:=List.nodup_range.filter _;obtain⟨f,L⟩:=gW (ec hs t c);have k:=(dM nd hV L).2.mp hF;by_cases J:vc hs c=[]
 .have he:ec hs t c=[]:=List.eq_nil_iff_forall_not_mem.mpr λ e he=>by simp_all
  rw[he,J];exact⟨by decide,⟨λ _ a ha=>(nomatch ha),λ _=>by decide⟩⟩
 .have p:=wQ (f:=f) J;rw[vY L];omega
theorem nT(J:∀h∈hs,h.Pairwise (. < .)/\∀c∈h,0<=c/\c<M)(o:fe t)(C:∀e∈t,e.1<hs.length/\e.2<hs.length):
  wt (wh hs) t<=o8 hs M/\(wt (wh hs) t=o8 hs M↔ ∀c,c<M->Nd (ec hs t c) (vc hs c)):=by
 have e:wt (wh hs) t=((List.range M).map λ c=>((ec hs t c).length:Int)).sum:=by unfold wt;rw[show(t.map (wh hs))=t.map λ e=>(((List.range M).filter ((λ e c=>co hs c e.1&&co hs c e.2) e)).length:Int)from QQ λ e _=>D2 J e];exact lu (λ(e:Pr) c=>co hs c e.1&&co hs c e.2) (List.range M) t
 have h:=oe (λ c=>((ec hs t c).length:Int)) (λ c=>max (((vc hs c).length:Int) -1) 0) (List.range M) λ c _=>(uC o C c).1;rw[e];exact⟨h.1,h.2.trans ⟨λ z c I=>(uC o C c).2.mp (z c (wL.mpr I)),λ z c I=>(uC o C c).2.mpr (z c (wL.mp I))⟩⟩
end
noncomputable def stH(sm f:List Nat)(e:Pr):List Nat:=if(decide (e.1∈f)!=decide (e.2∈f))&&decide (e.1∈sm)&&decide (e.2∈sm)then f++[if e.1∈f then e.2 else e.1]else f
noncomputable def qi(sm:List Nat)(P:List Pr)(f:List Nat):List Nat:=P.foldl (stH sm) f
section
variable {sm:List Nat} {P:List Pr}
noncomputable def both(sm:List Nat)(P:List Pr):List Pr:=P.filter λ e=>decide (e.1∈sm)&&decide (e.2∈sm)
theorem MV{a b:List Nat}(nd:a.Nodup)(h:∀x∈a,x∈b):a.length<=b.length:=by induction a generalizing b with
 |nil=>simp
 |cons x r C=>have n:=Q8.mp nd;have hx:x∈b:=h x uT;have:=C (b:=b.erase x) n.2 λ y o=>(List.mem_erase_of_ne (show y≠x from λ z=>n.1 (z▸o))).mpr (h y (uN _ o));grind
end
noncomputable def wo(L:List Nat)(e:Nat):List Nat:=L.filter λ i=>decide (i≠e)
theorem aY:x∈wo L e↔x∈L/\x≠e:=by simp[wo]
theorem d5(L:List Nat)(e x:Nat):wo (wo L e) x=wo (wo L x) e:=by unfold wo;rw[List.filter_filter,List.filter_filter];exact Y1 λ i _=>Bool.and_comm _ _
theorem jn(h:e∈L):(wo L e).length<L.length:=
 List.length_filter_lt_length_iff_exists.mpr ⟨e,h,by simp⟩
theorem eF(h:L.Nodup):(wo L e).Nodup:=h.filter _
structure Er (m:Nat->Nat->Bool) (L:List Nat) (e p:Nat):Prop where
 he:e ∈ L
 hp:p ∈ L
 ne:p ≠ e
 hold:∀c o,m e c=true->o ∈ L->o ≠ e->m o c=true->m p c=true
inductive Red (m:Nat->Nat->Bool):List Nat->Prop
 | one (x:Nat):Red m [x]
 | ear {L:List Nat} {e p:Nat} (h:Er m L e p) (r:Red m (wo L e)):Red m L
section
variable {m:Nat->Nat->Bool} {L:List Nat} {e p x q:Nat}
theorem Er.sub(E:Er m L e p)(h:p≠x)(C:e≠x):Er m (wo L x) e p:=⟨aY.mpr ⟨E.he,C⟩,aY.mpr ⟨E.hp,h⟩,E.ne,λ c o I J=>E.hold c o I (aY.mp J).1⟩
theorem Er.past(E:Er m L e p)(X:Er m L x e)(h:p≠x):Er m (wo L e) x p:=
 ⟨aY.mpr ⟨X.he,Ne.symm X.ne⟩,aY.mpr ⟨E.hp,E.ne⟩,h,λ c o U I J C=>E.hold c o (X.hold c o U (aY.mp I).1 J C) (aY.mp I).1 (aY.mp I).2 C⟩
theorem ue(nd:L.Nodup)(h:∀o,o∈L↔o=y):L=[y]:=by cases L with
 |nil=>exact absurd ((h y).mpr rfl) (by simp)
 |cons a r=>have C:=(h a).mp uT;subst C;cases r with
  |nil=>rfl
  |cons b s=>have I:=(h b).mp (by simp);simp_all
theorem Kp:∀(n:Nat){L:List Nat}{e p:Nat},L.length<=n->L.Nodup->Er m L e p->Red m L->Red m (wo L e):=by intro n;induction n with
 |zero=>intro L e p hn _ E R;have:=ZT E.he;omega
 |succ n ih=>intro L e p hn nd E R;cases R with
  |one y=>have h1:=jP.mp E.he;have h2:=jP.mp E.hp;exact absurd (h2.trans h1.symm) E.ne
  |@ear _ x q X RX=>
   by_cases hx:x=e;. subst hx;exact RX
   have sx:(wo L x).length<=n:=by have:=jn X.he;omega
   have both:∀{p' q':Nat},Er m (wo L x) e p'->Er m (wo L e) x q'->Red m (wo L e):= λ E' X'=> .ear X' (by rw[d5];exact ih sx (eF nd) E' RX);by_cases hp:p=x
   .subst hp;by_cases hq:q=e
    .subst hq;have ae:q∈wo L p:=aY.mpr ⟨E.he,Ne.symm hx⟩;have mem:∀{o},o∈L->o=p\/o∈wo L p:= λ{o} I=>by
      by_cases z:o=p;. exact .inl z
      .exact .inr (aY.mpr ⟨I,z⟩)
     generalize hW:wo L p=W at*;cases RX with
     |one y=>
      have hy:=jP.mp ae;subst hy;have:wo L q=[p]:=ue (eF nd) λ o=>⟨λ I=>by obtain⟨a,b⟩:=aY.mp I;exact(mem a).elim id λ z=>absurd (jP.mp z) b,λ I=>by subst I;exact aY.mpr ⟨X.he,hx⟩⟩;rw[this];exact .one p
     |@ear _ y z Y RY=>
      subst hW;obtain⟨ab,aa⟩:=aY.mp Y.he;obtain⟨af,ah⟩:=aY.mp Y.hp;by_cases U:y=q;. subst U;refine .ear (e:=p) (p:=z) ⟨aY.mpr ⟨X.he,hx⟩,aY.mpr ⟨af,Y.ne⟩,ah,λ c o hc I J C=>?_⟩ (by rw[d5];exact RY);obtain⟨o1,o2⟩:=aY.mp I;exact Y.hold c o (X.hold c o hc o1 J C) (aY.mpr ⟨o1,J⟩) o2 C
      .have Y':Er m L y z:=⟨ab,af,Y.ne,λ c o hc I J C=>by
        rcases mem I with rfl|ai
        .exact Y.hold c q hc ae (Ne.symm U) (X.hold c y C ab aa hc)
        .exact Y.hold c o hc ai J C⟩;have sy:(wo L y).length<=n:=by have:=jn ab;omega
       have Ry:Red m (wo (wo L y) q):=ih sy (eF nd) (E.sub (Ne.symm aa) (Ne.symm U)) (.ear (X.sub (Ne.symm U) (Ne.symm aa)) (by rw[d5];exact RY));rw[d5]at Ry;by_cases ag:z=q;. subst ag;exact .ear (E.past Y' (Ne.symm aa)) Ry
       .exact .ear (Y'.sub ag U) Ry
    .exact both ⟨aY.mpr ⟨E.he,Ne.symm hx⟩,aY.mpr ⟨X.hp,X.ne⟩,hq,λ c o hc I J C=>X.hold c o (E.hold c o hc (aY.mp I).1 J C) (aY.mp I).1 (aY.mp I).2 C⟩ (X.sub hq hx)
   .by_cases hq:q=e;. subst hq;exact both (E.sub hp (Ne.symm hx)) (E.past X hp)
    .exact both (E.sub hp (Ne.symm hx)) (X.sub hq hx)
theorem Red.off(nd:L.Nodup)(E:Er m L e p)(R:Red m L):Red m (wo L e):=Kp L.length (wN _) nd E R
end
noncomputable def xX(m:Nat->Nat->Bool)(t:List Pr)(c:Nat):List Pr:=t.filter λ e=>m e.1 c&&m e.2 c
structure JF (m:Nat->Nat->Bool) (L:List Nat) (t:List Pr):Prop where
 inn:∀e ∈ t,e.1 ∈ L/\e.2 ∈ L
 fst:fe t
 con:∀c a b,a ∈ L->b ∈ L->m a c=true->m b c=true->cX (xX m t c) a b
theorem cK:e∈xX m t c↔e∈t/\m e.1 c=true/\m e.2 c=true:=by simp[xX]
section
variable {m:Nat->Nat->Bool}
theorem Jf(R:Red m L):∃t,JF m L t:=by induction R with
 |one x=>exact⟨[],λ e he=>(nomatch he),jb,λ c a b ha C _ _=>by rw[jP.mp ha,jP.mp C];exact .refl _⟩
 |@ear L e p E _ ih=>
  obtain⟨t,T⟩:=ih;have nt:∀f∈t,f.1≠e/\f.2≠e:= λ f hf=>⟨(aY.mp (T.inn f hf).1).2,(aY.mp (T.inn f hf).2).2⟩;refine⟨t++[(p,e)],λ f hf=>?_,mH.mpr ⟨T.fst,λ r=>?_⟩,λ c a b ha C I o=>?_⟩
  .rcases fD.mp hf with z|z
   .exact⟨(aY.mp (T.inn f z).1).1,(aY.mp (T.inn f z).2).1⟩
   .rw[jP.mp z];exact⟨E.hp,E.he⟩
  .cases r.symm with
   |refl=>exact E.ne rfl
   |step z _=>exact z.elim (λ z=>(nt _ z).1 rfl) λ z=>(nt _ z).2 rfl
  .have up:∀{x y:Nat},cX (xX m t c) x y->cX (xX m (t++[(p,e)]) c) x y:= λ r=>r.mono λ f hf=>by obtain⟨f1,f2⟩:=cK.mp hf;exact cK.mpr ⟨ZL _ f1,f2⟩
   have to:∀{b:Nat},b∈L->b≠e->m b c=true->m e c=true->cX (xX m (t++[(p,e)]) c) e b:= λ{b} C J o U=>by
    have aa:=E.hold c b U C J o;exact .step (.inr (cK.mpr ⟨xZ _ (jP.mpr rfl),aa,U⟩)) (up (T.con c p b (aY.mpr ⟨E.hp,E.ne⟩) (aY.mpr ⟨C,J⟩) aa o))
   by_cases qa:a=e
   .subst qa;by_cases qb:b=a;. subst qb;exact .refl _
    .exact to C qb o I
   .by_cases qb:b=e;. subst qb;exact(to ha qa I o).symm
    .exact up (T.con c a b (aY.mpr ⟨ha,qa⟩) (aY.mpr ⟨C,qb⟩) I o)
noncomputable def ql(e:Nat)(f:Pr):Bool:=decide (f.1=e)||decide (f.2=e)
theorem u6{t:List Pr}(h:fe t){f:Pr}(hf:f∈t):f.1≠f.2:= λ z=>by obtain⟨k,o,rfl⟩:=ZF hf;exact h k o (by rw[z];exact .refl _)
theorem EO(nd:L.Nodup)(o:L≠[]){t:List Pr}(C:∀e∈t,e.1∈L/\e.2∈L)(h:fe t):t.length+1<=L.length:=by obtain⟨f,F⟩:=gW t;have k:=(dM nd C F).2.mp h;have:=wQ (f:=f) o;omega
theorem BZ{B:Type}(f:B->Int):∀(l:List B),(∀x∈l,2<=f x)->2*l.length<=(l.map f).sum
 |[],_=>by simp
 |a::r,h=>by have:=BZ f r λ x hx=>h x (uN _ hx);have:=h a uT;simp;omega
theorem xD{B:Type}(f:B->Int):∀(l:List B),(∀x∈l,f x<=2)->(l.map f).sum<=2*l.length
 |[],_=>by simp
 |a::r,h=>by have:=xD f r λ x hx=>h x (uN _ hx);have:=h a uT;simp;omega
theorem leaf(nd:L.Nodup)(o:L≠[]){t:List Pr}(C:∀e∈t,e.1∈L/\e.2∈L)(h:fe t):∃e∈L,(t.filter (ql e)).length<=1:=by
 refine Y8 λ q=>?_;have all:∀v∈L,2<=((t.filter (ql v)).length:Int):= λ v I=>by have: ¬(t.filter (ql v)).length<=1:= λ z=>q ⟨v,I,z⟩;omega
 have s1:=BZ (λ v=>((t.filter (ql v)).length:Int)) L all;have sw:=lu (λ f v=>ql v f) L t;have s2:=xD (λ f=>((L.filter ((λ f v=>ql v f) f)).length:Int)) t λ f _=>by
  have:=MV (a:=L.filter λ v=>ql v f) (b:=[f.1,f.2]) (nd.filter _) λ x hx=>by have:=(uP.mp hx).2;simp[ql]at this;rcases this with z|z <;> simp[z]
  grind
 rw[sw]at s2;have:=EO nd o C h;grind
theorem KH:∀(n:Nat){L:List Nat}{t:List Pr},L.length<=n->L.Nodup->L≠[]->JF m L t->Red m L:=by intro n;induction n with
 |zero=>intro L t hn _ C _;exact absurd (V3.mp (by omega)) C
 |succ n ih=>
  intro L t hn nd C T;by_cases h1:L.length=1;. obtain⟨x,rfl⟩:=List.length_eq_one_iff.mp h1;exact .one x
  have h2:2<=L.length:=by have:=List.length_pos_iff.mpr C;omega
  obtain⟨e,he,hd⟩:=leaf nd C T.inn T.fst;have I:wo L e≠[]:= λ z=>by
   have:∀o∈L,o=e:= λ o ho=>Y8 λ q=>by have:=aY.mpr ⟨ho,q⟩;rw[z]at this;cases this
   have:=ue (y:=e) nd λ o=>⟨this o,λ q=>q▸he⟩;rw[this]at h2;simp at h2
  obtain⟨p,hp,J,only⟩:∃p∈L,p≠e/\∀b,((e,b)∈t\/(b,e)∈t)->b=p:=by have tm:∀{b},((e,b)∈t\/(b,e)∈t)->∃f∈t.filter (ql e),f=(e,b)\/f=(b,e):= λ{b} z=>z.elim (λ z=>⟨_,uP.mpr ⟨z,by simp[ql]⟩,.inl rfl⟩) λ z=>⟨_,uP.mpr ⟨z,by simp[ql]⟩,.inr rfl⟩;cases hl:t.filter (ql e)with
   |nil=>obtain⟨p,hp⟩:=List.exists_mem_of_ne_nil _ I;obtain⟨p1,p2⟩:=aY.mp hp;refine⟨p,p1,p2,λ b z=>?_⟩;obtain⟨f,hf,_⟩:=tm z;rw[hl]at hf;cases hf
   |cons f r=>
    have hr:r=[]:=by rw[hl]at hd;simp at hd;exact hd
    have hf:f∈t.filter (ql e):=by rw[hl];exact uT
    obtain⟨f1,f2⟩:=uP.mp hf;have ag:=u6 T.fst f1;have fi:=T.inn f f1;grind
  have E:Er m L e p:=⟨he,hp,J,λ c o aa ho C ab=>by cases T.con c e o he ho aa ab with
   |refl=>exact absurd rfl C
   |@step _ b _ z _=>
    have zb:(e,b)∈t\/(b,e)∈t:=z.imp (λ z=>(cK.mp z).1) λ z=>(cK.mp z).1;have:=only b zb;subst this;rcases z with z|z
    .exact(cK.mp z).2.2
    .exact(cK.mp z).2.1⟩;refine .ear E (ih (t:=t.filter λ f=> !ql e f) (by have:=jn he;omega) (eF nd) I ⟨λ f hf=>?_,T.fst.sub,λ c a b ha hb ae af=>?_⟩);. obtain⟨f1,f2⟩:=uP.mp hf;simp[ql]at f2;exact⟨aY.mpr ⟨(T.inn f f1).1,f2.1⟩,aY.mpr ⟨(T.inn f f1).2,f2.2⟩⟩
  .have go:∀{a b:Nat},cX (xX m t c) a b->cX (xX m (t.filter λ f=> !ql e f) c) (if a=e then p else a) (if b=e then p else b):= λ{a b} r=>by induction r with
    |refl=>exact .refl _
    |@step a x b z _ ih=>
     refine cX.trans ?_ ih;have zt:(a,x)∈t\/(x,a)∈t:=z.imp (λ z=>(cK.mp z).1) λ z=>(cK.mp z).1;by_cases U:a=e;. subst U;have:=only x zt;subst this;rw[gA rfl,gL J];exact .refl _
     .by_cases qx:x=e;. subst qx;have:=only a zt.symm;subst this;rw[gA rfl,gL U];exact .refl _
      .rw[gL U,gL qx];have nt:∀f:Pr,f∈xX m t c->f.1≠e->f.2≠e->f∈xX m (t.filter λ f=> !ql e f) c:= λ f hf h1 h2=>by obtain⟨f1,f2⟩:=cK.mp hf;exact cK.mpr ⟨uP.mpr ⟨f1,by simp[ql,h1,h2]⟩,f2⟩
       exact .one (z.imp (λ z=>nt _ z U qx) λ z=>nt _ z qx U)
   obtain ⟨a1,a2⟩:=aY.mp ha;obtain ⟨b1,b2⟩:=aY.mp hb;have:=go (T.con c a b a1 b1 ae af);grind
end
inductive Gn (m:Nat->Nat->Bool):List Nat->List Nat->Prop
 | stop {L:List Nat} (h:∀e p,¬ Er m L e p):Gn m L L
 | ear {L I:List Nat} {e p:Nat} (h:Er m L e p) (r:Gn m (wo L e) I):Gn m L I
noncomputable def sh(m:Nat->Nat->Bool)(L:List Nat)(n:Nat):Nat->Bool:= λ c=>m n c&&L.any λ o=>decide (o≠n)&&m o c
noncomputable def pq(m o:Nat->Nat->Bool)(I J:List Nat):Prop:=(I.map (sh m I)).Perm (J.map (sh o J))
section
variable {m:Nat->Nat->Bool} {L I J:List Nat} {e p x n:Nat}
theorem j9:sh m L n c=true↔m n c=true/\∃o∈L,o≠n/\m o c=true:=by simp[sh]
theorem HJ:Er m L e p↔e∈L/\p∈L/\p≠e/\∀c,sh m L e c=true->sh m L p c=true:=by
 constructor;. intro E;refine⟨E.he,E.hp,E.ne,λ c h=>?_⟩;obtain⟨U,o,ho,C,h2⟩:=j9.mp h;exact j9.mpr ⟨E.hold c o U ho C h2,e,E.he,Ne.symm E.ne,U⟩
 .rintro⟨he,hp,ne,h⟩;exact⟨he,hp,ne,λ c o U ho C h2=>(j9.mp (h c (j9.mpr ⟨U,o,ho,C,h2⟩))).1⟩
theorem xc(E:Er m L e x)(X:Er m L x e):(∀n,n≠e->n≠x->n∈L->sh m (wo L x) n=sh m (wo L e) n)/\sh m (wo L x) e=sh m (wo L e) x:=by
 constructor
 .intro n h1 h2 hn;funext c;rw[Z0,j9,j9];constructor
  .rintro⟨a,o,C,b,d⟩;obtain⟨C,U⟩:=aY.mp C;by_cases z:o=e;. subst z;exact⟨a,x,aY.mpr ⟨X.he,E.ne⟩,Ne.symm h2,E.hold c n d hn h1 a⟩
   .exact⟨a,o,aY.mpr ⟨C,z⟩,b,d⟩
  .rintro⟨a,o,C,b,d⟩;obtain⟨C,U⟩:=aY.mp C;by_cases z:o=x;. subst z;exact⟨a,e,aY.mpr ⟨E.he,X.ne⟩,Ne.symm h1,X.hold c n d hn h2 a⟩
   .exact⟨a,o,aY.mpr ⟨C,z⟩,b,d⟩
 .funext c;rw[Z0,j9,j9];constructor;. rintro⟨a,o,C,b,d⟩;obtain⟨C,U⟩:=aY.mp C;exact⟨E.hold c o a C b d,o,aY.mpr ⟨C,b⟩,U,d⟩
  .rintro⟨a,o,C,b,d⟩;obtain⟨C,U⟩:=aY.mp C;exact⟨X.hold c o a C b d,o,aY.mpr ⟨C,b⟩,U,d⟩
theorem iZ(nd:L.Nodup)(h:e∈L):L.Perm (e::wo L e):=by
 refine(ZZ nd (Q8.mpr ⟨λ z=>(aY.mp z).2 rfl,eF nd⟩)).mpr λ i=>?_;rw[wW,aY];by_cases z:i=e;. subst z;simp[h]
 simp_all
theorem pq.refl(m:Nat->Nat->Bool)(I:List Nat):pq m m I I:=VG _
theorem pq.len(h:pq m o I J):I.length=J.length:=by have:=h.length_eq;simp_all
theorem xU(nd:L.Nodup)(hx:x≠e)(E:Er m L e x)(X:Er m L x e):pq m m (wo L x) (wo L e):=by obtain⟨o,h2⟩:=xc E X;have C:=iZ (eF (e:=x) nd) (aY.mpr ⟨E.he,Ne.symm hx⟩);have U:=iZ (eF (e:=e) nd) (aY.mpr ⟨X.he,hx⟩);have q1:=C.map (sh m (wo L x));have q2:=U.map (sh m (wo L e));refine q1.trans (List.Perm.trans (List.Perm.of_eq ?_) q2.symm);rw[ZH,d5];congr 1;refine QQ λ n hn=>?_;obtain⟨a,b⟩:=aY.mp hn;obtain⟨a,c⟩:=aY.mp a;exact o n c b a
theorem wz(hx:x≠e)(E:Er m L e x)(X:Er m L x e)(h:Er m (wo L x) a b):Er m (wo L e) (if a=e then x else a) (if b=e then x else b):=by
 obtain⟨h1,h2⟩:=xc E X;obtain⟨ha,hb,o,hh⟩:=HJ.mp h;obtain⟨ha,C⟩:=aY.mp ha;obtain⟨hb,U⟩:=aY.mp hb;have t:∀n,n∈L->n≠x->(if n=e then x else n)∈wo L e/\sh m (wo L e) (if n=e then x else n)=sh m (wo L x) n:= λ n hn aa=>by
  by_cases z:n=e;. subst z;rw[gA rfl];exact⟨aY.mpr ⟨X.he,hx⟩,h2.symm⟩
  .rw[gL z];exact⟨aY.mpr ⟨hn,z⟩,(h1 n z aa hn).symm⟩
 obtain⟨ta,sa⟩:=t a ha C;obtain⟨tb,sb⟩:=t b hb U;refine HJ.mpr ⟨ta,tb,?_,by rw[sa,sb];exact hh⟩;by_cases za:a=e
 .by_cases zb:b=e;. exact absurd (zb.trans za.symm) o
  .rw[gA za,gL zb];exact U
 .by_cases zb:b=e;. rw[gL za,gA zb];exact Ne.symm C
  .rw[gL za,gL zb];exact o
theorem M_:∀(n:Nat){L I:List Nat}{e p:Nat},L.length<=n->L.Nodup->Er m L e p->Gn m L I->∃J,Gn m (wo L e) J/\pq m m I J:=by
 intro n;induction n with
 |zero=>
  intro L I e p hn _ E R;have:=ZT E.he;omega
 |succ n ih=>
  intro L I e p hn nd E R;cases R with
  |stop h=>exact absurd E (h e p)
  |@ear _ _ x q X RX=>
   by_cases hx:x=e;. subst hx;exact⟨I,RX,.refl m I⟩
   have sx:(wo L x).length<=n:=by have:=jn X.he;omega
   have both:∀{p' q':Nat},Er m (wo L x) e p'->Er m (wo L e) x q'->∃J,Gn m (wo L e) J/\pq m m I J:= λ E' X'=>by
    obtain⟨J,g,k⟩:=ih sx (eF nd) E' RX;exact⟨J,.ear X' (by rw[d5];exact g),k⟩
   by_cases hp:p=x
   .subst hp;by_cases U:q=e;. subst U;cases RX with
     |stop h=>exact⟨wo L q,.stop λ a b F=>h _ _ (wz (Ne.symm hx) X E F),xU nd hx E X⟩
     |@ear _ _ y z Y RY=>
      obtain⟨ae,aa⟩:=aY.mp Y.he;have Y':=wz hx E X Y;by_cases C:y=q;. subst C;rw[gA rfl]at Y';exact⟨I,.ear Y' (by rw[d5];exact RY),.refl m I⟩
      .rw[gL C]at Y';have sy:(wo L y).length<=n:=by have:=jn ae;omega
       obtain⟨J,g,k⟩:=ih sy (eF nd) (E.sub (Ne.symm aa) (Ne.symm C)) (.ear (X.sub (Ne.symm C) (Ne.symm aa)) (by rw[d5];exact RY));rw[d5]at g;exact⟨J,.ear Y' g,k⟩
    .exact both ⟨aY.mpr ⟨E.he,Ne.symm hx⟩,aY.mpr ⟨X.hp,X.ne⟩,U,λ c o hc ho af ab=>X.hold c o (E.hold c o hc (aY.mp ho).1 af ab) (aY.mp ho).1 (aY.mp ho).2 ab⟩ (X.sub U hx)
   .by_cases U:q=e;. subst U;exact both (E.sub hp (Ne.symm hx)) (E.past X hp)
    .exact both (E.sub hp (Ne.symm hx)) (X.sub U hx)
theorem KU:∀(n:Nat){L I J:List Nat},L.length<=n->L.Nodup->Gn m L I->Gn m L J->pq m m I J:=by intro n;induction n with
 |zero=>intro L I J o _ R S;cases R with
  |stop h=>cases S with
   |stop=>exact .refl m _
   |ear E=>exact absurd E (h _ _)
  |ear E=>have:=ZT E.he;omega
 |succ n C=>intro L I J o nd R S;cases R with
  |stop h=>cases S with
   |stop=>exact .refl m _
   |ear E=>exact absurd E (h _ _)
  |@ear _ _ e p E R=>obtain⟨K,g,k⟩:=M_ (n+1) o nd E S;exact(C (by have:=jn E.he;omega) (eF nd) R g).trans k.symm
theorem JI(R:Gn m L I):(∃x,I=[x])->Red m L:=by induction R with
 |stop=>rintro⟨x,rfl⟩;exact .one x
 |ear E _ o=>exact λ h=> .ear E (o h)
end
end K16
namespace K16
open PySem L2 Jt
section
noncomputable def hD(h:List Int):D:= .tup (h.map .int)
noncomputable def bB(m:Int)(hs:List (List Int)):D:= .tup [.int m,.tup (hs.map hD)]
noncomputable def lD(ls:List Nat):List D:=ls.map λ(i:Nat)=> .int (i:Int)
noncomputable def G(hs:List (List Int))(i:Nat):List Int:=hs.getD i []
theorem yY(h:List Int):me (h.map .int)=some (h.map V.int):=by induction h with
 |nil=>rfl
 |cons a r o=>simp[me,flat,o]
theorem EA(c:Int)(h:List Int):Lu (.int c) (h.map V.int)=decide (c∈h):=by induction h with
 |nil=>rfl
 |cons a r o=>
  show(a==c||Lu (.int c) (r.map V.int))=_;rw[o];by_cases e:c=a;. subst e;simp
  .simp[e,Ne.symm e]
theorem kN(neg:Bool)(c:Int)(h:List Int):wU neg (.int c) (hD h)=some (.bl (if neg then !decide (c∈h)else decide (c∈h))):=by simp[wU,hD,lJ,flat,yY,EA]
theorem i0(h:List Int):df (hD h)=some (bp (h.map .int)):=rfl
theorem cY{B:Type}(f:B->Bool)(as:List B):boolsOf (as.map λ a=> .bl (f a))=some (as.map f):=by induction as with
 |nil=>rfl
 |cons a r o=>simp[boolsOf,o]
theorem fj(xs:List B)(i:Nat)(h:i<xs.length):jS xs i=some xs[i]:=by
 have o:i<xs.length:=by omega
 simp[jS,vv,o]
theorem jD{i:Nat}(h:i<hs.length):j_ (.tup (hs.map hD)) (.int i)=some (hD (G hs i)):=by show jS _ _=_;rw[fj _ _ (by simp_all)];simp[G,h]
theorem cU(m:Int)(hs:List (List Int)):j_ (bB m hs) (.int 1)=some (.tup (hs.map hD)):=rfl
theorem ja(m:Int)(hs:List (List Int)):j_ (bB m hs) (.int 0)=some (.int m):=rfl
theorem vF(neg:Bool)(a b:Int):km neg (.int a) (.int b)=some (.bl (if neg then !decide (a=b)else decide (a=b))):=dq neg a b
theorem dz(neg:Bool)(a b:Nat):km neg (.int a) (.int b)=some (.bl (if neg then !decide (a=b)else decide (a=b))):=by rw[vF];simp[Int.natCast_inj]
theorem FL(neg:Bool)(xs:List D):km neg (.lst xs) (.lst [])=some (.bl (if neg then !xs.isEmpty else xs.isEmpty)):=by cases xs <;> simp[km,j8,fu,fu.go]
theorem gC(n:Nat):cJ 0 n=lD (List.range n):=by simp[cJ,lD]
theorem ko(n i:Nat)(h:i<(cJ 0 n).length):(cJ 0 n)[i]= .int i:=by simp[cJ]
structure JW (hs:List (List Int)) (ls:List Nat) (x:D):Prop where
 n:hs.length ≤ 6
 ln:ls.length ≤ 6
 lt:∀i ∈ ls,i < hs.length
 w:∀h ∈ hs,h.length ≤ 100
 x:df x=some (bp (lD ls))
noncomputable def shared(hs:List (List Int))(ls:List Nat)(n:Nat):List Int:=(G hs n).filter λ c=>ls.any λ o=>decide (o≠n)&&decide (c∈G hs o)
noncomputable def holders(hs:List (List Int))(ls:List Nat)(n:Nat):List Nat:=ls.filter λ o=>decide (o≠n)&&(shared hs ls n).all λ c=>decide (c∈G hs o)
theorem JW.g{x:D}(F:JW hs ls x)(i:Nat):(G hs i).length<=100:=by
 unfold G;by_cases h:i<hs.length;. rw[QP,kW h];exact F.w _ (QT h)
 simp_all
variable {hs:List (List Int)} {ls:List Nat} {x:D}
theorem tU(F:JW hs ls x)(n:Nat):(shared hs ls n).length<=100:=by have:=F.g n;have:=XA (λ c=>ls.any λ o=>decide (o≠n)&&decide (c∈G hs o)) (G hs n);unfold shared;omega
noncomputable def i_(hf:Nat->List Nat)(ls:List Nat):List D:=ls.filterMap λ n=>(hf n).head?.map λ(h:Nat)=> .tup [.int (n:Int),.int (h:Int)]
theorem kM(hf:Nat->List Nat){k:Nat}(h:k<ls.length):i_ hf (ls.take (k+1))=i_ hf (ls.take k)++((hf ls[k]).head?.map λ(h:Nat)=>D.tup [.int (ls[k]:Int),.int h]).toList:=by rw[ZD h];unfold i_;rw[List.filterMap_append];rfl
theorem yn(hf:Nat->List Nat)(ls:List Nat):(i_ hf ls).length<=ls.length:=List.length_filterMap_le _ _
theorem pz{i j:Int}(h: -(2^64)<j)(o:j<2^64):o9 (.int i) (.int j)=some (.int (i*j)):=by show(if((decide (-(2^64)<i)&&decide (i<2^64))||(decide (-(2^64)<j)&&decide (j<2^64)))=true then _ else _)=_;simp_all
theorem uh(ns:List Int)(k:Nat):∃c:Int,bL Dc wB [.lst (ns.map .int),.int k]=some (.int c):=by
 have:∃d,bL Dc wB [.lst (ns.map .int),.int k]=some d/\∃c,d= .int c:=by
  apply Fg;show Ok wB [.pu (.lst (ns.map .int)),.pu (.int k)] _;dsimp only[wB,qH];simp[cP,y9,di];by_cases h:k<ns.length
  .have e:j_ (.lst (ns.map .int)) (.int k)=some (.int ns[k]):=by
    show jS _ _=_;rw[fj _ _ (by simpa using h)];simp
   simp[h,e]
  .simp[h,o9,lL,di];omega
 obtain⟨d,e,c,rfl⟩:=this;simp_all
theorem m_law_take(n j:Int)(h:0<j)(C:j<1073741824):jr se oO [.int n] [.int j]=some (.int (n%j),[.int (n/j)]):=by
 have:∃d o,jr se oO [.int n] [.int j]=some (d,o)/\(d= .int (n%j)/\o=[.int (n/j)]):=by apply kr;show Ok oO [.ow true [.int n],.pu (.int j),.un] _;dsimp only[oO,lG];simp[Af,JR,di,j_,jS,vv,h,C]
 simp_all
theorem yz(ns:List Int)(k:Nat):∃n:Int,gK zA vN [.lst (ns.map .int),.int k]=some [.int n]:=by
 obtain⟨c,ec⟩:=uh ns k;have:∃d,gK zA vN [.lst (ns.map .int),.int k]=some d/\∃c,d=[.int c]:=by
  apply EK;show Ok vN [.pu (.lst (ns.map .int)),.pu (.int k),.un,.un,.un,.un] _;dsimp only[vN,td];simp[dg,ec,Af,JR,di,eY,flat,mN];by_cases h:c%2=0;. simp[h]
  .simp[h,k4,cQ];refine mF (cJ 0 24) (λ _ Y=>∃a b x,Y=[.pu (.lst (ns.map .int)),.pu (.int k),.pu (.int c),.pu (.int a),.pu (.int b),x]) ?_ (λ i C Y o=>?_) (λ Y o=>?_);. exact⟨_,_,_,rfl⟩
   .obtain⟨a,b,x,rfl⟩:=o;have I:i<24:=by simpa[cJ]using C
    have J:o9 (.int (7*(i:Int))) (.int (i:Int))=some (.int (7*(i:Int)*(i:Int))):=pz (by omega) (by omega);have U:∀z:Int,o9 (.int z) (.int 48271)=some (.int (z*48271)):= λ z=>pz (by omega) (by omega);have e4:∀z:Int,o9 (.int z) (.int 2147483647)=some (.int (z*2147483647)):= λ z=>pz (by omega) (by omega);have e5:o9 (.int 7) (.int i)=some (.int (7*i)):=pz (by omega) (by omega);have e6:o9 (.int 11) (.int k)=some (.int (11*k)):=by simp[o9,di]
    rw[ko];simp[J,U,e4,e5,e6,lL,di]
   .obtain⟨a,b,x,rfl⟩:=o;simp
 obtain⟨d,e,c,rfl⟩:=this;simp_all
noncomputable def pD(p:Nat×Nat):D:= .tup [.int (p.1:Int),.int (p.2:Int)]
noncomputable def cF(hs:List (List Int))(ls:List Nat):List (Nat×Nat):=ls.filterMap λ n=>(holders hs ls n).head?.map λ h=>(n,h)
theorem r_(hs:List (List Int))(ls:List Nat):i_ (holders hs ls) ls=(cF hs ls).map pD:=by unfold i_ cF;rw[List.map_filterMap];congr 1;funext n;cases(holders hs ls n).head? <;> rfl
noncomputable def gJ(hs:List (List Int)):Nat->List Nat->List (Nat×Nat)×List Nat
 |0,ls=>([],ls)
 |f+1,ls=>match cF hs ls with
  |[]=>([],ls)
  |p::_=>(p::(gJ hs f (ls.filter λ i=>decide (i≠p.1))).1,(gJ hs f (ls.filter λ i=>decide (i≠p.1))).2)
theorem il(h:cF hs ls=[]):∀f,gJ hs f ls=([],ls)
 |0=>rfl
 |f+1=>by unfold gJ;rw[h]
theorem fI(h:cF hs ls=p::r)(f:Nat):gJ hs (f+1) ls=(p::(gJ hs f (ls.filter λ i=>decide (i≠p.1))).1,(gJ hs f (ls.filter λ i=>decide (i≠p.1))).2):=by rw[gJ,h]
theorem fX(h:cF hs ls=p::r):p.1∈ls/\p.2∈holders hs ls p.1:=by
 have:p∈cF hs ls:=by rw[h];exact uT
 obtain⟨n,C,e⟩:=YS.mp this;obtain⟨o,I,rfl⟩:=Option.map_eq_some_iff.mp e;exact⟨C,List.mem_of_mem_head? I⟩
theorem g8(h:o∈holders hs ls n):o∈ls/\o≠n:=by obtain⟨I,C⟩:=uP.mp h;simp only[Z3,YC]at C;exact⟨I,C.1⟩
structure Fn (hs:List (List Int)) (ls:List Nat):Prop where
 n:hs.length ≤ 6
 ln:ls.length ≤ 6
 lt:∀i ∈ ls,i < hs.length
 w:∀h ∈ hs,h.length ≤ 100
 nd:ls.Nodup
 pos:1 ≤ ls.length
theorem Fn.fit(F:Fn hs ls)(h:df x=some (bp (lD ls))):JW hs ls x:=⟨F.n,F.ln,F.lt,F.w,h⟩
theorem lz(h:a∈ls):(ls.filter λ i=>decide (i≠a)).length<ls.length:=by simp_all
theorem Fn.next(F:Fn hs ls)(h:cF hs ls=p::r):Fn hs (ls.filter λ i=>decide (i≠p.1)):=by obtain⟨o,C⟩:=fX h;obtain⟨I,U⟩:=g8 C;have:=lz o;refine⟨F.n,by have:=F.ln;omega,λ i J=>F.lt i (uP.mp J).1,F.w,F.nd.filter _,?_⟩;exact ZT (uP.mpr ⟨I,by simp_all⟩)
variable {hs:List (List Int)} {ls:List Nat}
variable {hs:List (List Int)} {ls:List Nat}
theorem zr(ls:List Nat):lD ls=(ls.map λ(i:Nat)=>(i:Int)).map D.int:=by simp[lD]
theorem nF(a:Nat):∀ls:List Nat,(ls.map λ(i:Nat)=>(i:Int)).idxOf (a:Int)=ls.idxOf a
 |[]=>rfl
 |b::r=>by rw[ZH,XM,XM,nF a r];grind
theorem erase_filter(a:Nat):∀ls:List Nat,ls.Nodup->a∈ls->ls.eraseIdx (ls.idxOf a)=ls.filter λ i=>decide (i≠a)
 |[],_,h=>by cases h
 |b::r,nd,h=>by
  have o:=Q8.mp nd;by_cases e:b=a;. subst e;rw[List.idxOf_cons_self,List.eraseIdx_cons_zero,VR,gL (by simp)];symm;rw[List.filter_eq_self];intro c C;have:c≠b:= λ ec=>o.1 (ec▸C);simpa using this
  .have I:a∈r:=(wW.mp h).resolve_left λ J=>e J.symm;rw[XM,show(b==a)=false by simpa using e];simp only[cond_false];rw[List.eraseIdx_cons_succ,VR,gA (by simpa using e),erase_filter a r o.2 I]
variable {hs:List (List Int)} {ls:List Nat}
variable {hs:List (List Int)} {ls:List Nat} {x:D}
noncomputable def cT(m:Int)(h:List Int):Prop:=h≠[]/\h.Pairwise (. < .)/\∀c∈h,0<=c/\c<m
theorem vV:∀(l:List Int)(lo o:Int),l.Pairwise (. < .)->(∀y∈l,lo<=y/\y<o)->lo<=o->l.length<=o-lo
 |[],lo,o,_,_,h=>by simp;omega
 |z::t,lo,o,C,I,h=>by rw[ZI]at C;have hz:=I z uT;have:=vV t (z+1) o C.2 (λ y J=>⟨by grind,(I y (uN _ J)).2⟩) (by omega);grind
theorem cT.len(H:cT m h)(o:1<=m)(hm:m<=7):h.length<=7:=by have:=vV h 0 m H.2.1 H.2.2 (by omega);omega
theorem dt(a:Int):∀l:List Int,a∈gZ l↔a∈l
 |[]=>by simp[gZ]
 |x::r=>by
  unfold gZ;split
  .rename_i h;rw[dt a r,wW];constructor;. exact .inr
   .rintro(rfl|h');. exact(dt a r).mp h
    .exact h'
  .rw[wW,wW,dt a r]
theorem dI:∀l:List Int,(gZ l).Nodup
 |[]=>by simp[gZ]
 |x::r=>by
  unfold gZ;split;. exact dI r
  .rename_i h;exact Q8.mpr ⟨h,dI r⟩
theorem ju(h:l.Nodup):(bP l).Pairwise (. < .):=by refine((l4 l).and ((eJ l).nodup_iff.mpr h)).imp λ{a b} h=>?_;omega
theorem dh{l:List Int}:a∈bP l↔a∈l:=(eJ l).mem_iff
theorem fO(h:List Int):b_ (h.map .int)=some h:=by induction h with
 |nil=>rfl
 |cons a r o=>simp[b_,o]
theorem vZ(h:List Int):(gZ h).length<=h.length:=by induction h with
 |nil=>simp[gZ]
 |cons a r o=>unfold gZ;split <;> simp <;> omega
theorem jG(h:List Int):(bP h).length=h.length:=(eJ h).length_eq
theorem zY(hs:List (List Int))(n:Int)(I:0<hs.length):∃h∈hs,j_ (.lst (hs.map hD)) (.int (n%hs.length))=some (hD h):=by
 have J:=WN n (show(hs.length:Int)≠0 by omega);have U:=YT n (show(0:Int)<hs.length by omega);obtain⟨j,C⟩:∃j:Nat,n%hs.length=j:=⟨(n%hs.length).toNat,by omega⟩;have o:j<hs.length:=by omega
 refine⟨hs[j],QT o,?_⟩;rw[C];show jS _ _=_;rw[fj _ _ (by simp_all)];simp
theorem hO{B A:Type}(f:B->A):∀(l:List B)(j:Nat),(l.map f).eraseIdx j=(l.eraseIdx j).map f
 |[],_=>rfl
 |_::_,0=>rfl
 |a::r,j+1=>by show f a::(r.map f).eraseIdx j=f a::(r.eraseIdx j).map f;rw[hO f r j]
theorem fS(xs:List D):dE [.lst xs]=some (.tup xs):=rfl
variable {hs:List (List Int)} {ls:List Nat}
variable {hs:List (List Int)} {ls:List Nat}
variable {hs:List (List Int)} {ls:List Nat}
end
end K16
local macro_rules | `(tactic| rfl')=>`(tactic| repeat (first
 | with_reducible first | apply Jt.oBind | apply Jt.oPure | apply Jt.oM2 | apply Jt.oMC | apply Jt.oCons | apply Jt.oM1 | apply Jt.oMQ | apply Jt.oTup | apply Jt.oLst | apply Jt.oSq | apply Jt.oSqO | apply Jt.oStP | apply Jt.oStO | apply Jt.oIf | apply Jt.oAnd | apply Jt.oOr | apply Jt.oNot | apply Jt.oAsB | apply Jt.oAsI | apply Jt.oBox | apply Jt.oTurn | apply Jt.oIsi | apply Jt.oH2 | apply Jt.oRd | apply Jt.oConH | apply Jt.oSl | apply Jt.oTc | apply Jt.oTn | apply Jt.oSqSP | apply Jt.oChn | apply Jt.ChE.t | apply Jt.ChE.f | apply Jt.oSqN | apply Jt.oSqR
 | ((with_reducible first | apply Jt.oGet | apply Jt.oPeek | apply Jt.oLen | apply Jt.oSet | apply Jt.oTake | apply Jt.oIxO | apply Jt.oRdL | apply Jt.oOwn | apply Jt.oTg | apply Jt.oApp | apply Jt.oSqA | apply Jt.oPop);exact rfl)
 | ((with_reducible first | apply Jt.oCall | apply Jt.oCallF);exact rfl;with_reducible assumption)
 | ((with_reducible apply Jt.oLift);first | with_reducible assumption | exact rfl)
 | ((with_reducible apply Jt.BxE.mk);exact rfl;exact rfl;first | with_reducible assumption | exact K16.m_law_take _ _ (by omega) (by omega))
 | ((with_reducible apply Jt.ApE.mk);exact rfl;first | assumption | (simp only [uL,gE,QU,VO];omega))
 | ((with_reducible apply Jt.PpE.mk);exact rfl;omega;with_reducible assumption)
 | ((with_reducible apply Jt.IxE.mk);exact rfl;first | with_reducible assumption | exact rfl)
 | ((with_reducible show _=_);exact rfl) | refine And.intro rfl ?_ | refine Jt.oL rfl ?_ | ((with_reducible apply Jt.oT);exact rfl) | ((with_reducible apply Jt.oF);exact rfl) | ((with_reducible apply Jt.oT);first | assumption | exact QN (by assumption)) | ((with_reducible apply Jt.oF);first | assumption | exact QR (by assumption))))
namespace K16
open PySem L2 Jt
noncomputable def LQ(d:D)(xs:List D):Prop:=∃(m:Int) (hs:List (List Int)) (n:Int),d=bB m hs/\xs=[.int n]/\1<=hs.length/\hs.length<=6/\(1<=m/\m<=7)/\∀h∈hs,cT m h
noncomputable def Qz:Fl->DS->Prop:= λ C Y=>∃d o,C= .rt d/\Y[0]?=some (.ow true o)/\LQ d o
theorem vS{M:Nat}(h:M<=1000):k4 [.int (M:Int)]=some (bp (lD (List.range M))):=by
 have:cQ M=true:=by simp[cQ];omega
 simp[k4,this,gC]
theorem GF{M S k:Nat}(I:3<=S)(C:S<=M)(J:k<S):cT M (bP [(k:Int),((k:Int)+1)%(S:Int)]):=by
 have g1:=WN ((k:Int)+1) (show(S:Int)≠0 by omega);have g2:=YT ((k:Int)+1) (show(0:Int)<S by omega);have ne:(k:Int)≠((k:Int)+1)%(S:Int):=by
  by_cases e:k+1=S
  .rw[show(k:Int)+1=(S:Int)by omega,Int.emod_self];omega
  .rw[Int.emod_eq_of_lt (by omega) (by omega)];omega
 refine⟨λ z=>?_,ju (by simp[ne]),λ c J=>?_⟩
 .have:=jG [(k:Int),((k:Int)+1)%(S:Int)];rw[z]at this;cases this
 .rw[dh]at J;simp only[wW,ZC,YD]at J;rcases J with rfl|rfl <;> omega
theorem D_{M S k:Nat}(U:3<=S)(C:S<=M):cT M (((List.range S).filter λ i=>decide (i≠k)).map λ(i:Nat)=>(i:Int)):=by
 refine⟨λ z=>?_,?_,λ c J=>?_⟩
 .have:(if k=0 then 1 else 0)∈(List.range S).filter λ i=>decide (i≠k):=uP.mpr ⟨wL.mpr (by split <;> omega),by simp;split <;> omega⟩
  rw[List.map_eq_nil_iff.mp z]at this;cases this
 .exact ZX.mpr (((List.pairwise_lt_range).filter _).imp λ{a b}(q:a<b)=>by show(a:Int)<(b:Int);omega)
 .obtain⟨i,hi,rfl⟩:=fN.mp J;have:=wL.mp (uP.mp hi).1;omega
theorem Bt(b:Nat):lL (.int 1) (.int b)=some (.int ((1+b:Nat):Int)):=rfl
theorem k3(n:Int){P:Nat}(h:1<=P):∃M:Nat,n%(P:Int)=(M:Int)/\M<P:=by
 have h1:=WN n (show(P:Int)≠0 by omega);have h2:=YT n (show(0:Int)<P by omega);exact⟨(n%(P:Int)).toNat,by omega,by omega⟩
theorem filterMap_some{B A:Type}(f:B->A)(as:List B):(as.filterMap λ a=>some (f a))=as.map f:=by simp
inductive GS(M Z k:Nat)(way:Int):DS->Prop
 |mk(n:Int)(hs:List (List Int))(a b c d:Jt.Slot)(hl:hs.length=k)(hq:∀h∈hs,cT M h):GS M Z k way [.ow true [.int n],.pu (.int M),.pu (.int way),.pu (.int Z),.ow false (hs.map hD),a,b,c,d,.un,.un]
inductive PS(M Z k:Nat)(way:Int)(hs:List (List Int)):DS->Prop
 |mk(n:Int)(x:D)(cs:List Int)(c d:Jt.Slot)(hx:lJ x=some (cs.map .int))(hl:cs.length<=14)(hc:∀c∈cs,0<=c/\c<(M:Int)):PS M Z k way hs [.ow true [.int n],.pu (.int M),.pu (.int way),.pu (.int Z),.ow false (hs.map hD),.pu (.int k),.pu x,c,d,.un,.un]
theorem w8{m:Nat}(hm:1<=m)(hM:m<100)(cs:List Int)(n0:Int){a1 a2 a3 a4 a5 a6 a7 a8 a9 a10:Jt.Slot}{fi:Jt.M iQ}{Q:List D->DS->Prop}(hl:cs.length<=7)
 (hi:Ok fi [.ow true [.int n0],a1,a2,a3,a4,a5,a6,a7,a8,a9,a10] λ it o=>it=bp (cs.map .int)/\o=[.ow true [.int n0],a1,a2,a3,a4,a5,a6,a7,a8,a9,a10])
 (hQ:∀(n:Int) (U:List Int),U.length<=7->(∀c∈U,c∈cs)->Q (U.map .int) [.ow true [.int n],a1,a2,a3,a4,a5,a6,a7,a8,a9,a10]):
 Ok (f_ 11 1 fi (gp (ka 11) (m2 (eY false) (do let _<- cZ 0;rP 0 2 (jr se oO) (iG (pure (.int m)) (pure []))) (pure (.int 0)) >>= qk) (cB 11))) [.ow true [.int n0],a1,a2,a3,a4,a5,a6,a7,a8,a9,a10] Q:=by
 refine gB (cs.map .int) (λ _ acc Y=>∃(n:Int) (U:List Int),acc=U.map .int/\Y=[.ow true [.int n],a1,a2,a3,a4,a5,a6,a7,a8,a9,a10]/\∀c∈U,c∈cs) rfl hi (by simp;omega) ⟨n0,[],rfl,rfl,by simp⟩ ?_ ?_
 .rintro j hj acc _ ha hl ⟨n,U,rfl,rfl,I⟩
  have hj:j<cs.length:=by simpa using hj
  rw[List.getElem_map]
  have et:=m_law_take n m (by omega) (by omega)
  have e0:=dq false (n%m) 0
  rfl'
  by_cases q:n%m=0
  .rw[QN q]at*;rfl';exact⟨_,U++[cs[j]],by rw[ZP];rfl,rfl,λ c J=>(fD.mp J).elim (I c) λ z=>jP.mp z▸QT hj⟩
  .rw[QR q]at*;rfl';exact⟨_,U,ZU _,rfl,I⟩
 .rintro xs _ hx _ ⟨n,U,rfl,rfl,I⟩
  exact hQ n U (by simp at hx;omega) I
theorem pX(n0:Int):∃d aj,jr mW Kg [.int n0] []=some (d,aj)/\LQ d aj:=by
 apply kr;show Ok Kg [.ow true [.int n0],.un,.un,.un,.un,.un,.un,.un,.un,.un,.un] Qz;dsimp only[Kg,z9]
 obtain⟨m,hm,ml⟩:=k3 n0 (P:=7) (by omega)
 obtain⟨z,hz,zl⟩:=k3 (n0/7/6) (P:=6) (by omega)
 have t1:=m_law_take n0 7 (by omega) (by omega);rw[show n0%7=(m:Int) from hm]at t1
 have t3:=m_law_take (n0/7/6) 6 (by omega) (by omega);rw[show n0/7/6%6=(z:Int) from hz]at t3
 have s1:=Bt m;have s3:=Bt z
 have M1:1<=1+m:=by omega
 have M7:1+m<=7:=by omega
 have Z1:1<=1+z:=by omega
 have Z6:1+z<=6:=by omega
 generalize 1+m=M at *;generalize 1+z=Z at *
 rfl'
 generalize n0/7%6=way;generalize n0/7/6/6=n
 have eq:∀j,eY false (.int way) (.int j)=some (.bl (decide (way=j))):=dq false way;have e4:=eq 4;have e5:=eq 5;have e3:=eq 3
 have eg:Kj (.int M) (.int 2)=some (.bl (decide (2<M))):=by show some (D.bl _)=_;refine ZO (λ b=>some (D.bl b)) ?_;rw[Y7];omega
 have fin:∀(f:Nat->List Int)(S:Nat)(n:Int),3<=S->S<=6->(∀k,k<S->cT M (f k))->∃d o,(Fl.rt (.tup [.int M,.tup ((List.range S).map λ k=>hD (f k))]):Fl)=.rt d/\([.ow true [.int n]]:List Jt.Slot)[0]?=some (.ow true o)/\LQ d o:=λ f S n h3 h6 hf=>⟨_,_,rfl,rfl,M,(List.range S).map f,n,by simp[bB],rfl,by simp;omega,by simp;omega,⟨by omega,by omega⟩,λ h C=>by obtain⟨k,hk,rfl⟩:=fN.mp C;exact hf k (wL.mp hk)⟩
 have mm:rL [.int M,.int 6]=some (.int (min M 6:Nat)):=by show some (D.int _)=_;refine ZO (λ z:Int=>some (D.int z)) ?_;split <;> omega
 refine fg (decide (way=4)&&decide (2<M)) ?_ ?_ ?_
 .generalize decide (way=4)=a at *;generalize decide (2<M)=b at *;cases a <;> cases b <;> rfl'
 .intro hb;obtain⟨-,hm⟩:=XH.mp hb;have hm:=VF hm
  generalize hN:min M 6=N at *
  have rN:=vS (M:=N) (by omega)
  rfl'
  refine bx (List.range N) (λ(k:Nat)=> .int (k:Int)) (λ k=>some (hD (bP [(k:Int),((k:Int)+1)%(N:Int)]))) rfl (by rfl') (by simp;omega) (λ k _=>?_) ?_
  .have:(0:Int)<N:=by omega
   have em:Af (.int ((k:Int)+1)) (.int N)=some (.int (((k:Int)+1)%(N:Int))):=by simp[Af,di];omega
   rfl'
  .rw[filterMap_some];rfl';exact⟨_,rfl,fin _ N n (by omega) (by omega) λ k hk=>GF (by omega) (by omega) hk⟩
 intro _;refine fg (decide (way=5)&&decide (2<M)) ?_ ?_ ?_
 .generalize decide (way=5)=a at *;generalize decide (2<M)=b at *;cases a <;> cases b <;> rfl'
 .intro hb;obtain⟨-,hm⟩:=XH.mp hb;have hm:=VF hm
  obtain⟨N,hN,N1,N2⟩:∃N:Nat,ub (.int (min M 6:Nat)) (.int 2)=some (.int N)/\1<=N/\N+2=min M 6:=⟨min M 6-2,by show some (D.int _)=_;refine ZO (λ z:Int=>some (D.int z)) ?_;omega,by omega,by omega⟩
  obtain⟨k,hk,kl⟩:=k3 n N1
  have tN:=m_law_take n N (by omega) (by omega);rw[hk]at tN
  have rN:=vS (M:=3+k) (by omega)
  have sk:lL (.int 3) (.int k)=some (.int (3+k:Nat)):=rfl
  rfl'
  refine bx (List.range (3+k)) (λ(k:Nat)=> .int (k:Int)) (λ j=>some (hD (((List.range (3+k)).filter λ i=>decide (i≠j)).map λ(i:Nat)=>(i:Int)))) rfl (by rfl') (by simp;omega) (λ j _=>?_) ?_
  .rfl'
   refine bx (List.range (3+k)) (λ(k:Nat)=> .int (k:Int)) (λ i=>if decide (i≠j)=true then some (.int (i:Int))else none) rfl (by rfl') (by simp;omega) (λ i _=>?_) ?_
   .have ej:=dz true i j
    by_cases e:i=j
    .rw[QN e]at ej;rw[show decide (i≠j)=false by simp[e]];rfl'
    .rw[QR e]at ej;rw[QN e];rfl'
   .rw[bX];rfl';exact⟨by simp[hD],rfl⟩
  .rw[filterMap_some];rfl';exact⟨_,rfl,fin _ (3+k) _ (by omega) (by omega) λ j hj=>D_ (by omega) (by omega)⟩
 intro _
 have rM:=vS (M:=M) (by omega);have rZ:=vS (M:=Z) (by omega)
 have rM':lD (List.range M)=((List.range M).map Nat.cast).map .int:=by simp[lD]
 rw[rM']at rM
 have eL:y9 (.int way) (.int 3)=some (.bl (decide (way<3))):=rfl
 rfl'
 refine B4 (lD (List.range Z)) (λ k Y=>GS M Z k way Y) (by rfl') ⟨_,[],_,_,_,_,rfl,by simp⟩ ?_ ?_
 .rintro k hk _ ⟨n,hs,a,b,c,d,hk',hq⟩
  have hk:k<Z:=by simpa[lD]using hk
  rw[show (lD (List.range Z))[k]=.int k by simp[lD]]
  have L:=uL (as:=hs) hD
  have en:OG true (.lst (hs.map hD)) (.lst [])=some (.bl (decide (0<hs.length))):=by cases hs <;> rfl
  rfl'
  refine w8 (m:=3) (by omega) (by omega) ((List.range M).map Nat.cast) n (by simp;omega) (by rfl') λ n U Ul Uc=>?_
  have Uc:∀c∈U,0<=c/\c<(M:Int):=λ c hc=>by obtain⟨i,hi,rfl⟩:=fN.mp (Uc c hc);have:=wL.mp hi;omega
  have pick:∀(n:Int),0<hs.length->∃h∈hs,j_ (.lst (hs.map hD)) (.int (n%((hs.map hD).length:Int)))=some (hD h)/\h.length<=7/\jr se oO [.int n] [.int ((hs.map hD).length:Int)]=some (.int (n%((hs.map hD).length:Int)),[.int (n/((hs.map hD).length:Int))]):=λ n hp=>by
   obtain⟨h,C,eh⟩:=zY hs n hp;exact⟨h,C,by rw[L];exact eh,(hq h C).len (by omega) (by omega),m_law_take _ _ (by omega) (by omega)⟩
  rfl'
  refine c5 (PS M Z k way hs) ?_ ?_
  .refine oIf ?_
   generalize decide (way<3)=p at *;cases p
   .rfl';exact .mk _ _ U _ _ rfl (by omega) Uc
   cases hp:decide (0<hs.length) <;> rw[hp]at en
   .rfl';exact .mk _ _ U _ _ rfl (by omega) Uc
   obtain⟨h,C,eh,h7,et⟩:=pick n (VF hp)
   rfl'
   refine bx U .int (λ c=>if ((hs.filter λ h=>decide (c∈h)).map hD).isEmpty=true then some (.int c)else none) rfl (by rfl') (by omega) (λ c J=>?_) ?_
   .rfl'
    refine sM (i:=4) (b:=false) hs hD (λ h=>if decide (c∈h)=true then some (hD h)else none) rfl rfl (by rfl';simp) (by omega) (λ h C=>?_) ?_
    .have e:=kN false c h;cases q:decide (c∈h) <;> rw[q]at e <;> rfl'
    .rw[bX];have e:=FL false ((hs.filter λ h=>decide (c∈h)).map hD);cases q:((hs.filter λ h=>decide (c∈h)).map hD).isEmpty <;> rw[q]at e <;> rfl'
   rw[bX];have fl:=XA (λ c=>((hs.filter λ h=>decide (c∈h)).map hD).isEmpty) U;have fm:∀c∈U.filter λ c=>((hs.filter λ h=>decide (c∈h)).map hD).isEmpty,0<=c/\c<(M:Int):=λ c hc=>Uc c (uP.mp hc).1
   generalize (U.filter λ c=>((hs.filter λ h=>decide (c∈h)).map hD).isEmpty)=F at *
   rfl'
   refine w8 (m:=2) (by omega) (by omega) h _ h7 (by rfl') λ n V Vl Vc=>?_
   have ec:LB (.lst (F.map .int)) (.lst (V.map .int))=some ((F++V).map .int):=by rw[ZP];exact gA (by simp;omega)
   rfl'
   exact .mk _ _ (F++V) _ _ rfl (by simp;omega) λ c hc=>(fD.mp hc).elim (fm c) λ z=>(hq h C).2.2 c (Vc c z)
  rintro _ ⟨n,x,cs,c,d,hx,hl,hc⟩
  refine c5 (PS M Z k way hs) ?_ ?_
  .refine oIf ?_
   generalize decide (way=3)=p at *;cases p
   .rfl';exact .mk _ _ cs _ _ hx hl hc
   cases hp:decide (0<hs.length) <;> rw[hp]at en
   .rfl';exact .mk _ _ cs _ _ hx hl hc
   obtain⟨h,C,eh,h7,et⟩:=pick (n/4) (VF hp)
   have e2:=dq false (n%4) 0
   by_cases q:n%4=0
   .rw[QN q]at e2;rfl';exact .mk _ _ h _ _ rfl (by omega) (hq h C).2.2
   .rw[QR q]at e2;rfl';exact .mk _ _ cs _ _ hx hl hc
  rintro _ ⟨n,x,cs,c,d,hx,hl,hc⟩
  have dl:=vZ cs
  have es:ku (cs.map .int)=some ((bP (gZ cs)).map .int):=by simp[ku,fO];omega
  have fin:∀{n:Int}{g:List Int}{a b c d:Jt.Slot},cT M g->GS M Z (k+1) way [.ow true [.int n],.pu (.int M),.pu (.int way),.pu (.int Z),.ow false (hs.map hD++[hD g]),a,b,c,d,.un,.un]:=λ{n g a b c d} hg=>by
   have:=GS.mk (Z:=Z) (way:=way) (k:=k+1) n (hs++[g]) a b c d (by simp[hk']) (λ h' av=>(fD.mp av).elim (hq h') λ z=>by rw[jP.mp z];exact hg)
   rwa [ZP]at this
  rfl'
  refine Jz.mpr ?_
  have gn:=ju (dI cs);have gm:∀c∈bP (gZ cs),0<=c/\c<(M:Int):=λ c J=>hc c ((dt c cs).mp (dh.mp J))
  generalize bP (gZ cs)=g at *
  cases g with
  |nil=>
   obtain⟨j,hj,jl⟩:=k3 n M1
   have et:=m_law_take n M (by omega) (by omega);rw[hj]at et
   rfl';exact fin (g:=[(j:Int)]) ⟨by simp,by simp,λ c J=>by rw[jP.mp J];omega⟩
  |cons a r=>rfl';exact fin (g:=a::r) ⟨by simp,gn,gm⟩
 rintro _ ⟨n,hs,a,b,c,d,hl,hq⟩
 have hl:hs.length=Z:=hl.trans (by simp[lD])
 have rZ':iY [.int Z]=some (lD (List.range Z)):=by
  have:(Z:Int)<100000:=by omega
  simp[iY,this,gC]
 rfl'
 refine gB (lD (List.range Z)) (λ k acc Y=>∃(n:Int) (ls os:List Nat),acc=lD os/\Y=[.ow true [.int n],.pu (.int M),.pu (.int way),.pu (.int Z),.ow false (hs.map hD),a,b,c,d,.ow false (lD ls),.un]/\os.length=k/\ls.length+k=Z/\(∀o∈os,o<Z)/\∀o∈ls,o<Z) rfl (by rfl') (by simp[lD];omega) ⟨n,List.range Z,[],rfl,rfl,rfl,by simp,by simp,by simp⟩ ?_ ?_
 .rintro k hk acc _ ha _ ⟨n,ls,os,rfl,rfl,h1,h2,h3,h4⟩
  have hk:k<Z:=by simpa[lD]using hk
  have ll:(lD ls).length=ls.length:=by simp[lD]
  obtain⟨j,hj,jl⟩:=k3 n (P:=(lD ls).length) (by omega)
  have et:=m_law_take n (lD ls).length (by omega) (by omega);rw[hj]at et
  have eg:(lD ls)[j]?=some (.int (ls[j]'(by omega):Nat)):=by simp[lD];exact⟨_,kW (by omega),rfl⟩
  rw[show (lD (List.range Z))[k]=.int k by simp[lD]]
  rfl'
  refine⟨_,ls.eraseIdx j,os++[ls[j]'(by omega)],by simp[lD],by rw[lD,hO];rfl,by simp[h1],by rw[Y3,gA (by omega)];omega,λ o ho=>(fD.mp ho).elim (h3 o) λ z=>?_,λ o ho=>h4 o (List.mem_of_mem_eraseIdx ho)⟩
  rw[jP.mp z];exact h4 _ (QT _)
 rintro _ _ - - ⟨n,ls,os,rfl,rfl,h1,-,h3,-⟩
 rfl'
 refine bx os (λ (k:Nat)=>.int (k:Int)) (λ k=>some (hD (G hs k))) rfl (by rfl') (by simp[lD]at h1;omega) (λ k hk=>?_) ?_
 .have ei:j_ (.lst (hs.map hD)) (.int (k:Int))=some (hD (G hs k)):=jD (by have:=h3 k hk;omega)
  rfl'
 rw[filterMap_some];rfl'
 exact⟨_,_,rfl,rfl,M,os.map (G hs),n,by simp[bB],rfl,by simp[h1,lD];omega,by simp[h1,lD];omega,⟨by omega,by omega⟩,λ h C=>by
  obtain⟨k,hk,rfl⟩:=fN.mp C;have aa:k<hs.length:=by have:=h3 k hk;omega
  exact hq _ (by simp[G,aa])⟩
section
theorem NX(h w:List Int)(hw:w.length<=100):bL zH Dk [hD h,hD w]=some (.bl (w.all λ c=>decide (c∈h))):=by
 apply br;show Ok Dk [.pu (hD h),.pu (hD w)] _;dsimp only[Dk,sX];simp;refine bx w .int (λ c=>some (.bl (decide (c∈h)))) rfl ?_ (by omega) (λ c _=>?_) ?_;. simp[i0]
 .simp[kN]
 .simp[p4,cY]
theorem CG(m:Int)(hs:List (List Int))(C:hs.length<=6):bL IU Bg [bB m hs]=some (.tup (lD (List.range hs.length))):=by
 apply br;show Ok Bg [.pu (bB m hs)] _;dsimp only[Bg,mz];have o:(hs.length:Int)<100000:=by omega
 simp[cU,cP,iY,o,gC]
variable {hs:List (List Int)} {ls:List Nat} {x:D}
theorem I0(F:JW hs ls x)(m:Int){n:Nat}(I:n<hs.length):bL rJ CY [bB m hs,x,.int n]=some (hD (shared hs ls n)):=by
 apply br;show Ok CY [.pu (bB m hs),.pu x,.pu (.int n),.un,.un] _;dsimp only[CY,nC];simp[cU];refine bx ls (λ i=> .int i) (λ i=>if decide (i≠n)=true then some (hD (G hs i))else none) rfl ?_ (by have:=F.ln;omega) (λ i C=>?_) ?_;. simp[F.x,lD]
 .have:=F.lt i C;by_cases e:i=n <;> simp[dz,jD,this,e]
 rw[bX];simp;refine bx (G hs n) .int (λ c=>if(ls.any λ o=>decide (o≠n)&&decide (c∈G hs o))=true then some (.int c)else none) rfl ?_ (by have:=F.g n;omega) (λ c J=>?_) ?_;. simp[jD,I,i0]
 .simp;refine bx (ls.filter λ i=>decide (i≠n)) (λ i=>hD (G hs i)) (λ o=>some (.bl (decide (c∈G hs o)))) rfl ?_ (by have:=F.ln;grind) (λ i C=>?_) ?_;. simp[df]
  .simp[kN]
  .simp[AO,cY,iq]
 .rw[bX];simp[dE,lJ,hD,shared]
theorem Hr(F:JW hs ls x)(m:Int){n:Nat}(C:n<hs.length):gK C8 zB [bB m hs,x,.int n]=some (lD (holders hs ls n)):=by
 apply kE;show Ok zB [.pu (bB m hs),.pu x,.pu (.int n),.un,.un] _;dsimp only[zB,oA];simp[cU,I0 F m C];refine bx ls (λ i=> .int i) (λ o=>if(decide (o≠n)&&(shared hs ls n).all λ c=>decide (c∈G hs o))=true then some (.int o)else none) rfl ?_ (by have:=F.ln;omega) (λ i I=>?_) ?_;. simp[F.x,lD]
 .have:=F.lt i I;by_cases e:i=n;. simp[dz,e]
  .simp[dz,e,jD,this,NX _ _ (tU F n),iq]
 .rw[bX];simp[lD,holders]
theorem Hy(F:JW hs ls x)(m:Int):gK Cf vt [bB m hs,x]=some (i_ (holders hs ls) ls):=by
 apply kE;show Ok vt [.pu (bB m hs),.pu x,.un,.un,.un] _;dsimp only[vt,oE];simp[F.x];refine mF (lD ls) (λ k Y=>∃a b,Y=[.pu (bB m hs),.pu x,.ow false (i_ (holders hs ls) (ls.take k)),a,b]) ?_ (λ k J Y I=>?_) (λ Y I=>?_);. exact⟨.un,.un,rfl⟩
 .obtain⟨a,b,rfl⟩:=I;have C:k<ls.length:=by simpa[lD]using J
  have hl:ls[k]<hs.length:=F.lt _ (QT C);have U:(lD ls)[k]= .int (ls[k]:Int):=by simp[lD]
  rw[U];simp[Hr F m hl,iq];cases q:holders hs ls ls[k]with
  |nil=>rw[gA (by simp[lD])];rw[kM _ C,q];simp
  |cons o r=>
   refine fV ⟨_,_,rfl⟩ ?_;simp[lD,j_,jS,vv];have:(i_ (holders hs ls) (ls.take k)).length<=100000:=by have h1:=yn (holders hs ls) (ls.take k);have h2:=F.ln;rw[VB]at h1;omega
   refine⟨this,?_⟩;rw[kM _ C,q];simp
 .obtain⟨a,b,rfl⟩:=I;simp[lD]
end
section
variable {ls:List Nat}
theorem Hk(hx:df x=some (bp (lD ls)))(hl:ls.length<=6)(a:Nat):bL De BH [x,.int a]=some (.tup (lD (ls.filter λ i=>decide (i≠a)))):=by
 apply br;show Ok BH [.pu x,.pu (.int a)] _;dsimp only[BH,oI];simp;refine bx ls (λ i=> .int i) (λ i=>if decide (i≠a)=true then some (.int i)else none) rfl ?_ (by omega) (λ i o=>?_) ?_;. simp[hx,lD]
 .by_cases e:i=a <;> simp[dz,e]
 .rw[bX];simp[dE,lJ,lD]
theorem HY(neg:Bool)(a:Nat)(ls:List Nat):wU neg (.int a) (.lst (lD ls))=some (.bl (if neg then !decide (a∈ls)else decide (a∈ls))):=by
 have e:lD ls=(ls.map λ(i:Nat)=>(i:Int)).map D.int:=by simp[lD]
 have:=kN neg a (ls.map λ(i:Nat)=>i);rw[e,show∀xs:List D,wU neg (.int a) (.lst xs)=wU neg (.int a) (.tup xs)from λ _=>rfl,show D.tup ((ls.map λ(i:Nat)=>(i:Int)).map D.int)=hD (ls.map λ(i:Nat)=>i)from rfl,this];grind
theorem AW(neg:Bool)(a:Nat)(ls:List Nat):wU neg (.int a) (.tup (lD ls))=some (.bl (if neg then !decide (a∈ls)else decide (a∈ls))):=HY neg a ls
end
section
variable {hs:List (List Int)} {ls:List Nat}
noncomputable def isInt:D->Bool
 | .int _=>true
 |_=>false
noncomputable def dk(n:Int):D->Bool
 | .int i=>decide (0<=i)&&decide (i<n)
 |_=>false
theorem Dh(x:D):bL HG BW [x]=some (.bl (isInt x)):=by apply br;show Ok BW [.pu x] _;dsimp only[BW,qR];cases x <;> simp[rG,isInt]
theorem C_(x:D)(n:Int):bL Aa wk [x,.int n]=some (.bl (dk n x)):=by apply br;show Ok wk [.pu x,.pu (.int n)] _;dsimp only[wk,l_];cases x with
 |int i=>
  by_cases h:0<=i;. simp[dg,Dh,isInt,dk,P2,y9,di,h]
  .simp[dg,Dh,isInt,dk,P2,y9,di,h]
 |_=>simp[Dh,isInt,dk]
noncomputable def gY(n:Int):D->Bool
 | .tup xs=>xs.all (dk n)
 |_=>false
noncomputable def Short(x:D):Prop:=∀xs,x= .tup xs->xs.length<=60
theorem xk(n:Int)(h:Short x):bL BR Cz [x,.int n]=some (.bl (gY n x)):=by apply br;show Ok Cz [.pu x,.pu (.int n)] _;dsimp only[Cz,oM];cases x with
 |tup xs=>
  have hl:=h xs rfl;simp;refine bx xs id (λ x=>some (.bl (dk n x))) rfl ?_ (by omega) (λ x hx=>?_) ?_;. simp[df]
  .simp[C_]
  .simp[p4,cY,gY]
 |_=>simp[rG,gY]
theorem iH{n:Nat}:∀{xs:List D},xs.all (dk n)=true->∃ls:List Nat,xs=lD ls/\∀i∈ls,i<n
 |[],_=>⟨[],rfl,by simp⟩
 |x::xs,h=>by simp only[WG,Z3]at h;obtain⟨ls,rfl,hl⟩:=iH h.2;cases x with
  |int i=>
   simp[dk]at h;refine⟨i.toNat::ls,?_,?_⟩;. simp[lD];omega
   simp_all
  |_=>simp[dk]at h
noncomputable def jB(n:Int)(d:D):Bool:=gY n d&&match d with
 | .tup [_,_]=>true
 |_=>false
theorem LJ(n:Int)(h:Short x):bL N3 JX [x,.int n]=some (.bl (jB n x)):=by apply br;show Ok JX [.pu x,.pu (.int n)] _;dsimp only[JX,yc];have e:=xk n h;cases q:gY n x with
 |false=>
  rw[q]at e;have:jB n x=false:=by unfold jB;rw[q];rfl
  rw[this];simp[dg,e]
 |true=>cases x with
  |tup xs=>
   have:jB n (.tup xs)=decide (xs.length=2):=by unfold jB;rw[q,Bool.true_and];match xs with
    |[]=>rfl
    |[_]=>rfl
    |[_,_]=>rfl
    |_::_::_::r=>simp
   have o:cP [.tup xs]=some (.int xs.length):=by simp[cP]
   have eq:eY false (.int xs.length) (.int 2)=some (.bl (decide (xs.length=2))):=by rw[dq];simp only[ZE,YO];rw[Y7.mpr (show((xs.length:Int)=2)↔xs.length=2 by omega)]
   simp_all
  |_=>simp[gY]at q
noncomputable def gQ(hs:List (List Int))(ls:List Nat):D->Bool
 | .tup [.int a,.int b]=>(decide (0<=a)&&(decide (a<hs.length)&&(decide (0<=b)&&decide (b<hs.length))))&&(decide (a.toNat∈ls)&&decide (b.toNat∈holders hs ls a.toNat))
 |_=>false
noncomputable def rF:D->Nat
 | .tup (.int a::_)=>a.toNat
 |_=>0
theorem Ar{n:Nat}{d:D}(h:jB n d=true):∃a b:Nat,d=pD (a,b)/\a<n/\b<n:=by unfold jB at h;cases d with
 |tup xs=>obtain⟨C,o⟩:=XH.mp h;obtain⟨ls,rfl,hl⟩:=iH (n:=n) C;match ls,o,hl with
  |[a,b],_,hl=>exact⟨a,b,rfl,hl a (by simp),hl b (by simp)⟩
  |[],o,_=>cases o
  |[_],o,_=>cases o
  |_::_::_::_,o,_=>cases o
 |_=>simp_all
theorem jN(a b:Nat)(o:a<hs.length)(C:b<hs.length):gQ hs ls (pD (a,b))=(decide (a∈ls)&&decide (b∈holders hs ls a)):=by show((decide (0<=a)&&(decide ((a:Int)<hs.length)&&(decide (0<=b)&&decide ((b:Int)<hs.length))))&&(decide ((a:Int).toNat∈ls)&&decide ((b:Int).toNat∈holders hs ls (a:Int).toNat)))=_;simp_all
theorem lU(h:gQ hs ls d=true):∃a b:Nat,d=pD (a,b)/\a<hs.length/\b<hs.length/\a∈ls/\b∈holders hs ls a:=by
 unfold gQ at h;split at h;. rename_i a b;simp at h;obtain⟨⟨o,U,C,h4⟩,I,J⟩:=h;refine⟨a.toNat,b.toNat,?_,by omega,by omega,I,J⟩;show _=D.tup [.int a.toNat,.int b.toNat];rw[WC o,WC C]
 grind
theorem pJ(h:jB hs.length d=false):gQ hs ls d=false:=by cases q:gQ hs ls d with
 |false=>rfl
 |true=>
  obtain⟨a,b,rfl,o,C,_,_⟩:=lU q;have:jB hs.length (pD (a,b))=true:=by show(((decide (0<=a)&&decide ((a:Int)<hs.length))&&((decide (0<=b)&&decide ((b:Int)<hs.length))&&true))&&true)=true;simp_all
  simp_all
theorem NH(F:Fn hs ls)(m:Int){d:D}(h:Short d):bL IA Iq [bB m hs,.tup (lD ls),d]=some (.bl (gQ hs ls d)):=by
 apply br;show Ok Iq [.pu (bB m hs),.pu (.tup (lD ls)),.pu d,.un,.un] _;have e:=LJ hs.length h;have e1:=cU m hs;have en:cP [.tup (hs.map hD)]=some (.int hs.length):=by simp[cP]
 have I:= λ a (o:a<hs.length)=>Hr (F.fit (x:= .tup (lD ls)) rfl) m o;refine fg (!jB hs.length d) ?_ (λ J=>?_) (λ J=>?_);. simp[e1,en,e,iq]
 .have:jB hs.length d=false:=by simpa using J
  rw[pJ this];simp
 .have:jB hs.length d=true:=by simpa using J
  obtain⟨a,b,rfl,o,U⟩:=Ar this;rw[jN a b o U];have C:=AW false a ls;have i2:=HY false b (holders hs ls a);have I:=I a o;by_cases q:a∈ls;. rw[QN q]at C|-;simp[pD,C,I,i2]
  .rw[QR q]at C|-;simp[pD,C]
end
section
variable {hs:List (List Int)} {ls:List Nat}
noncomputable def kC(hs:List (List Int)):List D->List Nat->Option (List Nat)
 |[],ls=>some ls
 |d::r,ls=>if gQ hs ls d=true then kC hs r (ls.filter λ i=>decide (i≠rF d))else none
theorem fK(d:D)(r:List D):kC hs (d::r) ls=if gQ hs ls d=true then kC hs r (ls.filter λ i=>decide (i≠rF d))else none:=rfl
noncomputable def tq:Option (List Nat)->D
 |none=> .non
 |some ls=> .tup (lD ls)
noncomputable def jk(hs:List (List Int)):D->D
 | .lst xs=>tq (kC hs xs (List.range hs.length))
 |_=> .non
noncomputable def Ma(x:D):Prop:=∀xs,x= .lst xs->xs.length<=60/\∀d∈xs,Short d
theorem Fn.step(F:Fn hs ls){a b:Nat}(o:a∈ls)(C:b∈holders hs ls a):Fn hs (ls.filter λ i=>decide (i≠a)):=by obtain⟨b1,U⟩:=g8 C;have I:=lz o;exact⟨F.n,by have:=F.ln;omega,λ i J=>F.lt i (uP.mp J).1,F.w,F.nd.filter _,ZT (uP.mpr ⟨b1,by simp_all⟩)⟩
theorem Nt(m:Int)(F0:Fn hs (List.range hs.length)){x:D}(hx:Ma x):bL Mu Kc [bB m hs,x]=some (jk hs x):=by apply br;show Ok Kc [.pu (bB m hs),.pu x,.un,.un] _;dsimp only[Kc,xR];cases x with
 |lst xs=>
  obtain⟨hl,I⟩:=hx xs rfl;have ea:=CG m hs F0.n;have es:= λ(ls:List Nat) (F:Fn hs ls) (d:D) (h:Short d)=>NH F m h;rw[show jk hs (.lst xs)=tq (kC hs xs (List.range hs.length))from rfl];generalize bB m hs=lay at*;refine fg false (by simp[b6,rG,iq]) (λ h=>by cases h) λ _=>?_;refine c5 (λ Y=>Y=[.pu lay,.pu (.lst xs),.pu (.tup (lD (List.range hs.length))),.un]) (by simp[dg,ea]) ?_;rintro _ rfl;rw[ck];refine we xs (λ k Y=>∃(ls:List Nat) (J:Jt.Slot),Y=[.pu lay,.pu (.lst xs),.pu (.tup (lD ls)),J]/\Fn hs ls/\kC hs (xs.drop k) ls=kC hs xs (List.range hs.length)) (by simp[df]) ⟨_,_,rfl,F0,rfl⟩ ?_ ?_
  .rintro k hk _ ⟨ls,J,rfl,F,o⟩;rw[ff];refine⟨by simp,?_⟩;simp only[V9,KW];have hd:=I xs[k] (QT hk);have e:=es ls F xs[k] hd;rw[QM hk]at o;rw[fK]at o;generalize ab:xs[k]=d at*;refine fg (!gQ hs ls d) ?_ (λ C=>?_) (λ C=>?_);. simp[dg,e,iq]
   .have C:gQ hs ls d=false:=by simpa using C
    rw[gL (by rw[C];exact uS)]at o;rw[<- o];simp[tq]
   .have C:gQ hs ls d=true:=by simpa using C
    rw[gA C]at o;obtain⟨a,b,rfl,ha,ae,U,aa⟩:=lU C;have e0:j_ (pD (a,b)) (.int 0)=some (.int (a:Int)):=rfl;have eb:=Hk (x:= .tup (lD ls)) rfl F.ln a;simp[dg,e0,eb];exact⟨ls.filter λ i=>decide (i≠a),by simp,F.step U aa,o⟩
  .rintro _ ⟨ls,J,rfl,F,o⟩;rw[<- o];simp[kC,tq]
 |_=>simp[b6,rG,iq,jk]
noncomputable def u7:D->Bool
 | .non=>false
 |_=>true
theorem Md(m:Int)(o:Fn hs (List.range hs.length)){x:D}(hx:Ma x):bL Dv xa [bB m hs,x]=some (.bl (u7 (jk hs x))):=by
 apply br;show Ok xa [.pu (bB m hs),.pu x] _;dsimp only[xa,qF];have e:=Nt m o hx;have C:vk true (jk hs x) .non=some (.bl (u7 (jk hs x))):=by cases x with
  |lst xs=>show vk true (tq (kC hs xs (List.range hs.length))) .non=some (.bl (u7 (tq (kC hs xs (List.range hs.length)))));cases kC hs xs (List.range hs.length) <;> rfl
  |_=>rfl
 simp_all
end
section
variable {hs:List (List Int)} {ls:List Nat}
theorem Ij(m:Int)(o:Fn hs (List.range hs.length)):gK Ip Bh [bB m hs]=some ((gJ hs hs.length (List.range hs.length)).1.map pD):=by
 apply kE;show Ok Bh [.pu (bB m hs),.un,.un,.un] _;dsimp only[Bh,n_];have J:∀ls,Fn hs ls->gK Cf vt [bB m hs,.tup (lD ls)]=some ((cF hs ls).map pD):= λ ls F=>by rw[Hy (F.fit rfl) m,r_]
 simp[dg,CG m hs o.n,J _ o];refine wI (λ k Y=>∃(ls:List Nat) (done:List (Nat×Nat)),Y=[.pu (bB m hs),.pu (.tup (lD ls)),.ow false (done.map pD),.pu (.lst ((cF hs ls).map pD))]/\Fn hs ls/\ls.length<=k/\done.length+k<=6/\done++(gJ hs k ls).1=(gJ hs hs.length (List.range hs.length)).1) ?_ 8 hs.length _ (by have:=o.n;omega) ?_;. rintro k _ ⟨ls,done,rfl,F,hl,hd,I⟩;cases q:cF hs ls with
  |nil=>rw[il q]at I;simp[iq];simpa using ZO (List.map pD) I
  |cons p r=>obtain⟨h1,h2⟩:=fX q;have aa:=lz h1;cases k with
   |zero=>omega
   |succ k=>
    rw[fI q]at I;have eb:=Hk (ls:=ls) (x:= .tup (lD ls)) rfl F.ln p.1;have e0:j_ (.lst (pD p::r.map pD)) (.int 0)=some (pD p):=by simp[j_,jS,vv]
    have ei:j_ (pD p) (.int 0)=some (.int (p.1:Int)):=rfl;simp[iq];refine fV ⟨_,_,rfl⟩ ?_;have U:done.length<=100000:=by omega
    simp[e0,U,ei,dg,eb,J _ (F.next q)];have C:=J _ (F.next q);simp at C;simp[C];refine⟨ls.filter λ i=>decide (i≠p.1),done++[p],by simp,F.next q,by omega,by simp;omega,by simpa using I⟩
 .exact⟨List.range hs.length,[],rfl,o,by simp,by have:=o.n;simpa using this,by simp⟩
end
section
variable {ls:List Nat}
theorem Aw(n:Nat):∀(a b:List Int),fu.go (n+1) (a.map D.int) (b.map D.int)=some (decide (a.take b.length=b.take a.length)):=by intro a;induction a with
 |nil=>intro b;cases b <;> simp[fu.go]
 |cons x r o=>intro b;cases b with
  |nil=>simp[fu.go]
  |cons y t=>
   by_cases e:x=y;. subst e;simp[fu.go,fu,flat,yZ,o]
   .simp[fu.go,fu,flat,yZ,e,o]
theorem jw(ls:List Nat):(lD ls).length=ls.length:=by simp[lD]
end
section
theorem uw:∀(hs:List (List Int))(n:Nat),jQ n (hs.map hD)=(List.range hs.length).map λ i=> .tup [.int ((n+i:Nat):Int),hD (G hs i)]:=by intro hs;induction hs with
 |nil=>intro n;rfl
 |cons h r o=>intro n;show D.tup [.int n,hD h]::jQ (n+1) (r.map hD)=_;rw[o,QU,W5,ZH,Q2];congr 1;refine QQ λ i _=>?_;simp[G];omega
end
section
variable {n:Nat}
theorem tQ:∀(n:Nat)(ls:List Nat),ls.Nodup->(∀i∈ls,i<n)->ls.length<=n
 |0,[],_,_=>wN _
 |0,a::r,_,h=>absurd (h a uT) (YU a)
 |n+1,ls,o,h=>by
  have C:=tQ n (ls.erase n) (o.erase n) λ i I=>by grind
  grind
end
section
variable {hs:List (List Int)} {ls:List Nat}
theorem dq(neg:Bool)(a b:Int):eY neg (.int a) (.int b)=some (.bl (if neg then !decide (a=b)else decide (a=b))):=by simp[eY,flat,mN]
theorem CF{n:Nat}(ls:List Nat):(lD ls).all (dk n)=ls.all λ i=>decide (i<n):=by unfold lD;rw[List.all_map];refine List.all_congr rfl λ i=>?_;simp[dk]
theorem nD:∀l:List Int,(gZ l).length=l.length↔l.Nodup
 |[]=>by simp[gZ]
 |x::r=>by
  have o:=vZ r;unfold gZ;rw[Q8,<- nD r];split;. rename_i h;rw[dt]at h;grind
  .rename_i h;rw[dt]at h;simp[h]
theorem qI:(ls.map λ(i:Nat)=>(i:Int)).Nodup↔ls.Nodup:=by
 constructor;. intro h;exact List.Pairwise.of_map (S:=(. ≠ .)) _ (λ a b o e=>o (by rw[e])) h
 .intro h;exact List.Pairwise.map _ (λ a b o e=>o (XT.mp e)) h
theorem mq(ls:List Nat):b_ (lD ls)=some (ls.map λ(i:Nat)=>(i:Int)):=by
 have:lD ls=(ls.map λ(i:Nat)=>(i:Int)).map .int:=by simp[lD]
 rw[this,fO]
theorem Mr(ls:List Nat)(h:ls.length<=60):bL IK C7 [.tup (lD ls)]=some (.bl (decide ls.Nodup)):=by
 apply br;show Ok C7 [.pu (.tup (lD ls))] _;dsimp only[C7,sD];have o:ls.length<4000:=by omega
 have e:((gZ (ls.map λ(i:Nat)=>i)).length=ls.length)=ls.Nodup:=by have:=nD (ls.map λ(i:Nat)=>i);rw[uL]at this;exact propext (this.trans qI)
 simp[lJ,ud,mq,o,cP,dq];rw[show(lD ls).length=ls.length by simp[lD]];simp[Int.natCast_inj,e]
noncomputable def Good(n:Nat)(ls:List Nat):Prop:=ls.length=n/\ls.Nodup/\∀i∈ls,i<n
theorem Bw(e:lD ls=lD o):ls=o:=by have:=ZO b_ e;rw[mq,mq]at this;exact List.map_inj_right (λ a b q=>XT.mp q) |>.mp (Q9 this)
theorem OQ(n:Nat)(h:Short x):∃b,bL MX uG [x,.int n]=some (.bl b)/\(b=true↔ ∃ls,x= .tup (lD ls)/\Good n ls):=by cases o:gY n x with
 |false=>
  refine⟨false,br ?_,?_⟩;. show Ok uG [.pu x,.pu (.int n)] _;dsimp only[uG,uA];simp[dg,xk _ h,o]
  .simp only[ZE,false_iff];rintro⟨ls,rfl,_,_,U⟩;rw[gY,CF]at o;rw[List.all_eq_false]at o;obtain⟨i,hi,C⟩:=o;exact C (QN (U i hi))
 |true=>cases x with
  |tup xs=>
   obtain⟨ls,rfl,hl⟩:=iH o;have hlen:ls.length<=60:=by simpa[lD]using h _ rfl
   have ei:((ls.length:Int)=n)=(ls.length=n):=propext XT;by_cases q:ls.length=n
   .refine⟨decide ls.Nodup,br ?_,?_⟩
    .show Ok uG [.pu (.tup (lD ls)),.pu (.int n)] _;dsimp only[uG,uA];simp[xk _ h,o,cP,dq,q,Mr _ hlen,jw]
    .rw[YC];constructor;. intro hn;exact⟨ls,rfl,q,hn,hl⟩
     .rintro⟨I,e,_,h2,_⟩;rw[Bw (D.tup.inj e)];exact h2
   .refine⟨false,br ?_,?_⟩;. show Ok uG [.pu (.tup (lD ls)),.pu (.int n)] _;dsimp only[uG,uA];simp[xk _ h,o,cP,dq,jw,ei,q]
    .simp only[ZE,false_iff];rintro⟨I,e,J,_⟩;rw[<- Bw (D.tup.inj e)]at J;exact q J
  |_=>cases o
noncomputable def pl(os:List Nat)(c:Int):Int:=((os.idxOf c.toNat:Nat):Int)
variable {M:Nat} {os:List Nat}
theorem lA(h:Good M os){c:Nat}(C:c<M):c∈os:=by
 obtain⟨U,I,J⟩:=h;refine Y8 λ q=>?_;have:=tQ M (c::os) (Q8.mpr ⟨q,I⟩) λ i o=>by
  rcases wW.mp o with rfl|o
  .exact C
  .exact J i o
 grind
theorem vP(h:Good M os){c:Nat}(o:c<M):∃q:os.idxOf c<os.length,os[os.idxOf c]=c:=⟨WJ.mpr (lA h o),List.getElem_idxOf _⟩
theorem EN(h:Good M os){a b:Nat}(o:a<M)(C:b<M)(e:os.idxOf a=os.idxOf b):a=b:=by obtain⟨I,J⟩:=vP h o;simp_all
theorem FA{l:List Nat}(o:l.Nodup){k:Nat}(C:k<l.length):l.idxOf l[k]=k:=by simp_all
theorem MI(h:Good M os){c:Int}(h0:0<=c)(o:c<M):0<=pl os c/\pl os c<M:=by obtain⟨q,_⟩:=vP h (c:=c.toNat) (by omega);rw[h.1]at q;unfold pl;omega
theorem ug(h:Good M os){a b:Int}(o:0<=a/\a<M)(C:0<=b/\b<M)(e:pl os a=pl os b):a=b:=by have:=EN h (a:=a.toNat) (b:=b.toNat) (by omega) (by omega) (by unfold pl at e;omega);omega
noncomputable def nm(os:List Nat)(hs:List (List Int)):List (List Int):=hs.map λ h=>bP (h.map (pl os))
theorem qo(g:Good M os){h:List Int}(I:h.Nodup)(C:∀c∈h,0<=c/\c<M):(h.map (pl os)).Nodup:=by unfold List.Nodup;rw[ZX];exact List.Pairwise.imp_of_mem (λ{a b} J o q e=>q (ug g (C a J) (C b o) e)) I
theorem Bk(H:cT m h):h.Nodup:=H.2.1.imp λ{a b} q e=>by omega
theorem HX(g:Good M os){h:List Int}(H:cT M h):cT M (bP (h.map (pl os))):=by
 refine⟨λ e=>?_,ju (qo g (Bk H) H.2.2),λ c C=>?_⟩;. have:=ZO List.length e;rw[jG,uL]at this;exact H.1 (V3.mp this)
 .obtain⟨a,o,rfl⟩:=fN.mp (dh.mp C);exact MI g (H.2.2 a o).1 (H.2.2 a o).2
theorem d4(o:a<hs.length):G hs a∈hs:=by
 have:G hs a=hs[a]:=by simp[G,o]
 simp_all
theorem Df(o:a<hs.length):G (nm os hs) a=bP ((G hs a).map (pl os)):=by simp[G,nm,o]
end
section
variable {hs:List (List Int)} {ls os:List Nat} {M:Nat}
theorem AR{B:Type}{lo own:Nat}{Y:DS}{fi:Jt.M iQ}{turn:D->Jt.M (Option (Int×Int))}{Q:D->DS->Prop}(as:List B)(e:B->D)(g:B->Option (Int×Int))(hl:Y.length=lo)(hi:Ok fi Y λ it C=>it=bp (as.map e)/\C=Y)(hn:as.length<=100000)
  (ht:∀a∈as,Ok (turn (e a)) (Y++List.replicate own .un) λ o I=>o=g a/\I.take lo=Y)(hQ:Q (.dic (as.foldl (λ acc a=>FW acc (g a)) [])) Y):Ok (o7 lo own fi turn) Y Q:=by
 have gen:∀(es:List B)(acc:List (Int×Int)),(∀d∈es,d∈as)->gU own turn (λ _=>true) (bp (es.map e)).1 acc Y=some (es.foldl (λ acc a=>FW acc (g a)) acc,Y):=by intro es;induction es with
  |nil=>intro acc _;rfl
  |cons d es ih=>intro acc hs;obtain⟨o,I,J,e0,U⟩:=ht d (hs d uT);show gU own turn (λ _=>true) ((λ _=>some (e d))::(bp (es.map e)).1) acc Y=_;unfold gU;dsimp only;rw[J];dsimp only;rw[hl,U,ih _ λ x hx=>hs x (uN _ hx),e0];rfl
 unfold o7;simp only[bA];refine⟨(),Y,by unfold gz;rw[gA hl],hi.mono λ it C ⟨J,U⟩=>?_⟩;subst J U;refine fA.mpr ⟨by simpa[bp]using hn,_,C,gen as [] λ _ h=>h,?_⟩;simp_all
theorem mj(ns:List Int)(h:ns.length<=60):sortI (ns.map .int)=some ((bP ns).map .int):=by unfold sortI;rw[fO];exact gA (by omega)
theorem HS(C:∀h∈hs,∀c∈h,ir places (.int c)=some (.int (pf c)))(U:hs.length<=6)(h7:∀h∈hs,h.length<=7):bL xr zP [.tup (hs.map hD),places]=some (.tup ((hs.map λ h=>bP (h.map pf)).map hD)):=by
 apply br;show Ok zP [.pu (.tup (hs.map hD)),.pu places] _;dsimp only[zP,ny];simp;refine bx hs hD (λ h=>some (hD (bP (h.map pf)))) rfl (by simp[df]) (by omega) (λ h o=>?_) ?_
 .simp only[kZ,ff];refine⟨by simp,?_⟩;simp;have I:=h7 h o;refine bx h .int (λ c=>some (.int (pf c))) rfl (by simp[i0]) (by omega) (λ c J=>?_) ?_;. have:=C h o c J;simp[this]
  .have:=mj (h.map pf) (by simpa using Q3 I (by decide));simp[lJ,Function.comp_def]at this|-;simp[this,fS,hD]
 .simp[fS]
noncomputable def zd:Nat->List Nat->List (Int×Int)
 |_,[]=>[]
 |n,c::r=>((c:Int),(n:Int))::zd (n+1) r
theorem sH:∀(os:List Nat)(n:Nat),jQ n (lD os)=(zd n os).map λ p=> .tup [.int p.2,.int p.1]
 |[],_=>rfl
 |c::r,n=>by show D.tup [.int n,.int c]::jQ (n+1) (lD r)=_;rw[sH r (n+1)];rfl
theorem qr:∀(os:List Nat)(n:Nat),(zd n os).map (·.1)=os.map λ(i:Nat)=>(i:Int)
 |[],_=>rfl
 |c::r,n=>by show(c:Int)::(zd (n+1) r).map (·.1)=_;rw[qr r (n+1)];rfl
theorem xo:∀(os:List Nat)(n:Nat),(zd n os).length=os.length
 |[],_=>rfl
 |c::r,n=>by show(zd (n+1) r).length+1=_;rw[xo r (n+1)];rfl
theorem Ej{k v:Int}(h:k∉acc.map (·.1)):mZ acc k v=acc++[(k,v)]:=by unfold mZ;rw[gL];intro q;obtain⟨p,o,e⟩:=VC.mp q;exact h (fN.mpr ⟨p,o,VF e⟩)
theorem vC:∀(ps acc:List (Int×Int)),((acc++ps).map (·.1)).Nodup->ps.foldl (λ acc a=>FW acc (some (a.1,a.2))) acc=acc++ps
 |[],acc,_=>(ZU _).symm
 |p::ps,acc,h=>by
  have o:p.1∉acc.map (·.1):=by rw[ZP,VZ]at h;intro q;exact h.2.2 _ q _ (fN.mpr ⟨p,uT,rfl⟩) rfl
  show ps.foldl _ (mZ acc p.1 p.2)=_;rw[Ej o,vC ps (acc++[(p.1,p.2)]) (by rwa [ZY])];simp
theorem qt:∀(os:List Nat)(n:Nat)(c:Nat),c∈os->k_ (zd n os) c=some ((n+os.idxOf c:Nat):Int)
 |d::r,n,c,h=>by
  show Option.map (·.2) (List.find? (λ p=>decide (p.1=(c:Int))) (((d:Int),(n:Int))::zd (n+1) r))=_;rw[V6];by_cases q:d=c;. subst q;simp
  .have C: ¬((d:Int)=c):= λ z=>q (XT.mp z);have I:c∈r:=by
    rcases wW.mp h with e|e
    .exact absurd e.symm q
    .exact e
   have o:=qt r (n+1) c I;unfold k_ at o;simp only[C,decide_false];have J:(d==c)=false:=by simp[q]
   rw[o,XM,J,show n+1+r.idxOf c=n+(r.idxOf c+1)by omega];rfl
theorem dD:∀(l:List Nat)(j:Nat)(h:j<l.length),(l[j]::l.eraseIdx j).Perm l
 |a::r,0,_=>VG _
 |a::r,j+1,h=>(List.Perm.swap a (r[j]'(Nat.lt_of_succ_lt_succ h)) (r.eraseIdx j)).trans ((dD r j (Nat.lt_of_succ_lt_succ h)).cons a)
theorem sY(n0:Int){Z:Nat}(hZ:Z<=7):∃d C,jr A3 A6 [.int n0] [.int Z]=some (d,C)/\(∃os:List Nat,d= .tup (lD os)/\Good Z os)/\∃n:Int,C=[.int n]:=by
 apply kr;show Ok A6 [.ow true [.int n0],.pu (.int Z),.un] _;dsimp only[A6,rK];have hn:(Z:Int)<100000:=by omega
 have sZ:cQ Z=true:=by simp[cQ];omega
 refine c5 (λ Y=>Y=[.ow true [.int n0],.pu (.int Z),.ow false (lD (List.range Z))]) (by simp[iY,hn,gC]) ?_;rintro _ rfl;simp only[bA,xu,fP,bK];refine gB (cJ 0 Z) (λ k acc Y=>∃(n:Int) (ls os:List Nat),acc=lD os/\Y=[.ow true [.int n],.pu (.int Z),.ow false (lD ls)]/\(os.length=k/\ls.length+k=Z)/\(os++ls).Perm (List.range Z)) rfl ?_ (by simp[cJ];omega) ⟨n0,List.range Z,[],rfl,rfl,⟨rfl,by simp⟩,by simp⟩ ?_ ?_;. simp[k4,sZ]
 .rintro k hk acc _ ha hl ⟨n,ls,os,rfl,rfl,⟨J,U⟩,I⟩;have aa:k<Z:=by simpa[cJ]using hk
  have et:=m_law_take n ls.length (by omega) (by omega);have g1:=WN n (show(ls.length:Int)≠0 by omega);have g2:=YT n (show(0:Int)<ls.length by omega);obtain⟨j,hj⟩:∃j:Nat,n%(ls.length:Int)=(j:Int):=⟨(n%(ls.length:Int)).toNat,by omega⟩;have o:j<ls.length:=by omega
  rw[hj]at et;simp only[kZ,ff,bK];refine⟨by simp,?_⟩;refine vp ⟨_,_,rfl⟩ ?_;simp[-Prod.exists,jw,et];refine⟨j,rfl,by omega,.int (ls[j]:Int),by simp[lD,o],_,ls.eraseIdx j,os++[ls[j]],by simp[lD],⟨rfl,hO _ ls j⟩,⟨by simp[J],?_⟩,?_⟩;. rw[Y3,gA o];omega
  .rw[ZY];exact(List.Perm.append_left os (dD ls j o)).trans I
 .rintro xs _ hx hl ⟨n,ls,os,rfl,rfl,⟨J,U⟩,I⟩;have e:(cJ 0 Z).length=Z:=by simp[cJ]
  rw[e]at J U;have e0:ls=[]:=V3.mp (by omega);subst e0;rw[ZU]at I;simp[dE,lJ];exact⟨os,rfl,J,I.symm.nodup Q7,λ i hi=>wL.mp (I.mem_iff.mp hi)⟩
end
section
variable {hs:List (List Int)} {os:List Nat} {M:Nat}
theorem Mm(g:Good M os)(hM:M<=7)(C:hs.length<=6)(H:∀h∈hs,cT M h)(h7:∀h∈hs,h.length<=7):bL qK Ih [bB M hs,.tup (lD os)]=some (bB M (nm os hs)):=by
 apply br;show Ok Ih [.pu (bB M hs),.pu (.tup (lD os)),.un,.un] _;have sh:Short (.tup (lD os)):= λ xs e=>by cases e;rw[jw,g.1];omega
 obtain⟨b,I,o⟩:=OQ M sh;have o:b=true:=o.mpr ⟨os,rfl,g⟩;subst o;have J:=HS (hs:=hs) (places:= .dic (zd 0 os)) (pf:=pl os) (λ h U c hc=>by have b:=(H h U).2.2 c hc;obtain⟨k,rfl⟩:∃k:Nat,c=k:=⟨c.toNat,by omega⟩;show(k_ (zd 0 os) k).map D.int=_;rw[qt os 0 k (lA g (by omega))];simp[pl]) C h7;refine c5 (λ Y=>Y=[.pu (bB M hs),.pu (.tup (lD os)),.pu (.int M),.pu (.tup (hs.map hD))]) (by unfold bB;simp) ?_;rintro _ rfl;refine fg false ?_ (λ h=>by cases h) λ _=>?_;. simp[I,iq]
 .simp;refine AR (zd 0 os) (λ p=> .tup [.int p.2,.int p.1]) (λ p=>some (p.1,p.2)) rfl ?_ (by rw[xo,g.1];omega) (λ p _=>?_) ?_;. simp[p_,pV,sH]
  .unfold qE;simp
  .rw[vC (zd 0 os) [] (by rw[List.nil_append,qr];exact qI.mpr g.2.1)];simp[J,bB,nm]
end
section
variable {hs:List (List Int)} {M:Nat}
theorem IZ(C:hs.length<=6)(c:Nat)(I:c<M):bL zU HV [bB M hs,.int c]=some (.tup (lD (vc hs c))):=by
 apply br;show Ok HV [.pu (bB M hs),.pu (.int c),.un,.un] _;refine c5 (λ Y=>Y=[.pu (bB M hs),.pu (.int c),.pu (.int M),.pu (.tup (hs.map hD))]) ?_ ?_;. simp[bB]
 rintro _ rfl;have o:bL Aa wk [.int c,.int M]=some (.bl true):=by rw[C_];simp[dk];omega
 refine fg false ?_ (by simp) λ _=>?_;. simp[o,iq]
 simp;refine bx (List.range hs.length) (λ i=> .tup [.int i,hD (G hs i)]) (λ i=>if decide ((c:Int)∈G hs i)=true then some (.int i)else none) rfl ?_ (by simp;omega) (λ i J=>?_) ?_;. have:=uw hs 0;simp[p_,pV,this]
 .by_cases q:(c:Int)∈G hs i <;> simp[kN,q]
 .rw[bX];simp[dE,lJ,lD,vc,co,G]
theorem GH{body:Jt.M Fl}{ds:List D}(h:Ok body (entry N ds) λ o _=>o= .nx):bL N body ds=some .non:=by obtain⟨z,C,e,rfl⟩:=h;unfold bL;rw[e]
theorem iK(hs:List (List Int)):cP [.tup (hs.map hD)]=some (.int hs.length):=by simp[cP]
theorem F7{a n:Nat}(h:a<n):dk n (.int a)=true:=by simp[dk];omega
theorem Bp(m:Int)(h:a<hs.length):bL IV Iu [bB m hs,.int a]=some .non:=by
 apply GH;show Ok Iu [.pu (bB m hs),.pu (.int a)] _;have e:=C_ (.int a) hs.length;rw[F7 h]at e;have o:=cU m hs;have C:=iK hs;generalize bB m hs=lay at*;refine yv (λ b Y=>b=false/\Y=[.pu lay,.pu (.int a)]) ?_ (λ _ h=>by cases h.1) ?_;. simp[e,o,C,iq]
 simp
noncomputable def xg(hs:List (List Int))(a b:Nat):List Int:=(G hs a).filter λ c=>decide (c∈G hs b)
theorem Nx(m:Int)(h7:∀h∈hs,h.length<=7){a b:Nat}(o:a<hs.length)(C:b<hs.length):bL CU Iw [bB m hs,.int a,.int b]=some (hD (xg hs a b)):=by
 apply br;show Ok Iw [.pu (bB m hs),.pu (.int a),.pu (.int b),.un] _;have I:=Bp m o;have J:=Bp m C;have U:=cU m hs;have ga:=jD o;have gb:=jD C;have g7:(G hs a).length<=7:=by
  have:G hs a=hs[a]:=by simp[G,o]
  rw[this];exact h7 _ (QT o)
 generalize bB m hs=lay at*;refine c5 (λ Y=>Y=[.pu lay,.pu (.int a),.pu (.int b),.un]) (by simp[I]) ?_;rintro _ rfl;refine c5 (λ Y=>Y=[.pu lay,.pu (.int a),.pu (.int b),.un]) (by simp[J]) ?_;rintro _ rfl;refine c5 (λ Y=>Y=[.pu lay,.pu (.int a),.pu (.int b),.pu (.tup (hs.map hD))]) (by simp[U]) ?_;rintro _ rfl;simp;refine bx (G hs a) .int (λ c=>if decide (c∈G hs b)=true then some (.int c)else none) rfl ?_ (by omega) (λ c _=>?_) ?_;. simp[ga,i0]
 .by_cases q:c∈G hs b <;> simp[gb,kN,q]
 .rw[bX];simp[fS,xg,hD]
theorem nX{k:Nat}(h:k<H.length):j_ (.tup (lD H)) (.int k)=some (.int ((H.getD k 0:Nat):Int)):=by show jS (lD H) k=_;rw[fj (lD H) k (by rw[jw];exact h)];simp[lD,h]
theorem o3{k:Nat}(h:k<H.length):ir (.tup (lD H)) (.int k)=some (.int ((H.getD k 0:Nat):Int)):=nX h
noncomputable def chg(x y:Nat)(l:List Nat):List Nat:=l.map λ z=>if z=x then y else z
noncomputable def lnk(l:List Nat)(a b:Nat):List Nat:=chg (max (l.getD a 0) (l.getD b 0)) (min (l.getD a 0) (l.getD b 0)) l
theorem BP(h6:l.length<=6){a b:Nat}(U:a<l.length)(hb:b<l.length):bL vQ Dr [.tup (lD l),.int a,.int b]=some (.tup (lD (lnk l a b))):=by
 apply br;show Ok Dr [.pu (.tup (lD l)),.pu (.int a),.pu (.int b),.un,.un] _;have I:=nX U;have J:=nX hb;have mn:rL [.int ((l.getD a 0:Nat):Int),.int ((l.getD b 0:Nat):Int)]=some (.int ((min (l.getD a 0) (l.getD b 0):Nat):Int)):=by simp[rL];congr 2;omega
 have mx:rA [.int ((l.getD a 0:Nat):Int),.int ((l.getD b 0:Nat):Int)]=some (.int ((max (l.getD a 0) (l.getD b 0):Nat):Int)):=by simp[rA];congr 2;omega
 have si:df (.tup (lD l))=some (bp (l.map λ(i:Nat)=>D.int i)):=rfl;unfold lnk;generalize min (l.getD a 0) (l.getD b 0)=o at*;generalize max (l.getD a 0) (l.getD b 0)=C at*;generalize((l.getD a 0:Nat):Int)=ya at*;generalize((l.getD b 0:Nat):Int)=yb at*;generalize D.tup (lD l)=ld at*;refine c5 (λ Y=>Y=[.pu ld,.pu (.int a),.pu (.int b),.pu (.int o),.un]) (by simp[I,J,mn]) ?_;rintro _ rfl;refine c5 (λ Y=>Y=[.pu ld,.pu (.int a),.pu (.int b),.pu (.int o),.pu (.int C)]) (by simp[I,J,mx]) ?_;rintro _ rfl;simp[bA,xu,fP,bK];refine bx l (λ i=> .int i) (λ z=>some (.int ((if z=C then o else z:Nat):Int))) rfl ?_ (by omega) (λ z _=>?_) ?_;. simp[si]
 .by_cases q:z=C;. simp[dz,q]
  .simp[dz,q]
 .simp[fS,chg,lD]
structure EB (n:Nat) (l:List Nat) (T:List Pr):Prop where
 len:l.length=n
 eq:∀a b,a < n->b < n->(l.getD a 0=l.getD b 0 ↔ cX T a b)
theorem pd(n:Nat):EB n (List.range n) []:=⟨QJ,λ a b o C=>by simp[YL o,YL C];exact⟨λ h=>by cases h;exact .refl _,λ h=>h.nil⟩⟩
theorem vL{x y a:Nat}{l:List Nat}(o:a<l.length):(chg x y l).getD a 0=if l.getD a 0=x then y else l.getD a 0:=by unfold chg;simp[kW o]
theorem EB.lnk(h:EB n l T){u v:Nat}(I:u<n)(J:v<n):EB n (lnk l u v) (T++[(u,v)]):=by
 refine⟨by unfold K16.lnk chg;rw[uL];exact h.len,λ a b o C=>?_⟩;have e:cX (T++[(u,v)]) a b↔cX ((u,v)::T) a b:=⟨cX.mono λ e he=>by
  rcases fD.mp he with z|z
  .exact uN _ z
  simp_all,cX.mono λ e he=>by
  rcases wW.mp he with z|z
  .rw[z];exact fD.mpr (.inr (jP.mpr rfl))
  simp_all⟩;rw[e,qQ,<- h.eq a b o C,<- h.eq a u o I,<- h.eq v b J C,<- h.eq a v o J,<- h.eq u b I C];unfold K16.lnk;rw[vL (by rw[h.len];exact o),vL (by rw[h.len];exact C)];grind
theorem Kr{acc:Jt.PL}{Y:DS}{Q:Jt.PL->DS->Prop}(ds:List D)(I:Nat->Jt.PL->DS->Prop)(hi:Ok fi Y λ it J=>it=bp ds/\J=Y)(hn:ds.length<=1000)(h0:I 0 acc Y)
  (ht:∀k(hk:k<ds.length) acc Y,I k acc Y->Ok (turn ds[k]) Y λ o U=>I (k+1) (KS acc o) U)(hQ:∀acc Y,I ds.length acc Y->Q acc Y):Ok (uc fi turn acc) Y Q:=by
 have gen:∀(m k:Nat)(acc:Jt.PL)(Y:DS),ds.length-k=m->k<=ds.length->I k acc Y->∃C J,gV turn (λ _=>true) (bp (ds.drop k)).1 acc Y=some (C,J)/\I ds.length C J:=by intro m;induction m with
  |zero=>
   intro k acc Y hm hk hI;have:k=ds.length:=by omega
   subst this;rw[Z4];exact⟨acc,Y,rfl,hI⟩
  |succ m ih=>
   intro k acc Y hm hk hI;have aa:k<ds.length:=by omega
   rw[QM aa];obtain⟨o,U,e1,q⟩:=ht k aa acc Y hI;obtain⟨C,J,e2,q2⟩:=ih (k+1) (KS acc o) U (by omega) (by omega) q;refine⟨C,J,?_,q2⟩;show gV turn (λ _=>true) ((λ _=>some ds[k])::(bp (ds.drop (k+1))).1) acc Y=_;unfold gV;simp_all
 unfold uc;simp;refine hi.mono λ it J ⟨e1,e2⟩=>?_;subst e1 e2;obtain⟨C,U,e3,q⟩:=gen _ 0 acc J rfl (ZG _) h0;exact⟨(),J,by unfold lift yK;simp[bp,hn],C,U,e3,hQ _ _ q⟩
theorem yd{fi:Jt.M iQ}{turn:D->Jt.PL->Jt.M Jt.PL}{Y:DS}{Q:D->DS->Prop}(ds:List D)(I:Nat->Jt.PL->Prop)(hl:Y.length=lo)(hi:Ok fi Y λ it J=>it=bp ds/\J=Y)(hn:ds.length<=1000)(h0:I 0 [])
  (ht:∀k(hk:k<ds.length) acc,I k acc->Ok (turn ds[k] acc) (Y++List.replicate own .un) λ aa ab=>I (k+1) aa/\ab.take lo=Y)(hQ:∀acc,I ds.length acc->Q (.dip acc) Y):Ok (kg lo own fi turn) Y Q:=by
 have gen:∀(m k:Nat)(acc:Jt.PL),ds.length-k=m->k<=ds.length->I k acc->∃C,gq own turn (λ _=>true) (bp (ds.drop k)).1 acc Y=some (C,Y)/\I ds.length C:=by intro m;induction m with
  |zero=>
   intro k acc hm hk hI;have:k=ds.length:=by omega
   subst this;rw[Z4];exact⟨acc,rfl,hI⟩
  |succ m ih=>
   intro k acc hm hk hI;have ae:k<ds.length:=by omega
   rw[QM ae];obtain⟨o,ab,e1,q,e0⟩:=ht k ae acc hI;obtain⟨C,e2,q2⟩:=ih (k+1) o (by omega) (by omega) q;refine⟨C,?_,q2⟩;show gq own turn (λ _=>true) ((λ _=>some ds[k])::(bp (ds.drop (k+1))).1) acc Y=_;unfold gq;simp_all
 unfold kg;simp only[bA];refine⟨(),Y,by unfold gz;rw[gA hl],hi.mono λ it J ⟨e1,e2⟩=>?_⟩;subst e1 e2;obtain⟨C,e3,q⟩:=gen _ 0 [] rfl (ZG _) h0;exact⟨(),J,by unfold lift yK;simp[bp,hn],C,J,e3,bK.mpr (hQ _ q)⟩
end
section
variable {hs:List (List Int)}
noncomputable def row(n i:Nat):List Pr:=(List.range (n-(i+1))).map λ j=>(i,i+1+j)
noncomputable def Il(n k:Nat):List Pr:=(List.range k).flatMap (row n)
noncomputable abbrev Pn(n:Nat):List Pr:=Il n n
theorem fY:e∈Il n k↔e.1<k/\e.1<e.2/\e.2<n:=by
 unfold Il row;simp;constructor;. rintro⟨i,C,j,I,rfl⟩;omega
 .rintro⟨o,J,U⟩;exact⟨e.1,o,e.2-(e.1+1),by omega,by ext <;> dsimp only <;> omega⟩
theorem AX(n k:Nat):Il n (k+1)=Il n k++row n k:=by unfold Il;rw[List.range_succ];simp
theorem Nf:∀n,n<7->(Pn n).Nodup:=by decide+kernel
theorem Bx:∀n,n<7->(Pn n).length<=15:=by decide+kernel
noncomputable def dW(hs:List (List Int))(L:List Pr):Jt.PL:=L.map λ e=>(((e.1:Int),(e.2:Int)),wh hs e)
theorem Dm(h:e∉L)(v:Int):mY (dW hs L) (e.1,e.2) v=dW hs L++[(((e.1:Int),(e.2:Int)),v)]:=by unfold mY;rw[gL];intro z;rw[VC]at z;obtain⟨p,o,z⟩:=z;obtain⟨f,hf,rfl⟩:=fN.mp o;grind
theorem Bb{n i j:Nat}(h:j<n-(i+1)):(row n i).take (j+1)=(row n i).take j++[(i,i+1+j)]:=by
 have hl:j<(row n i).length:=by unfold row;simp_all
 rw[ZD hl];simp[row]
theorem O_(m:Int)(h6:hs.length<=6)(h7:∀h∈hs,h.length<=7):bL Bl J8 [bB m hs]=some (.dip (dW hs (Pn hs.length))):=by
 apply br;show Ok J8 [.pu (bB m hs),.un] _;dsimp only[J8,AJ];have cm:= λ{a b:Nat}(ha:a<hs.length) (hb:b<hs.length)=>Nx m h7 ha hb;have e1:=cU m hs;have e2:=iK hs;generalize bB m hs=lay at*;refine c5 (λ Y=>Y=[.pu lay,.pu (.int (hs.length:Int))]) (by simp[e1,e2]) ?_;rintro _ rfl;simp only[bA,bK];have U:cQ (hs.length:Int)=true:=by simp[cQ];omega
 refine yd (lD (List.range hs.length)) (λ k acc=>acc=dW hs (Il hs.length k)) rfl ?_ ?_ rfl ?_ ?_;. simp[k4,U,gC]
 .simp[lD];omega
 .rintro k hk _ rfl;have o:k<hs.length:=by simpa[lD]using hk
  have C:(lD (List.range hs.length))[k]= .int (k:Int):=by simp[lD]
  rw[C];have s1:cQ ((k:Int)+1)=true:=by simp[cQ];omega
  have ed:((hs.length:Int) -((k:Int)+1)).toNat=hs.length-(k+1):=by omega
  unfold lg;simp only[bA,ff,bK,W0];refine⟨by simp,?_⟩;refine Kr (cJ ((k:Int)+1) (hs.length-(k+1))) (λ j acc Y=>acc=dW hs (Il hs.length k++(row hs.length k).take j)/\∃z,Y=[.pu lay,.pu (.int (hs.length:Int)),.pu (.int (k:Int)),z]) ?_ ?_ ⟨by simp,_,rfl⟩ ?_ ?_;. simp[lL,di,Kd,U,s1,ed]
  .simp[cJ];omega
  .rintro j hj _ _ ⟨rfl,z,rfl⟩;have I:j<hs.length-(k+1):=by simpa[cJ]using hj
   have J:(cJ ((k:Int)+1) (hs.length-(k+1)))[j]= .int ((k+1+j:Nat):Int):=by simp[cJ]
   rw[J];have c:=cm o (show k+1+j<hs.length by omega);have lb:cP [hD (xg hs k (k+1+j))]=some (.int (wh hs (k,k+1+j))):=by simp[cP,hD,wh,xg,G]
   unfold j0;simp only[bA,ff,bK,W0,kD,fP,ik,xu];simp only[QU,VO,V9,KW,V2,V4,Y2,Jt.Slot.pu.injEq,WO,fA,dg,W0,c,kj,lb,bK];refine⟨by omega,by omega,?_,_,rfl⟩;show mY _ ((((k,k+1+j):Pr).1:Int),(((k,k+1+j):Pr).2:Int)) _=_;rw[Dm,Bb I,<- ZY];. unfold dW;rw[ZP (l₂:=[_])];rfl
   .intro h;rcases fD.mp h with h|h
    .have:=fY.mp h;omega
    .rw[List.mem_take_iff_getElem]at h;obtain⟨i,hi,h⟩:=h;simp[row]at h hi;omega
  .rintro _ _ ⟨rfl,z,rfl⟩;refine⟨?_,rfl⟩;have:(row hs.length k).take (cJ ((k:Int)+1) (hs.length-(k+1))).length=row hs.length k:=by rw[W8];simp[row,cJ]
   rw[this,AX]
 .simp[lD]
theorem wC:∀{L:List Pr},e∈L->mr (dW hs L) e.1 e.2=some (wh hs e)
 |[],h=>nomatch h
 |f::L,h=>by
  unfold mr dW;rw[ZH,V6];by_cases q:f=e;. subst q;simp
  .have: ¬(((f.1:Int),(f.2:Int))=((e.1:Int),(e.2:Int))):= λ z=>q (by grind);simp only[this];exact wC ((wW.mp h).resolve_left λ z=>q z.symm)
theorem tL{e:Pr}(h:e∈L):ir (.dip (dW hs L)) (pD e)=some (.int (wh hs e)):=by show(mr (dW hs L) e.1 e.2).map D.int=_;rw[wC h];rfl
theorem wX:∀{R:List Pr},(∀e∈R,e∈L)->i6 (m1 uV (m2 ir (cB 0) (cB 5))) (dW hs R) [.pu (.dip (dW hs L)),a,b,c,d]=some (R.map λ e=> -wh hs e,[.pu (.dip (dW hs L)),a,b,c,d])
 |[],_=>rfl
 |e::R,h=>by
  have J:=wX (L:=L) (a:=a) (b:=b) (c:=c) (d:=d) λ x hx=>h x (uN _ hx);have C:=tL (hs:=hs) (h e uT);have o:(m1 uV (m2 ir (cB 0) (cB 5))) [.pu (.dip (dW hs L)),a,b,c,d,.pu (pD e)]=some (.int (-wh hs e),[.pu (.dip (dW hs L)),a,b,c,d,.pu (pD e)]):=by
   have:Ok (m1 uV (m2 ir (cB 0) (cB 5))) [.pu (.dip (dW hs L)),a,b,c,d,.pu (pD e)] λ x Y=>x= .int (-wh hs e)/\Y=[.pu (.dip (dW hs L)),a,b,c,d,.pu (pD e)]:=by simp[C,uV]
   obtain⟨x,Y,U,rfl,rfl⟩:=this;omega
  show i6 _ (((e.1,e.2),wh hs e)::dW hs R) _=_;show(match(m1 uV (m2 ir (cB 0) (cB 5))) [.pu (.dip (dW hs L)),a,b,c,d,.pu (pD e)]with
   |some (.int k,I)=>_
   |_=>none)=_;rw[o];dsimp only[List.length_cons,List.take_succ_cons];simp_all
theorem qu(h:vs.length=ks.length)(z C:B):So.pickI ks z vs=So.pickI ks C vs:=by
 unfold So.pickI;split;. rfl
 .have b:=(So.ordI_ok (ks:=ks) (by omega)).1;have p:(So.ordI ks).toList.Perm (List.range ks.length):=by simpa using VN.mp b
  refine QQ λ i I=>?_;have:=wL.mp (p.mem_iff.mp I);simp_all
noncomputable def SL(hs:List (List Int)):List Pr:=So.pickI ((Pn hs.length).map λ e=> -wh hs e) (0,0) (Pn hs.length)
theorem J6(e:Pr):0<=wh hs e:=by unfold wh;omega
theorem fm(h6:hs.length<=6)(J:1<=hs.length):Fm (wh hs) (SL hs) (Pn hs.length) hs.length where
 perm:=So.pickI_perm _ _ _ (by simp)
 nd:=Nf _ (by omega)
 ord:=by have h:=So.pickI_sorted ((Pn hs.length).map λ e=> -wh hs e);rw[qu rfl 0 (-wh hs (0,0)),<- So.pickI_map _ (λ e=> -wh hs e) (0,0),ZX]at h;exact h.imp λ z=>by omega
 pos:= λ e _=>J6 e
 rng:= λ e he=>by have:=fY.mp he;omega
 con:= λ a C b I=>by
  rcases Nat.lt_trichotomy a b with h|h|h
  .exact ft (e:=(a,b)) (fY.mpr ⟨C,h,I⟩)
  .subst h;exact .refl _
  .exact(ft (e:=(b,a)) (fY.mpr ⟨I,h,C⟩)).symm
 one:=J
theorem MR(h6:hs.length<=6){l:List Nat}{T:List Pr}(hl:EB hs.length l T):bL sV qM [.dip (dW hs (Pn hs.length)),.tup (lD l)]=some (.int (wt (wh hs) (fC (SL hs) T))):=by
 apply br;show Ok qM [.pu (.dip (dW hs (Pn hs.length))),.pu (.tup (lD l)),.un,.un,.un] _;unfold qM;refine c5 (λ Y=>Y=[.pu (.dip (dW hs (Pn hs.length))),.pu (.tup (lD l)),.pu (.int 0),.un,.un]) (by simp) ?_;rintro _ rfl;have F:∀e∈SL hs,e∈Pn hs.length:= λ e he=>(So.pickI_perm _ _ _ (by simp)).mem_iff.mp he;rw[ck];refine we ((SL hs).map pD) (λ k Y=>∃(o:List Nat) (a b:Jt.Slot),EB hs.length o (T++fC ((SL hs).take k) T)/\Y=[.pu (.dip (dW hs (Pn hs.length))),.pu (.tup (lD o)),.pu (.int (wt (wh hs) (fC ((SL hs).take k) T))),a,b]) ?_ ⟨l,.un,.un,by simpa[fC]using hl,by simp[fC,wt]⟩ ?_ ?_
 .have ks:=wX (hs:=hs) (L:=Pn hs.length) (a:= .pu (.tup (lD l))) (b:= .pu (.int 0)) (c:= .un) (d:= .un) (R:=Pn hs.length) λ _ z=>z;have hlen:(dW hs (Pn hs.length)).length<64:=by have:=Bx hs.length (by omega);simp[dW];omega
  have em:(dW hs (Pn hs.length)).map (λ p=>pairD p.1)=(Pn hs.length).map pD:=by
   unfold dW;rw[Q2];rfl
  have ep:So.pickI ((Pn hs.length).map λ e=> -wh hs e) .non ((Pn hs.length).map pD)=(SL hs).map pD:=by rw[qu (by simp) .non (pD (0,0)),<- So.pickI_map];rfl
  unfold pZ;simp only[bA,ik,V4,Y2,Jt.Slot.pu.injEq,WO];rw[gA hlen];simp only[bA];exact⟨_,_,ks,by dsimp only;rw[bK,em,ep,bK];simp[df]⟩
 .rintro k hk _ ⟨o,a,b,C,rfl⟩;have I:k<(SL hs).length:=by simpa using hk
  have J:((SL hs).map pD)[k]=pD (SL hs)[k]:=by simp
  rw[J];have he:=F _ (QT I);have ek:(SL hs).take (k+1)=(SL hs).take k++[(SL hs)[k]]:=ZD I;rw[ek,kc];generalize(SL hs)[k]=e at he;generalize fC ((SL hs).take k) T=X at C;have hm:=fY.mp he;have x1:=o3 (H:=o) (k:=e.1) (by rw[C.len];omega);have x2:=o3 (H:=o) (k:=e.2) (by rw[C.len];omega);have lk:=BP (l:=o) (by rw[C.len];exact h6) (a:=e.1) (b:=e.2) (by rw[C.len];omega) (by rw[C.len];omega);have iw:=tL (hs:=hs) he;have ee:=C.eq e.1 e.2 (by omega) (by omega);have U:=C.lnk (u:=e.1) (v:=e.2) (by omega) (by omega);have ne:=dz true (o.getD e.1 0) (o.getD e.2 0);unfold pD at iw|-;generalize lnk o e.1 e.2=l2 at*;generalize o.getD e.1 0=y1 at*;generalize o.getD e.2 0=y2 at*;generalize D.dip (dW hs (Pn hs.length))=W at*;simp only[oQ,QU,VO,W0,jI,ff,mL,V9,KW];refine⟨by omega,by omega,?_⟩;by_cases q:cX (T++X) e.1 e.2
  .refine yv (λ b Y=>b=false/\Y=[.pu W,.pu (.tup (lD o)),.pu (.int (wt (wh hs) X)),.pu (.int (e.1:Int)),.pu (.int (e.2:Int))]) ?_ (λ _ h=>by cases h.1) ?_
   .rw[QN (ee.mpr q)]at ne;simp[x1,x2,ne]
   .rintro _ ⟨_,rfl⟩;refine bK.mpr ⟨o,.pu (.int (e.1:Int)),.pu (.int (e.2:Int)),?_,?_⟩;. rw[wq q];simpa[fC]using C
    .rw[wq q];simp[fC]
  .have q': ¬y1=y2:= λ z=>q (ee.mp z);refine yv (λ b Y=>b=true/\Y=[.pu W,.pu (.tup (lD o)),.pu (.int (wt (wh hs) X)),.pu (.int (e.1:Int)),.pu (.int (e.2:Int))]) ?_ ?_ (λ _ h=>by cases h.1);. simp only[QR q']at ne;simp[x1,x2,ne]
   .rintro _ ⟨_,rfl⟩;refine c5 (λ Y=>Y=[.pu W,.pu (.tup (lD l2)),.pu (.int (wt (wh hs) X)),.pu (.int (e.1:Int)),.pu (.int (e.2:Int))]) (by simp[dg,lk]) ?_;rintro _ rfl;simp only[tW,C6,ik,kD,fP,bK,fA,V2,V4,Y2,Jt.Slot.pu.injEq,WO,iw,kj,QU,VO,V9,KW,lL,di,W0];refine⟨by omega,by omega,l2,.pu (.int (e.1:Int)),.pu (.int (e.2:Int)),?_,?_⟩;. rw[xA q];simpa[fC]using U
    .rw[xA q];simp[fC,wt]
 simp_all
end
section
variable {hs:List (List Int)} {M:Nat}
theorem sum_ints(ns:List Int)(o:ns.length<=1000)(C:∀i∈ns,0<=i/\i<=1000000):DV [.lst (ns.map .int)]=some (.int ns.sum):=by
 have:kq ns=true:=by unfold kq;simp;exact⟨o,C⟩
 show(b_ (ns.map .int)).bind _=_;rw[fO];simp_all
theorem L0(C:hs.length<=6)(hM:M<=7):bL zm z_ [bB M hs]=some (.int (o8 hs M)):=by
 apply br;show Ok z_ [.pu (bB M hs)] _;dsimp only[z_,qV];have I:=ja M hs;have J:= λ c (o:c<M)=>IZ C c o;have U:cQ M=true:=by simp[cQ];omega
 simp;refine bx (List.range M) (λ c=> .int c) (λ c=>some (.int (max (((vc hs c).length:Int) -1) 0))) rfl ?_ (by simp;omega) (λ c o=>?_) ?_;. simp[I,k4,U,cJ]
 .have h:=J c (wL.mp o);have hm:rA [.int (((vc hs c).length:Int) -1),.int 0]=some (.int (max (((vc hs c).length:Int) -1) 0)):=by refine ZO (λ z:Int=>some (D.int z)) ?_;omega
  have hl:cP [.tup (lD (vc hs c))]=some (.int ((vc hs c).length:Int)):=by simp[cP,lD]
  simp[h,hl,ub,di,hm]
 .rw[Z5];have s:=sum_ints ((List.range M).map λ c=>max (((vc hs c).length:Int) -1) 0) (by simp;omega) λ i hi=>by
   obtain⟨c,_,rfl⟩:=fN.mp hi;have:(vc hs c).length<=6:=by unfold vc;grind
   omega
  rw[Q2]at s;rw[show((λ c:Nat=>D.int (max (((vc hs c).length:Int) -1) 0))=(D.int∘ λ c=>max (((vc hs c).length:Int) -1) 0))from rfl,s];simp[o8]
noncomputable abbrev Mw(hs:List (List Int))(T:List Pr):Int:=wt (wh hs) (fC (SL hs) T)
theorem Eg(n:Nat)(h:n<=6):iY [.int n]=some (lD (List.range n)):=by
 have:((n:Int)<100000/\ -(2^62)<=(n:Int)):=by omega
 simp[iY,this,gC]
theorem AF(hs:List (List Int))(L:List Pr):AI (.dip (dW hs L))=some (bp (L.map pD)):=by show some (bp ((dW hs L).map λ p=>pairD p.1))=_;unfold dW;rw[Q2];rfl
theorem PV(h1:1<=hs.length)(U:hs.length<=6)(h7:∀h∈hs,h.length<=7)(hM:M<=7):
  bL JM Gp [bB M hs]=some (if Mw hs []=o8 hs M then .tup ((tw (wh hs) (Mw hs) (Pn hs.length) [] (o8 hs M)).map pD)else .non):=by
 apply br;show Ok Gp [.pu (bB M hs),.un,.un,.un,.un,.un,.un,.un,.un] _;dsimp only[Gp,C9];have e1:ir (bB (M:Int) hs) (.int 1)=some (.tup (hs.map hD)):=rfl;have e2:=iK hs;have pw:=O_ (M:Int) U h7;have dw:=L0 U hM;have mm:= λ{l:List Nat}{T:List Pr}(hl:EB hs.length l T)=>MR U hl;have af:=mm (pd hs.length);have kd:=AF hs (Pn hs.length);have iw:= λ(e:Pr) (he:e∈Pn hs.length)=>tL (hs:=hs) he;have rl:=Eg _ U;have ai:=Bx hs.length (by omega);generalize bB (M:Int) hs=lay at*;generalize D.dip (dW hs (Pn hs.length))=W at*;generalize o8 hs M=C at*;refine c5 (λ Y=>Y=[.pu lay,.pu W,.un,.un,.un,.un,.un,.un,.un]) (by simp[dg,pw]) ?_;rintro _ rfl;refine c5 (λ Y=>Y=[.pu lay,.pu W,.pu (.tup (lD (List.range hs.length))),.un,.un,.un,.un,.un,.un]) (by simp[e1,e2,rl]) ?_;rintro _ rfl;refine c5 (λ Y=>Y=[.pu lay,.pu W,.pu (.tup (lD (List.range hs.length))),.pu (.int C),.un,.un,.un,.un,.un]) (by simp[dg,dw]) ?_;rintro _ rfl;have ne:=vF true (Mw hs []) C;refine fg (!decide (Mw hs []=C)) ?_ (λ h=>?_) λ h=>?_;. rw[gA rfl]at ne;simp[dg,af,ne];exact Decidable.em _
 .have: ¬Mw hs []=C:=by simpa using h
  rw[gL this];simp
 .have:Mw hs []=C:=by simpa using h
  rw[gA this];refine c5 (λ Y=>Y=[.pu lay,.pu W,.pu (.tup (lD (List.range hs.length))),.pu (.int C),.ow false [],.un,.un,.un,.un]) (by simp) ?_;rintro _ rfl;rw[ck];refine we ((Pn hs.length).map pD) (λ k Y=>∃(T:List Pr) (l:List Nat) (d:Int) (a b c e:Jt.Slot),EB hs.length l T/\T.length<=k/\tw (wh hs) (Mw hs) ((Pn hs.length).drop k) T d=tw (wh hs) (Mw hs) (Pn hs.length) [] C/\Y=[.pu lay,.pu W,.pu (.tup (lD l)),.pu (.int d),.ow false (T.map pD),a,b,c,e]) ?_ ⟨[],_,C,.un,.un,.un,.un,pd _,wN _,by simp,rfl⟩ ?_ ?_;. simp[kd]
  .rintro k hk _ ⟨T,l,d,a,b,c,e0,o,hT,hf,rfl⟩;have aa:k<(Pn hs.length).length:=by simpa using hk
   have ag:((Pn hs.length).map pD)[k]=pD (Pn hs.length)[k]:=by simp
   rw[ag];have he:(Pn hs.length)[k]∈Pn hs.length:=QT aa;rw[QM aa]at hf;generalize(Pn hs.length)[k]=e at he hf;have hm:=fY.mp he;have x1:=o3 (H:=l) (k:=e.1) (by rw[o.len];omega);have x2:=o3 (H:=l) (k:=e.2) (by rw[o.len];omega);have lk:=BP (l:=l) (by rw[o.len];exact U) (a:=e.1) (b:=e.2) (by rw[o.len];omega) (by rw[o.len];omega);have iw:=iw e he;have ee:=o.eq e.1 e.2 (by omega) (by omega);have ab:=o.lnk (u:=e.1) (v:=e.2) (by omega) (by omega);have ae:=mm ab;have ne:=dz true (l.getD e.1 0) (l.getD e.2 0);unfold pD at iw;show Ok (jZ 2 _ (.tup [.int (e.1:Int),.int (e.2:Int)])) _ _;generalize lnk l e.1 e.2=I at*;generalize l.getD e.1 0=y1 at*;generalize l.getD e.2 0=y2 at*;simp only[oQ,QU,VO,W0,jI,ff,mL,V9,KW];refine⟨by omega,by omega,?_⟩;refine c5 (λ Y=>Y=[.pu lay,.pu W,.pu (.tup (lD l)),.pu (.int d),.ow false (T.map pD),.pu (.int (e.1:Int)),.pu (.int (e.2:Int)),.pu (.int (wh hs e)),e0]) (by simp[iw]) ?_;rintro _ rfl;by_cases q:cX T e.1 e.2
   .refine yv (λ b Y=>b=false/\Y=[.pu lay,.pu W,.pu (.tup (lD l)),.pu (.int d),.ow false (T.map pD),.pu (.int (e.1:Int)),.pu (.int (e.2:Int)),.pu (.int (wh hs e)),e0]) ?_ (λ _ h=>by cases h.1) ?_;. rw[QN (ee.mpr q)]at ne;simp[x1,x2,ne]
    .rintro _ ⟨_,rfl⟩;rw[M9 _ _ q]at hf;exact bK.mpr ⟨T,l,d,_,_,_,_,o,by omega,hf,rfl⟩
   .have q': ¬y1=y2:= λ z=>q (ee.mp z);refine yv (λ b Y=>b=true/\Y=[.pu lay,.pu W,.pu (.tup (lD l)),.pu (.int d),.ow false (T.map pD),.pu (.int (e.1:Int)),.pu (.int (e.2:Int)),.pu (.int (wh hs e)),e0]) ?_ ?_ (λ _ h=>by cases h.1);. simp only[QR q']at ne;simp[x1,x2,ne]
    .rintro _ ⟨_,rfl⟩;refine c5 (λ Y=>Y=[.pu lay,.pu W,.pu (.tup (lD l)),.pu (.int d),.ow false (T.map pD),.pu (.int (e.1:Int)),.pu (.int (e.2:Int)),.pu (.int (wh hs e)),.pu (.tup (lD I))]) (by simp[dg,lk]) ?_;rintro _ rfl;have ah:eY false (.int (wh hs e+Mw hs (T++[e]))) (.int d)=some (.bl (decide (wh hs e+Mw hs (T++[e])=d))):=by simp[eY,flat,mN]
     change bL sV qM [W,.tup (lD I)]=some (.int (Mw hs (T++[e])))at ae;generalize ht:Mw hs (T++[e])=J at*;refine yv (λ b Y=>b=decide (wh hs e+J=d)/\Y=[.pu lay,.pu W,.pu (.tup (lD l)),.pu (.int d),.ow false (T.map pD),.pu (.int (e.1:Int)),.pu (.int (e.2:Int)),.pu (.int (wh hs e)),.pu (.tup (lD I))]) ?_ ?_ ?_;. simp[dg,ae,lL,di,ah];exact(Decidable.em _).symm
     .rintro _ ⟨h,rfl⟩;have h:wh hs e+J=d:=by simpa using h.symm
      rw[MJ _ _ q (by rw[ht];exact h)]at hf;refine c5 (λ Y=>Y=[.pu lay,.pu W,.pu (.tup (lD l)),.pu (.int d),.ow false ((T++[e]).map pD),.pu (.int (e.1:Int)),.pu (.int (e.2:Int)),.pu (.int (wh hs e)),.pu (.tup (lD I))]) ?_ ?_;. refine fV ⟨_,_,rfl⟩ ?_;simp only[fP,kD,ik,bK,fA,V2,V4,Y2,Jt.Slot.pu.injEq,WO,QU,VO];refine⟨by omega,_,false,_,rfl,rfl,by simp;omega,trivial,?_⟩;rw[ZP];rfl
      rintro _ rfl;refine c5 (λ Y=>Y=[.pu lay,.pu W,.pu (.tup (lD I)),.pu (.int d),.ow false ((T++[e]).map pD),.pu (.int (e.1:Int)),.pu (.int (e.2:Int)),.pu (.int (wh hs e)),.pu (.tup (lD I))]) (by simp) ?_;rintro _ rfl;simp only[tW,C6,ik,V2,V4,Y2,Jt.Slot.pu.injEq,WO,ub,di,W0,kj,QU,VO,V9,KW];exact⟨by omega,T++[e],I,d-wh hs e,_,_,_,_,ab,by simp;omega,hf,rfl⟩
     .rintro _ ⟨h,rfl⟩;have h: ¬wh hs e+J=d:=by simpa using h.symm
      rw[MM _ _ q (by rw[ht];exact h)]at hf;exact bK.mpr ⟨T,l,d,_,_,_,_,o,by omega,hf,rfl⟩
  .rintro _ ⟨T,l,d,a,b,c,e0,o,hT,hf,rfl⟩;have:(Pn hs.length).drop ((Pn hs.length).map pD).length=[]:=by simp
   rw[this]at hf;simp only[tw]at hf;rw[<- hf];simp
end
noncomputable abbrev mm(hs:List (List Int)):Nat->Nat->Bool:= λ i c=>decide ((c:Int)∈G hs i)
theorem cy:mm hs i c=true↔(c:Int)∈G hs i:=by simp
section
variable {hs:List (List Int)} {ls:List Nat}
theorem iJ(K:∀i,∀x∈G hs i,0<=x){n o:Nat}(hn:n∈ls):o∈holders hs ls n↔Er (mm hs) ls n o:=by
 constructor;. intro h;obtain⟨I,C⟩:=uP.mp h;simp at C;exact⟨hn,I,C.1,λ c p J U aa ab=>cy.mpr (C.2 _ (uP.mpr ⟨cy.mp J,VC.mpr ⟨p,U,by simp_all⟩⟩))⟩
 .intro E;refine uP.mpr ⟨E.hp,?_⟩;simp;refine⟨E.ne,λ c J=>?_⟩;obtain⟨I,C⟩:=uP.mp J;obtain⟨p,U,h3⟩:=VC.mp C;simp at h3;obtain⟨k,rfl⟩:∃k:Nat,c=k:=⟨c.toNat,by have:=K n c I;omega⟩;exact cy.mp (E.hold k p (cy.mpr I) U h3.1 (cy.mpr h3.2))
theorem qf(K:∀i,∀x∈G hs i,0<=x){e p:Nat}(E:Er (mm hs) ls e p):cF hs ls≠[]:= λ z=>by have h:=(iJ K E.he).mpr E;cases q:(holders hs ls e).head? with
 |none=>simp_all
 |some o=>have:(e,o)∈cF hs ls:=YS.mpr ⟨e,E.he,by rw[q];rfl⟩;simp_all
theorem vU(K:∀i,∀x∈G hs i,0<=x):∀(f:Nat)(ls:List Nat),ls.length<=f+1->ls.Nodup->Red (mm hs) ls->∃x,(gJ hs f ls).2=[x]
 |0,ls,hl,nd,R=>by cases R with
  |one x=>exact⟨x,rfl⟩
  |@ear _ e p E r=>have o:=jn E.he;have:p∈wo ls e:=aY.mpr ⟨E.hp,E.ne⟩;grind
 |f+1,ls,hl,nd,R=>by cases q:cF hs ls with
  |nil=>rw[il q];cases R with
   |one x=>exact⟨x,rfl⟩
   |ear E r=>exact absurd q (qf K E)
  |cons p r=>rw[fI q];obtain⟨C,o⟩:=fX q;have E:=(iJ K C).mp o;have:=jn E.he;exact vU K f _ (by unfold wo at this;omega) (eF nd) (R.off nd E)
end
noncomputable def jd(e:Pr):Pr:=(min e.1 e.2,max e.1 e.2)
theorem jH(e:Pr):jd e=e\/jd e=(e.2,e.1):=by
 obtain⟨a,b⟩:=e;unfold jd;by_cases h:a<=b;. left;simp[Nat.min_eq_left h,Nat.max_eq_right h]
 .right;simp[Nat.min_eq_right (Nat.le_of_not_le h),Nat.max_eq_left (Nat.le_of_not_le h)]
theorem pe:cX (t.map jd) a b ↔ cX t a b:= by
 constructor
 .intro h
  refine ve (fun e he=>?_) h
  obtain ⟨f,hf,rfl⟩:=fN.mp he
  rcases jH f with z | z
  .rw [z];exact ft hf
  .rw [z];exact (ft hf).symm
 .intro h
  refine ve (fun e he=>?_) h
  have:=ft (fN.mpr ⟨e,he,rfl⟩:jd e ∈ t.map jd)
  rcases jH e with z | z
  .rw [z] at this;exact this
  .rw [z] at this;exact this.symm
theorem wG (h:fe t):fe (t.map jd):=fun k hk r=>by
 rw [uL] at hk
 rw [<- List.map_take,pe,List.getElem_map] at r
 rcases jH t[k] with z | z
 .rw [z] at r;exact h k hk r
 .rw [z] at r;exact h k hk r.symm
section
variable {hs:List (List Int)} {M:Nat}
theorem Jj(t:List Pr)(c:Nat):ec hs (t.map jd) c=(ec hs t c).map jd:=by
 unfold ec;rw[List.filter_map];congr 1;refine Y1 λ e _=>?_;show(co hs c (jd e).1&&co hs c (jd e).2)=_;rcases jH e with z|z
 .rw[z]
 .rw[z];exact Bool.and_comm _ _
theorem qX(h1:1<=hs.length)(h6:hs.length<=6)(H:∀h∈hs,cT M h):Mw hs []=o8 hs M↔Red (mm hs) (List.range hs.length):=by
 have o:∀h∈hs,h.Pairwise (. < .)/\∀c∈h,0<=c/\c<M:= λ h o=>(H h o).2;have F:=fm h6 h1;have gf:fe (fC (SL hs) []):=by have:=kG (L:=SL hs) (T:=[]) jb;simpa using this
 have gr:∀e∈fC (SL hs) [],e.1<hs.length/\e.2<hs.length:= λ e he=>F.rng e (K5 F e he);have W:=nT o gf gr;constructor
 .intro e;have cn:=W.2.mp e;refine KH hs.length (t:=fC (SL hs) []) (by rw[QJ];exact wN _) Q7 (λ z=>by have:=List.range_eq_nil.mp z;omega) ⟨λ e he=>⟨wL.mpr (gr e he).1,wL.mpr (gr e he).2⟩,gf,λ c a b J U I aa=>?_⟩;have hc:c<M:=by have:=(o _ (d4 (wL.mp J))).2 _ (cy.mp I);omega
  exact cn c hc a (uP.mpr ⟨J,I⟩) b (uP.mpr ⟨U,aa⟩)
 .intro R;obtain⟨t,T⟩:=Jf R;have tf:=wG T.fst;have tr:∀e∈t.map jd,e.1<hs.length/\e.2<hs.length:= λ e he=>by
   obtain⟨f,hf,rfl⟩:=fN.mp he;obtain⟨a,b⟩:=T.inn f hf;have a:=wL.mp a;have b:=wL.mp b;rcases jH f with z|z
   .rw[z];exact⟨a,b⟩
   .rw[z];exact⟨b,a⟩
  have V:=(nT o tf tr).2.mpr λ c _ a J b U=>by rw[Jj,pe];obtain⟨a1,a2⟩:=uP.mp J;obtain⟨b1,b2⟩:=uP.mp U;exact T.con c a b a1 b1 a2 b2
  have mo:=F.most (T:=[]) (C:=t.map jd) jb (by simpa using tf) λ e he=>by obtain⟨f,hf,rfl⟩:=fN.mp he;obtain⟨a,b⟩:=T.inn f hf;have a:=wL.mp a;have b:=wL.mp b;have:=u6 T.fst hf;refine fY.mpr ?_;show min f.1 f.2<hs.length/\min f.1 f.2<max f.1 f.2/\max f.1 f.2<hs.length;omega
  grind
end
section
variable {hs:List (List Int)} {os:List Nat} {M:Nat}
theorem om (g:Good M os) (H:∀h ∈ hs,cT M h) (hi:i < hs.length) (hc:c < M):mm (nm os hs) i (os.idxOf c)=mm hs i c:= by
 have hh:=(H _ (d4 hi)).2.2
 rw [Z0,cy,cy,Df hi,dh,fN]
 constructor
 .rintro ⟨x,hx,e⟩
  have h1:=hh x hx
  have:x=c:=ug g h1 ⟨by omega,by omega⟩ (by rw [e];simp [pl])
  simp_all
 .intro h
  exact ⟨_,h,by simp [pl]⟩
theorem uF:(nm os hs).length=hs.length:=uL _
end
end K16
namespace K16
open PySem L2 Jt
open Jt.Tu (cj ma)
noncomputable def so(ks:List (List Int)):List (List Int):=Jt.Tu.pickT ks [] ks
theorem pk(ks:List (List Int)):(so ks).Perm ks:=Jt.Tu.pickT_perm ks [] ks rfl
theorem zq(h:a.Perm b):so a=so b:=
 List.Perm.eq_of_pairwise (le:= λ a b=>cj b a=false) (λ a b _ _ o C=>ma C o) (Jt.Tu.pickT_sorted a) (Jt.Tu.pickT_sorted b) ((pk a).trans (h.trans (pk b).symm))
theorem NY(ks:List (List Int)):so (so ks)=so ks:=zq (pk ks)
theorem A5{a b:List Int}(o:a.Pairwise (. < .))(C:b.Pairwise (. < .))(h:∀c,c∈a↔c∈b):a=b:=
 List.Perm.eq_of_pairwise (λ x y _ _ I J=>absurd I (by omega)) o C ((ZZ (o.imp λ{x y} h z=>by omega) (C.imp λ{x y} h z=>by omega)).mpr h)
section
variable {hs hs':List (List Int)} {M:Nat} {L I J:List Nat}
noncomputable def tab(M:Nat)(f:Nat->Bool):List Int:=((List.range M).filter f).map λ(k:Nat)=>(k:Int)
theorem Ff(M:Nat)(f:Nat->Bool):(tab M f).Pairwise (. < .):=by unfold tab;rw[ZX];exact(List.pairwise_lt_range.filter _).imp λ{a b} h=>by omega
theorem cV:c∈shared hs L n↔c∈G hs n/\∃o∈L,o≠n/\c∈G hs o:=by simp[shared]
theorem iP (H:∀h ∈ hs,cT M h) (hn:n < hs.length):(shared hs L n).Pairwise (· < ·):=(H _ (d4 hn)).2.1.filter _
theorem l3(H:∀h∈hs,cT M h){n:Nat}(hn:n<hs.length):shared hs L n=tab M (sh (mm hs) L n):=by
 refine A5 (iP H hn) (Ff _ _) λ c=>?_;rw[cV];unfold tab;rw[fN];constructor;. rintro⟨U,o,ho,C,h2⟩;have:=(H _ (d4 hn)).2.2 c U;obtain⟨k,rfl⟩:∃k:Nat,c=k:=⟨c.toNat,by omega⟩;exact⟨k,uP.mpr ⟨wL.mpr (by omega),j9.mpr ⟨cy.mpr U,o,ho,C,cy.mpr h2⟩⟩,rfl⟩
 .rintro⟨k,hk,rfl⟩;obtain⟨U,o,ho,C,h2⟩:=j9.mp (uP.mp hk).2;exact⟨cy.mp U,o,ho,C,cy.mp h2⟩
noncomputable def bj(hs:List (List Int))(L:List Nat):List (List Int):=if L.length=1 then[]else so (L.map (shared hs L))
theorem xb(H:∀h∈hs,cT M h)(H':∀h∈hs',cT M h)(U:∀i∈I,i<hs.length)(hJ:∀i∈J,i<hs'.length)(C:pq (mm hs) (mm hs') I J):bj hs I=bj hs' J:=by
 unfold bj;rw[C.len];have p:(I.map (shared hs I)).Perm (J.map (shared hs' J)):=by have q:=C.map (tab M);rw[Q2,Q2]at q;rw[QQ λ n o=>l3 (M:=M) H (U n o),QQ λ n o=>l3 (M:=M) H' (hJ n o)];exact q
 rw[zq p]
theorem NK(K:∀i,∀x∈G hs i,0<=x)(h:cF hs L=[]):∀e p,¬Er (mm hs) L e p:= λ e p E=>qf K E h
theorem jO(K:∀i,∀x∈G hs i,0<=x):∀(f:Nat)(ls:List Nat),ls.length<=f->Gn (mm hs) ls (gJ hs f ls).2
 |0,ls,hl=>by have:ls=[]:=V3.mp (by omega);subst this;exact .stop λ e p E=>by cases E.he
 |f+1,ls,hl=>by cases q:cF hs ls with
  |nil=>rw[il q];exact .stop (NK K q)
  |cons p r=>obtain⟨m1,m2⟩:=fX q;have E:=(iJ K m1).mp m2;rw[fI q];exact .ear E (jO K f (wo ls p.1) (by have:=jn m1;omega))
theorem BJ(K:∀i,∀x∈G hs i,0<=x):∀(ds:List D)(ls:List Nat){I:List Nat},kC hs ds ls=some I->(∀e p,¬Er (mm hs) I e p)->Gn (mm hs) ls I
 |[],ls,I,h,o=>by cases h;exact .stop o
 |d::r,ls,I,h,o=>by
  rw[fK]at h;split at h;. rename_i q;obtain⟨a,b,rfl,ha,hb,C,U⟩:=lU q;exact .ear ((iJ K C).mp U) (BJ K r _ h o)
  grind
theorem Gn.sub(R:Gn m L I):∀i∈I,i∈L:=by induction R with
 |stop=>simp
 |ear _ _ o=>exact λ i h=>(aY.mp (o i h)).1
theorem Gn.nd(R:Gn m L I):L.Nodup->I.Nodup:=by induction R with
 |stop=>simp
 |ear _ _ o=>exact λ h=>o (eF h)
theorem Gn.end(R:Gn m L I):∀e p,¬Er m I e p:=by induction R with
 |stop h=>exact h
 |ear _ _ o=>omega
theorem Gn.tr{A:List Nat}(h:∀{L e p},(∀x∈L,x∈A)->(Er m L e p↔Er o L e p))(R:Gn m L I):(∀x∈L,x∈A)->Gn o L I:=by induction R with
 |stop hs=>exact λ s=> .stop λ e p E=>hs e p ((h s).mpr E)
 |ear E _ C=>exact λ s=> .ear ((h s).mp E) (C λ x hx=>s x (aY.mp hx).1)
theorem Gn.pos(R:Gn m L I):1<=L.length->1<=I.length:=by induction R with
 |stop=>simp
 |ear E _ o=>exact λ _=>o (ZT (aY.mpr ⟨E.hp,E.ne⟩))
theorem ji(K:∀i,∀x∈G hs i,0<=x)(H:∀h∈hs,cT M h){A:List Nat}(U:∀i∈A,i<hs.length)(nd:A.Nodup)(g:Gn (mm hs) A I)(g':Gn (mm hs) A J):bj hs I=bj hs J/\I.length=J.length:=
 have C:=KU A.length (wN _) nd g g'
 ⟨xb H H (λ i o=>U i (g.sub i o)) (λ i o=>U i (g'.sub i o)) C,C.len⟩
theorem iV(U:∀e p,¬Er (mm hs) I e p){a b:Nat}(ha:a∈I)(hb:b∈I)(C:a≠b)(h:∀c∈shared hs I a,c∈shared hs I b):False:=
 U a b ⟨ha,hb,Ne.symm C,λ c o h1 ho h2 h3=>cy.mpr (cV.mp (h _ (cV.mpr ⟨cy.mp h1,o,ho,h2,cy.mp h3⟩))).1⟩
noncomputable def Apart(ks:List (List Int)):Prop:=ks.Pairwise λ a b=>(∃c∈a,c∉b)/\∃c∈b,c∉a
theorem t7(U:∀e p,¬Er (mm hs) I e p)(nd:I.Nodup):Apart (bj hs I):=by
 unfold bj;split;. exact .nil
 .refine(pk _).symm.pairwise ?_ λ h=>⟨h.2,h.1⟩;rw[ZX];refine nd.imp_of_mem λ{a b} ha hb o=>⟨?_,?_⟩;. exact Z8 λ q=>iV U ha hb o λ c C=>Z8 λ z=>q ⟨c,C,z⟩
  .exact Z8 λ q=>iV U hb ha (Ne.symm o) λ c C=>Z8 λ z=>q ⟨c,C,z⟩
theorem oz(hi:∀e p,¬Er (mm hs) I e p)(h2:I.length≠1){a:Nat}(ha:a∈I)(nd:I.Nodup):shared hs I a≠[]:= λ z=>by
 obtain⟨b,hb,C⟩:∃b∈I,b≠a:=by refine Z8 λ q=>h2 ?_;rw[ue (y:=a) nd λ o=>⟨λ U=>Z8 λ z=>q ⟨o,U,z⟩,λ U=>U▸ha⟩];rfl
 exact iV hi ha hb (Ne.symm C) λ c hc=>by simp_all
end
end K16
namespace K16
open PySem L2 Jt
section
variable {hs:List (List Int)} {os L I J:List Nat} {M:Nat}
noncomputable def al(hs:List (List Int))(I:List Nat):List (List Int):=I.map (G hs)
theorem jy(o:j<I.length):G (al hs I) j=G hs (I.getD j 0):=by simp[G,al,o]
theorem zZ(H:∀h∈hs,cT M h)(o:∀i∈I,i<hs.length):∀h∈al hs I,cT M h:= λ h C=>by obtain⟨i,U,rfl⟩:=fN.mp C;exact H _ (d4 (o i U))
theorem jR(o:j<I.length):I.getD j 0∈I:=by simp[o]
theorem getD_inj (nd:I.Nodup) (ha:a < I.length) (hb:b < I.length) (e:I.getD a 0=I.getD b 0):a=b:= by
 simp [kW ha,kW hb] at e
 exact (List.getElem_inj nd).mp e
theorem mem_getD(h:i∈I):∃j,j<I.length/\I.getD j 0=i:=by obtain⟨j,o,e⟩:=ZF h;exact⟨j,o,by simp_all⟩
theorem Kl(nd:I.Nodup)(hi:∀e p,¬Er (mm hs) I e p):∀e p,¬Er (mm (al hs I)) (List.range I.length) e p:= λ a b E=>by have C:=wL.mp E.he;have U:=wL.mp E.hp;refine hi (I.getD a 0) (I.getD b 0) ⟨jR C,jR U,λ z=>E.ne (getD_inj nd U C z),λ c o h1 ho h2 h3=>?_⟩;obtain⟨j,hj,rfl⟩:=mem_getD ho;have:=E.hold c j (cy.mpr (by rw[jy C];exact cy.mp h1)) (wL.mpr hj) (λ z=>h2 (by rw[z])) (cy.mpr (by rw[jy hj];exact cy.mp h3));rw[cy,jy U]at this;exact cy.mpr this
theorem F5(K:∀i,∀x∈G hs i,0<=x)(H:∀h∈hs,cT M h)(nd:I.Nodup)(hI:∀i∈I,i<hs.length)(hi:∀e p,¬Er (mm hs) I e p)(g:Gn (mm (al hs I)) (List.range I.length) J):bj (al hs I) J=bj hs I:=by
 have hl:(al hs I).length=I.length:=uL _;have H':=zZ H hI;have K':∀i,∀x∈G (al hs I) i,0<=x:= λ i x hx=>by
  by_cases h:i<I.length;. rw[jy h]at hx;exact K _ x hx
  .simp[G,al,h]at hx
 rw[(ji K' H' (λ i hi=>by rw[hl];exact wL.mp hi) Q7 g (.stop (Kl nd hi))).1];refine xb H' H (λ i hi=>by rw[hl];exact wL.mp hi) hI ?_;refine List.Perm.of_eq ?_;have e:I.map (sh (mm hs) I)=(List.range I.length).map λ j=>sh (mm hs) I (I.getD j 0):=by apply List.ext_getElem (by simp);intro i h1 h2;simp at h1;simp[h1]
 rw[e];refine QQ λ j hj=>?_;have hj:=wL.mp hj;funext c;rw[Z0,j9,j9,cy,cy,jy hj];refine and_congr_right λ _=>⟨?_,?_⟩;. rintro⟨o,C,U,h⟩;have C:=wL.mp C;rw[cy,jy C]at h;exact⟨I.getD o 0,jR C,λ z=>U (getD_inj nd C hj z),cy.mpr h⟩
 .rintro⟨o,C,U,h⟩;obtain⟨k,hk,rfl⟩:=mem_getD C;exact⟨k,wL.mpr hk,λ z=>U (by rw[z]),cy.mpr (by rw[jy hk];exact cy.mp h)⟩
theorem Mj(g:Good M os)(H:∀h∈hs,cT M h){e p:Nat}(hL:∀x∈L,x∈List.range hs.length):Er (mm hs) L e p↔Er (mm (nm os hs)) L e p:=by
 have lt:∀{i},i∈L->i<hs.length:= λ h=>wL.mp (hL _ h);constructor
 .intro E;refine⟨E.he,E.hp,E.ne,λ c o C ho h2 U=>?_⟩;have hc:c<M:=by
   have h:=cy.mp C;rw[Df (lt E.he)]at h;have:=(HX g (H _ (d4 (lt E.he)))).2.2 _ h;omega
  have aa:c<os.length:=by rw[g.1];exact hc
  have e:=FA g.2.1 aa;have hk:os[c]<M:=g.2.2 _ (QT aa);rw[<- e]at C U|-;rw[om g H (lt E.he) hk]at C;rw[om g H (lt ho) hk]at U;rw[om g H (lt E.hp) hk];exact E.hold _ o C ho h2 U
 .intro E;refine⟨E.he,E.hp,E.ne,λ c o C ho h2 U=>?_⟩;have hc:c<M:=by have:=(H _ (d4 (lt E.he))).2.2 _ (cy.mp C);omega
  rw[<- om g H (lt E.he) hc]at C;rw[<- om g H (lt ho) hc]at U;rw[<- om g H (lt E.hp) hc];exact E.hold _ o C ho h2 U
theorem pb(g:Good M os)(H:∀h∈hs,cT M h):∀h∈nm os hs,cT M h:= λ h o=>by obtain⟨h0,q,rfl⟩:=fN.mp o;exact HX g (H h0 q)
theorem nonneg(H:∀h∈hs,cT M h):∀i,∀x∈G hs i,0<=x:= λ i x hx=>by
 by_cases o:i<hs.length;. exact((H _ (d4 o)).2.2 x hx).1
 .simp[G,o]at hx
theorem yt(g:Good M os)(H:∀h∈hs,cT M h)(hI:∀i∈I,i<hs.length){n:Nat}(hn:n∈I):shared (nm os hs) I n=bP ((shared hs I n).map (pl os)):=by
 have C:=hI n hn;have nd:((shared hs I n).map (pl os)).Nodup:=qo g ((iP H C).imp λ{x y} h z=>by omega) λ c hc=>(H _ (d4 C)).2.2 c (cV.mp hc).1;refine A5 (iP (pb g H) (by rw[uF];exact C)) (ju nd) λ c=>?_;rw[dh,fN,cV,Df C,dh,fN];constructor;. rintro⟨⟨a,ha,rfl⟩,o,ho,U,h⟩;rw[Df (hI o ho),dh,fN]at h;obtain⟨b,hb,e⟩:=h;have:b=a:=ug g ((H _ (d4 (hI o ho))).2.2 b hb) ((H _ (d4 C)).2.2 a ha) e;subst this;exact⟨b,cV.mpr ⟨ha,o,ho,U,hb⟩,rfl⟩
 .rintro⟨a,ha,rfl⟩;obtain⟨h1,o,ho,U,h2⟩:=cV.mp ha;exact⟨⟨a,h1,rfl⟩,o,ho,U,by rw[Df (hI o ho),dh];exact Y9 h2⟩
theorem Fv(g:Good M os)(H:∀h∈hs,cT M h)(a:Gn (mm hs) (List.range hs.length) I)(b:Gn (mm (nm os hs)) (List.range (nm os hs).length) J):bj (nm os hs) J=so ((bj hs I).map λ h=>bP (h.map (pl os))):=by
 have C:∀i∈I,i<hs.length:= λ i o=>wL.mp (a.sub i o);have U:Gn (mm (nm os hs)) (List.range (nm os hs).length) I:=by rw[uF];exact a.tr (A:=List.range hs.length) (λ{L e p} hL=>Mj g H hL) λ x hx=>hx
 rw[(ji (nonneg (pb g H)) (pb g H) (λ i o=>wL.mp o) Q7 b U).1];unfold bj;split;. rfl
 .refine zq ?_;rw[QQ λ n hn=>yt g H C hn];have:=((pk (I.map (shared hs I))).symm.map λ h=>bP (h.map (pl os)));rwa [Q2]at this
theorem yp(H:∀h∈hs,cT M h)(h1:1<=hs.length)(a:Gn (mm hs) (List.range hs.length) I)(b:Gn (mm (hs++[[(M:Int)]])) (List.range (hs.length+1)) J):bj (hs++[[(M:Int)]]) J=bj hs I:=by
 have H':∀h∈hs++[[(M:Int)]],cT ((M+1:Nat):Int) h:= λ h hh=>by
  rcases fD.mp hh with q|q
  .obtain⟨x,y,z⟩:=H h q;exact⟨x,y,λ c hc=>by have:=z c hc;omega⟩
  .rw[jP.mp q];exact⟨by simp,by simp,λ c hc=>by rw[jP.mp hc];omega⟩
 have hl:(hs++[[(M:Int)]]).length=hs.length+1:=by simp
 have e1:∀i,i<hs.length->G (hs++[[(M:Int)]]) i=G hs i:= λ i U=>by simp[G,U,QL]
 have e2:G (hs++[[(M:Int)]]) hs.length=[(M:Int)]:=by simp[G]
 have E:Er (mm (hs++[[(M:Int)]])) (List.range (hs.length+1)) hs.length 0:=⟨wL.mpr (by omega),wL.mpr (by omega),by omega,λ c o h1 C h2 h3=>by have C:=wL.mp C;rw[cy,e2,jP]at h1;rw[cy,e1 o (by omega)]at h3;have:=(H _ (d4 (show o<hs.length by omega))).2.2 _ h3;omega⟩;have w:wo (List.range (hs.length+1)) hs.length=List.range hs.length:=by unfold wo;rw[List.range_succ,XR,List.filter_eq_self.mpr λ i U=>by have:=wL.mp U;simp;omega];simp
 have a':Gn (mm (hs++[[(M:Int)]])) (List.range (hs.length+1)) I:= .ear E (by
  rw[w];refine a.tr (A:=List.range hs.length) (λ{L e p} hL=>?_) λ x hx=>hx;have t:∀i∈L,∀c,mm (hs++[[(M:Int)]]) i c=mm hs i c:= λ i U c=>by show decide _=decide _;rw[e1 i (wL.mp (hL i U))]
  constructor;. intro E;exact⟨E.he,E.hp,E.ne,λ c o h1 C h2 h3=>by rw[t _ E.he]at h1;rw[t _ C]at h3;rw[t _ E.hp];exact E.hold c o h1 C h2 h3⟩
  .intro E;exact⟨E.he,E.hp,E.ne,λ c o h1 C h2 h3=>by rw[<- t _ E.he]at h1;rw[<- t _ C]at h3;rw[<- t _ E.hp];exact E.hold c o h1 C h2 h3⟩);rw[(ji (nonneg H') H' (λ i U=>by rw[hl];exact wL.mp U) Q7 b a').1];unfold bj;have:I.map (shared (hs++[[(M:Int)]]) I)=I.map (shared hs I):=QQ λ n hn=>by have hI:∀i∈I,i<hs.length:= λ i U=>wL.mp (a.sub i U);unfold shared;rw[e1 n (hI n hn)];refine Y1 λ c _=>?_;rw[Z0,VC,VC];exact exists_congr λ o=>and_congr_right λ C=>by rw[e1 o (hI o C)]
 rw[this]
end
end K16
namespace K16
open PySem L2 Jt
open Jt.Tu (cj lex_trans ma Lz CC pickT_perm pickT_sorted pickT_map pickT_any gh eG)
noncomputable def tD(X:List Pr):D:= .tup (X.map pD)
noncomputable def kp(e:Pr):List Int:=[(e.1:Int),(e.2:Int)]
theorem Jl(h:kp e=kp f):e=f:=by unfold kp at h;grind
noncomputable def Lr:List (List Int)->Bool
 |a::b::r=>cj a b&&Lr (b::r)
 |_=>true
theorem vI:∀{l:List (List Int)},Lr l=true↔Lz l
 |[]=>⟨λ _=> .nil,λ _=>rfl⟩
 |[a]=>⟨λ _=>V0 _ _,λ _=>rfl⟩
 |a::b::r=>by
  unfold Lr;rw[Z3,vI];constructor
  .rintro⟨o,C⟩;refine ZI.mpr ⟨λ z hz=>?_,C⟩;rcases wW.mp hz with rfl|hz
   .exact o
   .exact lex_trans o ((ZI.mp C).1 z hz)
  .intro h;have h':=ZI.mp h;exact⟨h'.1 b uT,h'.2⟩
theorem Cb:∀X Y:List Pr,jo (X.map pD) (Y.map pD)=(X.zip Y).map λ p=> .tup [pD p.1,pD p.2]
 |[],Y=>by rfl
 |x::X,[]=>by rfl
 |x::X,y::Y=>by show D.tup [pD x,pD y]::jo (X.map pD) (Y.map pD)=_;rw[Cb X Y];rfl
theorem yM(xs:List D)(k:Nat):cutD xs (some k) none=xs.drop k:=by
 unfold cutD;have C:HT.sIx xs.length xs.length none=xs.length:=rfl;have I:HT.sIx xs.length 0 (some k)=min k xs.length:=by simp[HT.sIx];omega
 rw[C,I];by_cases h:k<=xs.length;. rw[Nat.min_eq_left h];exact W8 (by simp)
 .rw[Nat.min_eq_right (by omega),W7 (wN _),W7 (by omega),List.take_nil]
theorem wu:∀X:List Pr,((X.zip (X.drop 1)).map λ p=>cj (kp p.1) (kp p.2)).all id=Lr (X.map kp)
 |[]=>rfl
 |[a]=>rfl
 |a::b::r=>by have o:=wu (b::r);rw[List.drop_succ_cons,List.drop_zero,List.zip_cons_cons,ZH,WG];rw[List.drop_succ_cons,List.drop_zero]at o;rw[o];rfl
theorem LU(h:X.length<=60):bL Ay zo [tD X]=some (.bl (Lr (X.map kp))):=by
 apply br;show Ok zo [.pu (tD X)] _;dsimp only[zo,rX];have sl:Ot (tD X) (some 1) none=some (tD (X.drop 1)):=by show some (D.tup (cutD (X.map pD) (some ((1:Nat):Int)) none))=_;rw[yM,<- List.map_drop];rfl
 have o:uW [tD X,tD (X.drop 1)]=some (bp ((X.zip (X.drop 1)).map λ p=> .tup [pD p.1,pD p.2])):=by rw[<- Cb];rfl
 simp;refine bx (X.zip (X.drop 1)) (λ p=> .tup [pD p.1,pD p.2]) (λ p=>some (.bl (cj (kp p.1) (kp p.2)))) rfl ?_ (by simp;omega) (λ p _=>?_) ?_;. generalize tD (X.drop 1)=t1 at*;simp[sl,o]
 .have lt:CC (pD p.1) (pD p.2)=some (.bl (cj (kp p.1) (kp p.2))):=rfl;simp[lt]
 .have:p4 [.lst ((X.zip (X.drop 1)).map λ p=>D.bl (cj (kp p.1) (kp p.2)))]=some (.bl (Lr (X.map kp))):=by show(boolsOf ((X.zip (X.drop 1)).map λ p=>D.bl (cj (kp p.1) (kp p.2)))).map _=_;rw[cY,<- wu];rfl
  simp_all
theorem E9(h:P.length<64)(nd:(P.map kp).Nodup):∃X:List Pr,gh (P.map pD)=some (X.map pD)/\X.Perm P/\Lz (X.map kp):=by
 refine⟨Jt.Tu.pickT (P.map kp) (0,0) P,?_,pickT_perm _ _ _ (by simp),?_⟩
 .unfold gh;have e:P.map pD=(P.map kp).map λ ns=> .tup (ns.map .int):=by rw[Q2];rfl
  have I:Jt.tupsD (P.map pD)=some (P.map kp):=by rw[e];exact eG _
  rw[I];dsimp only;rw[gA ⟨by simpa using h,by simp[kp]⟩];refine ZO some ?_;rw[pickT_map];exact pickT_any (by simp) _ _
 .have J:(Jt.Tu.pickT (P.map kp) (0,0) P).map kp=Jt.Tu.pickT (P.map kp) [] (P.map kp):=by rw[pickT_map];exact pickT_any (by simp) _ _
  have so:=pickT_sorted (P.map kp);rw[<- J]at so;have C:((Jt.Tu.pickT (P.map kp) (0,0) P).map kp).Nodup:=((pickT_perm (P.map kp) (0,0) P (by simp)).map kp).nodup_iff.mpr nd;exact(so.and C).imp λ{a b} z=>by cases U:cj a b with
   |true=>rfl
   |false=>exact absurd (ma U z.1) z.2
section
variable {hs:List (List Int)} {M n:Nat} {X:List Pr}
theorem Cy{B A:Type}(p:B->Bool)(f:B->A):∀l:List B,(l.filterMap λ x=>if p x=true then some (f x)else none)=(l.filter p).map f
 |[]=>rfl
 |x::l=>by cases h:p x <;> simp[h,Cy p f l]
theorem uM{N:Nat}(h:N<=1000):k4 [.int N]=some (bp (cJ 0 N)):=by
 have:cQ N=true:=by simp[cQ];omega
 simp[k4,this]
theorem Qt{Y:DS}{Q:D->DS->Prop}(h:Ok C Y λ x o=>x= .bl true/\Ok I o Q):Ok (D5 C I) Y Q:=G4.mpr (h.mono λ _ _ ⟨e,h⟩=>by simp_all)
theorem Nk(m:Int){e:Pr}(h:e.1<e.2/\e.2<hs.length):bL IL H_ [bB m hs,pD e]=some (.bl true):=by
 apply br;dsimp only[H_,qZ];have o:=LJ (x:=pD e) hs.length (λ xs z=>by cases z;simp);have C:jB hs.length (pD e)=true:=by show((((decide (0<=(e.1:Int))&&decide ((e.1:Int)<hs.length))&&((decide (0<=(e.2:Int))&&decide ((e.2:Int)<hs.length))&&true))&&true))=true;rw[QN (show(e.1:Int)<hs.length by omega),QN (show(e.2:Int)<hs.length by omega)];rfl
 rw[C]at o;have I:=iK hs;have J:y9 (.int e.1) (.int e.2)=some (.bl true):=by have:y9 (.int e.1) (.int e.2)=some (.bl (decide ((e.1:Int)<e.2))):=rfl;simp_all
 rfl';refine Qt ?_;rfl'
theorem P5(h6:n<=6)(hX:∀e∈X,e.1<n/\e.2<n)(hF:fe X):bL MD My [.int (n:Int),tD X]=some (.bl true):=by
 apply br;dsimp only[My,zy];have rl:iY [.int (n:Int)]=some (lD (List.range n)):=by
  have:((n:Int)<100000/\ -(2^62)<=(n:Int)):=by omega
  simp[iY,this,gC]
 rfl';refine B4 (X.map pD) (λ k Y=>∃(l:List Nat) (a b:Jt.Slot),EB n l (X.take k)/\Y=[.pu (.int (n:Int)),.pu (tD X),.pu (.tup (lD l)),a,b]) (by rfl') ⟨_,_,_,pd n,rfl⟩ ?_ ?_
 .rintro k hk _ ⟨l,a,b,o,rfl⟩;have C:k<X.length:=by simpa using hk
  have I:(X.map pD)[k]=pD X[k]:=by simp
  rw[I];have hm:=hX _ (QT C);have ek:X.take (k+1)=X.take k++[X[k]]:=ZD C;have J: ¬cX (X.take k) X[k].1 X[k].2:=hF k C;rw[ek];generalize X[k]=e at*;have x1:=nX (H:=l) (k:=e.1) (by rw[o.len];omega);have x2:=nX (H:=l) (k:=e.2) (by rw[o.len];omega);have lk:=BP (l:=l) (by rw[o.len];exact h6) (a:=e.1) (b:=e.2) (by rw[o.len];omega) (by rw[o.len];omega);have ee:=o.eq e.1 e.2 (by omega) (by omega);have U:=o.lnk (u:=e.1) (v:=e.2) (by omega) (by omega);have ne:km false (.int (l.getD e.1 0:Nat)) (.int (l.getD e.2 0:Nat))=some (.bl false):=by have:=dz false (l.getD e.1 0) (l.getD e.2 0);rw[QR λ z=>J (ee.mp z)]at this;exact this
  show Ok (jZ 2 _ (.tup [.int (e.1:Int),.int (e.2:Int)])) _ _;rfl';refine gg ?_;rfl';exact⟨_,_,_,U,rfl⟩
 simp
theorem NU(m:Int)(h1:1<=hs.length)(J:hs.length<=6)(hl:X.length+1=hs.length)(o:∀e∈X,e.1<e.2/\e.2<hs.length)(C:Lz (X.map kp))(U:fe X):bL wg BX [bB m hs,tD X]=some (.bl true):=by
 apply br;dsimp only[BX,ra];have e3:=cU m hs;have e4:=iK hs;have e5:cP [tD X]=some (.int (X.length:Int)):=by simp[cP,tD]
 have e6:ub (.int (hs.length:Int)) (.int 1)=some (.int (X.length:Int)):=by have:ub (.int (hs.length:Int)) (.int 1)=some (.int ((hs.length:Int) -1)):=rfl;rw[this];congr 2;omega
 have e7:eY true (.int (X.length:Int)) (.int (X.length:Int))=some (.bl false):=by rw[dq];simp
 have er:=LU (X:=X) (by omega);rw[vI.mpr C]at er;have en:=P5 J (λ e he=>⟨by have:=o e he;omega,(o e he).2⟩) U;have I:p4 [.lst (X.map λ _=>D.bl true)]=some (.bl true):=by show(boolsOf (X.map λ _=>D.bl true)).map _=_;rw[cY];simp
 rfl';refine gg ?_;rfl';refine gg ?_;rfl';refine bx X pD (λ _=>some (.bl true)) rfl (by rfl') (by omega) (λ e he=>?_) ?_;. have ep:=Nk (hs:=hs) m (o e he);rfl'
 rw[Z5];rfl'
noncomputable def iu(sm:List Nat)(X:List Pr):List Pr:=X.filter λ e=>decide (e.1∈sm)&&decide (e.2∈sm)
theorem Ph(I:X.length<=60)(J:sm.length<=(iu sm X).length+1):bL KZ Nh [.tup (lD sm),tD X]=some (.bl true):=by
 apply br;dsimp only[Nh,Dd];have ln:cP [.tup (lD sm)]=some (.int sm.length):=by simp[cP,lD]
 rfl';refine bx X pD (λ e=>if(decide (e.1∈sm)&&decide (e.2∈sm))=true then some (.int e.1)else none) rfl (by rfl') (by omega) (λ e he=>?_) ?_
 .have U:wU false (.int e.1) (.tup (lD sm))=some (.bl (decide (e.1∈sm))):=AW false e.1 sm;have i2:wU false (.int e.2) (.tup (lD sm))=some (.bl (decide (e.2∈sm))):=AW false e.2 sm;generalize decide (e.1∈sm)=b1 at*;generalize decide (e.2∈sm)=o at*;rfl';show Ok (jZ 2 _ (.tup [.int e.1,.int e.2])) _ _;rfl';cases b1;. rfl'
  .rfl';cases o;. rfl'
   .rfl'
 have C:(X.filterMap λ e=>if(decide (e.1∈sm)&&decide (e.2∈sm))=true then some (D.int e.1)else none)=(iu sm X).map λ e=>D.int e.1:=Cy _ _ _;rw[C];have l2:cP [.lst ((iu sm X).map λ e=>D.int e.1)]=some (.int ((iu sm X).length:Int)):=by simp[cP]
 have ge:OM (.int ((iu sm X).length:Int)) (.int (sm.length-1))=some (.bl true):=by have:OM (.int ((iu sm X).length:Int)) (.int (sm.length-1))=some (.bl (decide (((iu sm X).length:Int)>=sm.length-1))):=rfl;rw[this,QN (by omega)]
 rfl'
theorem Pf(U:1<=hs.length)(I:hs.length<=6)(hM:M<=7)(hl:X.length+1=hs.length)(ht:bL wg BX [bB M hs,tD X]=some (.bl true))(J:∀c,c<M->(vc hs c).length<=(iu (vc hs c) X).length+1):
  bL D8 LH [bB M hs,tD X]=some (.bl true):=by
 apply br;have er:k4 [.int M]=some (bp ((List.range M).map λ(c:Nat)=> .int c)):=by rw[uM (by omega)];simp[cJ]
 have C:p4 [.lst ((List.range M).map λ _=>D.bl true)]=some (.bl true):=by show(boolsOf ((List.range M).map λ _=>D.bl true)).map _=_;rw[cY];simp
 refine gg ?_;rfl';refine bx (List.range M) (λ c=> .int c) (λ _=>some (.bl true)) rfl (by rfl') (by rw[QJ];omega) (λ c o=>?_) ?_;. have eh:=IZ (hs:=hs) I c (wL.mp o);have eg:=Ph (X:=X) (by omega) (J c (wL.mp o));rfl'
 simp_all
end
end K16
namespace K16
open PySem L2 Jt
open Jt.Tu (Lz gh)
section
variable {m:Nat->Nat->Bool}
theorem JF.ear{L:List Nat}{e p:Nat}{t:List Pr}(E:Er m L e p)(T:JF m (wo L e) t):JF m L (t++[(p,e)]):=by
 have nt:∀f∈t,f.1≠e/\f.2≠e:= λ f hf=>⟨(aY.mp (T.inn f hf).1).2,(aY.mp (T.inn f hf).2).2⟩;refine⟨λ f hf=>?_,mH.mpr ⟨T.fst,λ r=>?_⟩,λ c a b ha I C o=>?_⟩
 .rcases fD.mp hf with z|z
  .exact⟨(aY.mp (T.inn f z).1).1,(aY.mp (T.inn f z).2).1⟩
  .rw[jP.mp z];exact⟨E.hp,E.he⟩
 .cases r.symm with
  |refl=>exact E.ne rfl
  |step z _=>exact z.elim (λ z=>(nt _ z).1 rfl) λ z=>(nt _ z).2 rfl
 .have up:∀{x y:Nat},cX (xX m t c) x y->cX (xX m (t++[(p,e)]) c) x y:= λ r=>r.mono λ f hf=>by
   obtain⟨f1,f2⟩:=cK.mp hf;exact cK.mpr ⟨ZL _ f1,f2⟩
  have to:∀{b:Nat},b∈L->b≠e->m b c=true->m e c=true->cX (xX m (t++[(p,e)]) c) e b:= λ{b} I J o U=>by
   have aa:=E.hold c b U I J o;exact .step (.inr (cK.mpr ⟨xZ _ (jP.mpr rfl),aa,U⟩)) (up (T.con c p b (aY.mpr ⟨E.hp,E.ne⟩) (aY.mpr ⟨I,J⟩) aa o))
  by_cases qa:a=e
  .subst qa;by_cases qb:b=a;. subst qb;exact .refl _
   .exact to I qb o C
  .by_cases qb:b=e;. subst qb;exact(to ha qa C o).symm
   .exact up (T.con c a b (aY.mpr ⟨ha,qa⟩) (aY.mpr ⟨I,qb⟩) C o)
end
section
variable {hs:List (List Int)} {M:Nat}
noncomputable def jl(E:List Pr):List Pr:=(E.map λ e=>(e.2,e.1)).reverse
theorem A_(K:∀i,∀x∈G hs i,0<=x):∀(f:Nat)(ls:List Nat){x:Nat},ls.Nodup->(gJ hs f ls).2=[x]->JF (mm hs) ls (jl (gJ hs f ls).1)/\(gJ hs f ls).1.length+1=ls.length
 |0,ls,x,nd,h=>by subst h;exact⟨⟨λ e he=>(nomatch he),jb,λ c a b o C _ _=>by rw[jP.mp o,jP.mp C];exact .refl _⟩,rfl⟩
 |f+1,ls,x,nd,h=>by cases q:cF hs ls with
  |nil=>rw[il q]at h|-;subst h;exact⟨⟨λ e he=>(nomatch he),jb,λ c a b o C _ _=>by rw[jP.mp o,jP.mp C];exact .refl _⟩,rfl⟩
  |cons p r=>
   obtain⟨m1,m2⟩:=fX q;have E:=(iJ K m1).mp m2;rw[fI q]at h|-;obtain⟨g1,g2⟩:=A_ K f (wo ls p.1) (eF nd) h;refine⟨?_,?_⟩
   .have:jl (p::(gJ hs f (wo ls p.1)).1)=jl (gJ hs f (wo ls p.1)).1++[(p.2,p.1)]:=by simp[jl]
    show JF (mm hs) ls (jl (p::(gJ hs f (wo ls p.1)).1));rw[this];exact g1.ear E
   .have:=(iZ nd m1).length_eq;rw[QU]at this;show(gJ hs f (wo ls p.1)).1.length+1+1=_;omega
theorem Kf(e:Pr):jd (e.2,e.1)=jd e:=by simp[jd,Nat.min_comm,Nat.max_comm]
theorem Ku(E:List Pr):((jl E).map jd).Perm (E.map jd):=by unfold jl;rw[List.map_reverse,Q2];refine(List.reverse_perm _).trans (List.Perm.of_eq ?_);exact QQ λ e _=>Kf e
theorem yS(H:∀h∈hs,cT M h)(h6:hs.length<=6)(K:∀i,∀x∈G hs i,0<=x){x:Nat}(hx:(gJ hs hs.length (List.range hs.length)).2=[x]):
  ∃X:List Pr,gh (((gJ hs hs.length (List.range hs.length)).1.map jd).map pD)=some (X.map pD)/\X.length+1=hs.length/\(∀e∈X,e.1<e.2/\e.2<hs.length)/\Lz (X.map kp)/\fe X/\∀c,c<M->(vc hs c).length<=(iu (vc hs c) X).length+1:=by
 obtain⟨T,hl⟩:=A_ K hs.length _ Q7 hx;rw[QJ]at hl;generalize(gJ hs hs.length (List.range hs.length)).1=E at*;have pp:=Ku E;have f1:fe (E.map jd):=l8 pp (wG T.fst);have nd:((E.map jd).map kp).Nodup:=by unfold List.Nodup;rw[ZX];exact(nY f1).imp λ{a b} h z=>h (Jl z)
 obtain⟨X,s1,s2,s3⟩:=E9 (P:=E.map jd) (by rw[uL];omega) nd;have inn:∀e∈X,e.1<e.2/\e.2<hs.length:= λ e he=>by have:=pp.symm.mem_iff.mp (s2.mem_iff.mp he);obtain⟨g,o,rfl⟩:=fN.mp this;obtain⟨a,b⟩:=T.inn g o;have a:=wL.mp a;have b:=wL.mp b;have:=u6 T.fst o;show min g.1 g.2<max g.1 g.2/\max g.1 g.2<hs.length;omega
 have C:fe X:=l8 s2.symm f1;refine⟨X,s1,by rw[s2.length_eq,uL];exact hl,inn,s3,C,λ c hc=>?_⟩;have I:(vc hs c).Nodup:=List.nodup_range.filter _;refine(va (E:=iu (vc hs c) X) I (λ e he=>?_) C.sub).mpr ?_;. have:=(uP.mp he).2;simpa using this
 .intro a J b U;obtain⟨a1,a2⟩:=uP.mp J;obtain⟨b1,b2⟩:=uP.mp U;have r:=T.con c a b a1 b1 a2 b2;have r2:=pe.mpr r;refine r2.mono λ e he=>?_;obtain⟨g,o,rfl⟩:=fN.mp he;obtain⟨g1,g2,g3⟩:=cK.mp o;have hin:=T.inn g g1;have hX:jd g∈X:=s2.mem_iff.mpr (pp.mem_iff.mp (Y9 g1));refine uP.mpr ⟨hX,?_⟩;have v1:g.1∈vc hs c:=uP.mpr ⟨hin.1,g2⟩;have v2:g.2∈vc hs c:=uP.mpr ⟨hin.2,g3⟩;rcases jH g with z|z
  .rw[z];simp[v1,v2]
  .rw[z];simp[v1,v2]
end
end K16
namespace K16
open PySem L2 Jt
open Jt.Tu (gh eG)
theorem mB{δ0:DS}{tt:Jt.M Bool}{body:Jt.M Fl}{Q:Fl->DS->Prop}(I:Nat->DS->Prop)(h:∀k Y,I k Y->Ok tt Y λ b C=>(b=true->∃j,k=j+1/\Ok body C λ U o=>match U with
   | .nx=>I j o
   | .ct=>I j o
   | .bk=>Q .nx o
   | .rt d=>Q (.rt d) o
   | .rf d=>Q (.rf d) o)/\(b=false->Q .nx C)):
  ∀(f n:Nat)(Y:DS),n<f->I n Y->Ok (Hj tt body f) Y Q
 |0,n,Y,hf,_=>by omega
 |f+1,n,Y,hf,hI=>by unfold Hj;rw[bA];refine(h n Y hI).mono λ b C hb=>?_;cases b with
  |false=>exact bK.mpr (hb.2 rfl)
  |true=>obtain⟨j,rfl,hj⟩:=hb.1 rfl;show Ok (body >>= _) C Q;rw[bA];refine hj.mono λ U o J=>?_;cases U with
   |nx=>exact mB (δ0:=δ0) I h f j o (by omega) J
   |ct=>exact mB (δ0:=δ0) I h f j o (by omega) J
   |bk=>simp_all
   |rt d=>exact bK.mpr J
   |rf d=>exact bK.mpr J
section
variable {hs:List (List Int)} {ls I:List Nat} {M:Nat}
theorem o6:∀(f:Nat)(ls:List Nat),(∀i∈ls,i<hs.length)->kC hs ((gJ hs f ls).1.map pD) ls=some (gJ hs f ls).2
 |0,_,_=>rfl
 |f+1,ls,h=>by cases q:cF hs ls with
  |nil=>rw[il q];rfl
  |cons p r=>
   obtain⟨m1,m2⟩:=fX q;rw[fI q];show kC hs (pD (p.1,p.2)::_) ls=_;have:rF (pD (p.1,p.2))=p.1:=by rfl
   rw[fK,jN _ _ (h _ m1) (h _ (g8 m2).1),QN m1,QN m2];exact o6 f _ λ i o=>h i (uP.mp o).1
theorem pW:∀(f:Nat)(ls:List Nat),ls.Nodup->(gJ hs f ls).1.length+(gJ hs f ls).2.length=ls.length
 |0,_,_=>by simp[gJ]
 |f+1,ls,nd=>by cases q:cF hs ls with
  |nil=>rw[il q];simp
  |cons p r=>obtain⟨m1,m2⟩:=fX q;have o:=(iZ nd m1).length_eq;have:=pW f (wo ls p.1) (eF nd);rw[fI q];show(p::(gJ hs f (wo ls p.1)).1).length+(gJ hs f (wo ls p.1)).2.length=_;grind
theorem kb(hl:ks.length<64)(J:∀k∈ks,k≠[]):gh (ks.map hD)=some ((so ks).map hD):=by have C:Jt.tupsD (ks.map hD)=some ks:=eG ks;unfold gh;rw[C];dsimp only;rw[gA ⟨hl,ZV.mpr λ k U=>by simp_all⟩];refine ZO some ?_;unfold so;rw[Jt.Tu.pickT_map];exact Jt.Tu.pickT_any (by simp) _ _
theorem mG(H:∀h∈hs,cT M h)(g:Gn (mm hs) (List.range hs.length) I):(∀i∈I,i<hs.length)/\I.Nodup/\I.length<=hs.length:=by have o:∀i∈I,i<hs.length:= λ i J=>wL.mp (g.sub i J);have C:=g.nd Q7;refine⟨o,C,?_⟩;have:=tQ hs.length I C o;omega
theorem IP(m:Int)(o:Fn hs (List.range hs.length)){x:D}(hx:Ma x){r:List Nat}(h:jk hs x= .tup (lD r)):bL HQ Ic [bB m hs,x]=some (.tup (lD r)):=by apply br;dsimp only[Ic,og];have e:=Nt m o hx;rw[h]at e;rfl';refine gg ?_;rfl'
theorem vK(h1:1<=hs.length)(h6:hs.length<=6)(h7:∀h∈hs,h.length<=7)(H:∀h∈hs,cT M h)(C:Fn hs (List.range hs.length)):
  bL sv vo [bB m hs]=some (.tup ((bj hs (gJ hs hs.length (List.range hs.length)).2).map hD)):=by
 apply br;dsimp only[vo,rB];have K:=nonneg H;have e1:=Ij m C;have eg:=o6 hs.length (List.range hs.length) (hs:=hs) λ i o=>wL.mp o;have J:=jO K hs.length (List.range hs.length) (by rw[QJ];exact wN _);have el:=pW hs.length (List.range hs.length) (hs:=hs) Q7;rw[QJ]at el;generalize hE:(gJ hs hs.length (List.range hs.length)).1=E at*;generalize hI:(gJ hs hs.length (List.range hs.length)).2=I at*;obtain⟨U,i2,i3⟩:=mG H J;have hg:jk hs (.lst (E.map pD))= .tup (lD I):=by show tq (kC hs _ _)=_;rw[eg];rfl
 have ht:Ma (.lst (E.map pD)):= λ xs e=>by cases e;refine⟨by rw[uL];omega,λ d hd=>?_⟩;obtain⟨p,_,rfl⟩:=fN.mp hd;intro xs e;cases e;simp
 have e2:=IP m C ht hg;have e3:cP [.tup (lD I)]=some (.int (I.length:Int)):=by simp[cP,lD]
 have e4:=dq false (I.length:Int) 1;rfl';refine gg ?_;by_cases q:I.length=1;. rw[QN (by omega)]at e4;have:bj hs I=[]:=gA q;rw[this];rfl'
 .rw[QR (by omega)]at e4;have ec:bj hs I=so (I.map (shared hs I)):=gL q;rw[ec];rfl';refine bx I (λ(i:Nat)=> .int (i:Int)) (λ i=>some (hD (shared hs I i))) rfl (by rfl') (by omega) (λ i o=>?_) ?_;. have es:=I0 (ls:=I) (x:= .tup (lD I)) ⟨h6,by omega,U,C.w,rfl⟩ m (U i o);rfl'
  rw[Z5];have em:(I.map λ i=>hD (shared hs I i))=(I.map (shared hs I)).map hD:=by rw[Q2];rfl
  have es:=kb (ks:=I.map (shared hs I)) (by rw[uL];omega) λ k hk=>by obtain⟨i,o,rfl⟩:=fN.mp hk;exact oz J.end q o i2
  rw[em];rfl'
theorem Ny(m:Int)(o:hs.length<=6)(hw:∀h∈hs,h.length<=100):gK Az zT [bB m hs]=some ((cF hs (List.range hs.length)).map pD):=by apply kE;dsimp only[zT,qP];have U:=CG m hs o;have C:=Hy (hs:=hs) (ls:=List.range hs.length) (x:= .tup (lD (List.range hs.length))) ⟨o,by simp_all,λ i J=>wL.mp J,hw,rfl⟩ m;rw[r_]at C;rfl'
theorem rp:∀(ds:List D)(ls:List Nat)(d:D),kC hs (ds++[d]) ls=(kC hs ds ls).bind λ l=>kC hs [d] l
 |[],ls,d=>rfl
 |x::r,ls,d=>by
  show kC hs (x::(r++[d])) ls=_;rw[fK,fK];split;. exact rp r _ d
  rfl
theorem N7(nd:ls.Nodup)(E:Er (mm (al hs ls)) (List.range ls.length) a b):Er (mm hs) ls (ls.getD a 0) (ls.getD b 0):=by have C:=wL.mp E.he;have J:=wL.mp E.hp;refine⟨jR C,jR J,λ z=>E.ne (getD_inj nd J C z),λ c o h1 ho h2 h3=>?_⟩;obtain⟨j,U,rfl⟩:=mem_getD ho;have:=E.hold c j (cy.mpr (by rw[jy C];exact cy.mp h1)) (wL.mpr U) (λ z=>h2 (by rw[z])) (cy.mpr (by rw[jy U];exact cy.mp h3));rw[cy,jy J]at this;exact cy.mpr this
theorem Mi(nd:ls.Nodup)(E:Er (mm hs) ls e p):∃a b,Er (mm (al hs ls)) (List.range ls.length) a b:=by
 obtain⟨a,J,rfl⟩:=mem_getD E.he;obtain⟨b,U,rfl⟩:=mem_getD E.hp;refine⟨a,b,wL.mpr J,wL.mpr U,λ z=>E.ne (by rw[z]),λ c o h1 C h2 h3=>?_⟩;have C:=wL.mp C;rw[cy,jy J]at h1;rw[cy,jy C]at h3;rw[cy,jy U];by_cases q:ls.getD o 0=ls.getD a 0;. exact absurd (getD_inj nd C J q) h2
 .exact cy.mp (E.hold c _ (cy.mpr h1) (jR C) q (cy.mpr h3))
theorem HI(o:n<hs.length):j_ (.tup (hs.map hD)) (.int n)=some (hD (G hs n)):=by show jS _ _=_;rw[fj _ _ (by simp_all)];simp[G,o]
theorem zp(neg:Bool){B:Type}(f:B->D)(l:List B):km neg (.lst (l.map f)) (.lst [])=some (.bl (if neg then !l.isEmpty else l.isEmpty)):=by cases l <;> cases neg <;> rfl
theorem Hx{k:Nat}(h:k<H.length):j_ (.lst (lD H)) (.int k)=some (.int ((H.getD k 0:Nat):Int)):=nX h
theorem Mq(nd:ls.Nodup)(h:x∈ls):(((ls.map λ(i:Nat)=>(i:Int)).eraseIdx ((ls.map λ(i:Nat)=>(i:Int)).idxOf (x:Int))).map D.int)=lD (wo ls x):=by rw[nF,hO,erase_filter x ls nd h,<- zr];rfl
theorem zD{P:List (Nat×Nat)}{j:Nat}(o:j<P.length):j_ (.lst (P.map pD)) (.int j)=some (pD (P.getD j (0,0))):=by show jS _ _=_;rw[fj _ _ (by simp_all)];simp[o]
theorem lB(n0:Int){m:Int}(h1:1<=hs.length)(h6:hs.length<=6)(h7:∀h∈hs,h.length<=7)(H:∀h∈hs,cT M h):
  ∃d C,jr B8 IJ [.int n0] [bB m hs]=some (d,C)/\(∃(E:List (Nat×Nat)) (I:List Nat),d= .lst (E.map pD)/\kC hs (E.map pD) (List.range hs.length)=some I/\(∀e p,¬Er (mm hs) I e p)/\E.length+I.length=hs.length)/\∃n:Int,C=[.int n]:=by
 apply kr;dsimp only[IJ,qA];have K:=nonneg H;have e1:=cU m hs;have af:=ja m hs;have e2:=iK hs;have e3:iY [.int (hs.length:Int)]=some (lD (List.range hs.length)):=by
  have h1:(hs.length:Int)<100000:=by omega
  simp[iY,h1,gC]
 rfl';refine mB (δ0:=[]) (λ k Y=>∃(n:Int) (ls:List Nat) (E:List (Nat×Nat)) (a b c d:Jt.Slot),Y=[.ow true [.int n],.pu (bB m hs),.ow false (lD ls),.ow false (E.map pD),a,b,c,d]/\kC hs (E.map pD) (List.range hs.length)=some ls/\ls.Nodup/\(∀i∈ls,i<hs.length)/\E.length+ls.length=hs.length/\1<=ls.length/\ls.length=k) ?_ 9 hs.length _ (by omega) ⟨_,_,[],_,_,_,_,rfl,rfl,Q7,λ i o=>wL.mp o,by simp,by simpa using h1,by simp⟩;rintro k _ ⟨n,ls,E,a,b,c,d,rfl,g1,g2,g3,g4,g5,rfl⟩;have l6:ls.length<=6:=by omega
 have E6:E.length<=6:=by omega
 have H':=zZ (I:=ls) H g3;have K':=nonneg H';have J:(al hs ls).length=ls.length:=uL _;have ee:=Ny (hs:=al hs ls) m (by rw[J];exact l6) (λ h U=>by obtain⟨i,o,rfl⟩:=fN.mp U;exact Q3 (h7 _ (d4 (g3 i o))) (by omega));rw[J]at ee;have ee:gK Az zT [.tup [.int m,.tup ((al hs ls).map hD)]]=_:=ee;have ed:dE [.lst (ls.map λ i=>hD (G hs i))]=some (.tup ((al hs ls).map hD)):=by show some (D.tup _)=some (D.tup _);unfold al;rw[Q2];rfl
 rfl';refine⟨λ _=>⟨ls.length-1,by omega,?_⟩,λ z=>by cases z⟩;rfl';refine sM (i:=2) (b:=false) ls (λ(i:Nat)=> .int (i:Int)) (λ i=>some (hD (G hs i))) rfl rfl ?_ (by omega) (λ i o=>?_) ?_;. rfl';exact⟨by rw[jw],rfl⟩
 .have ei:=HI (hs:=hs) (g3 i o);rfl'
 rw[Z5];rfl';refine gg ?_;have eq:=zp false pD (cF (al hs ls) (List.range ls.length));rw[gL (by simp)]at eq;cases hP:cF (al hs ls) (List.range ls.length)with
 |nil=>rw[hP]at eq;have eq:km false (.lst []) (.lst [])=some (.bl true):=eq;rfl';refine⟨_,_,rfl,rfl,⟨E,ls,rfl,g1,λ e p F=>?_,g4⟩,_,rfl⟩;obtain⟨x,y,F'⟩:=Mi g2 F;exact qf K' F' hP
 |cons p0 r0=>
  rw[<- hP];have ag:0<(cF (al hs ls) (List.range ls.length)).length:=by rw[hP];simp
  have ae:∀q∈cF (al hs ls) (List.range ls.length),Er (mm (al hs ls)) (List.range ls.length) q.1 q.2:= λ q hq=>by obtain⟨x,hx,e⟩:=YS.mp hq;cases U:(holders (al hs ls) (List.range ls.length) x).head? with
   |none=>rw[U]at e;cases e
   |some y=>rw[U]at e;cases e;exact(iJ K' hx).mp (List.mem_of_head? U)
  have ah:(cF (al hs ls) (List.range ls.length)).length<=6:=Q3 (List.length_filterMap_le _ _) (by rw[QJ];exact l6);have eq:km false (.lst ((cF (al hs ls) (List.range ls.length)).map pD)) (.lst [])=some (.bl false):=by rw[eq,hP];rfl
  generalize cF (al hs ls) (List.range ls.length)=P at*;have eL:cP [.lst (P.map pD)]=some (.int (P.length:Int)):=by simp[cP]
  have et:=m_law_take n (P.length:Int) (by omega) (by omega);obtain⟨j,hj⟩:∃j:Nat,n%(P.length:Int)=(j:Int):=⟨(n%(P.length:Int)).toNat,by have:=WN n (show(P.length:Int)≠0 by omega);omega⟩;rw[hj]at et;have aa:j<P.length:=by have:=YT n (show(0:Int)<P.length by omega);omega
  have ep:=zD aa;have Ep:=ae (P.getD j (0,0)) (by simp[aa]);generalize P.getD j (0,0)=p at*;obtain⟨x,y⟩:=p;have hx:x<ls.length:=wL.mp Ep.he;have hy:y<ls.length:=wL.mp Ep.hp;have F:Er (mm hs) ls (ls.getD x 0) (ls.getD y 0):=N7 g2 Ep;have ix:=Hx hx;have iy:=Hx hy;have rm:=Mq g2 F.he;have ab:=jN (hs:=hs) (ls:=ls) (ls.getD x 0) (ls.getD y 0) (g3 _ F.he) (g3 _ F.hp);rw[QN F.he,QN ((iJ K F.he).mpr F)]at ab;have w1:=(iZ g2 F.he).length_eq;rw[QU]at w1;have w2:1<=(wo ls (ls.getD x 0)).length:=ZT (aY.mpr ⟨F.hp,F.ne⟩);rfl';refine ck.mpr ?_;rfl';show Ok (jZ 2 _ (.tup [.int (x:Int),.int (y:Int)])) _ _;rfl';refine uY ⟨_,_,rfl⟩ ?_;rfl';refine⟨((ls.getD x 0:Nat):Int),false,ls.map λ(i:Nat)=>(i:Int),rfl,by rw[<- zr];rfl,Y9 F.he,?_⟩;rw[rm];refine⟨n/(P.length:Int),wo ls (ls.getD x 0),E++[(ls.getD x 0,ls.getD y 0)],.pu (.tup ((al hs ls).map hD)),.pu (.lst (P.map pD)),.pu (.int (x:Int)),.pu (.int (y:Int)),?_,?_,eF g2,λ i o=>g3 i (aY.mp o).1,by rw[gE,List.length_singleton];omega,w2,by omega⟩;. rw[ZP];rfl
  .rw[ZP,List.map_singleton,rp,g1];show kC hs [pD (ls.getD x 0,ls.getD y 0)] ls=_;have:rF (pD (ls.getD x 0,ls.getD y 0))=ls.getD x 0:=by simp[rF,pD]
   rw[fK,ab,this];rfl
end
section
variable {n:Nat}
noncomputable abbrev kH(ks:List (List Int)):D:= .tup (ks.map hD)
theorem KQ(n:Nat)(a b:List Int):fu (n+2) (hD a) (hD b)=some (decide (a=b)):=by have h:=Aw n a b;show(fu.go (n+1) (a.map .int) (b.map .int)).map (λ c=>c&&(a.map D.int).length==(b.map D.int).length)=_;rw[h];refine ZO some (Z0.mpr ?_);grind
theorem IG(n:Nat):∀a b:List (List Int),fu.go (n+2) (a.map  hD) (b.map  hD)=some (decide (a.take b.length=b.take a.length))
 |[],b=>by cases b <;> simp[fu.go]
 |x::a,[]=>by rfl
 |x::a,y::b=>by rw[ZH,ZH];unfold fu.go;rw[KQ,IG n a b];simp
theorem k9(neg:Bool)(a b:List (List Int)):km neg (kH a) (kH b)=some (.bl (if neg then !decide (a=b)else decide (a=b))):=by
 have:fu 9 (kH a) (kH b)=some (decide (a=b)):=by show(fu.go 8 (a.map  hD) (b.map  hD)).map (λ c=>c&&(a.map  hD).length==(b.map  hD).length)=_;rw[IG 6];refine ZO some (Z0.mpr ?_);grind
 show(fu 9 (kH a) (kH b)).map _=_;simp_all
end
section
variable {hs:List (List Int)} {M:Nat} {ks:List (List Int)}
theorem HH(o:i<ks.length):j_ (kH ks) (.int i)=some (hD (ks.getD i [])):=by show jS _ _=_;rw[fj _ _ (by simp_all)];simp[o]
theorem jX(h6:ks.length<=6)(h7:∀k∈ks,k.length<=7)(hn:∀k∈ks,k≠[])(A:Apart ks)(U:so ks=ks):bL J0 NG [lay,kH ks]=some (.bl true):=by
 apply br;dsimp only[NG,A9];have e1:cP [kH ks]=some (.int (ks.length:Int)):=by simp[cP]
 have e2:=uM (N:=ks.length) (by omega);rfl';have ab:gh (ks.map hD)=some (ks.map hD):=by
  have:=kb (ks:=ks) (by omega) hn;rwa [U]at this
 refine B4 (cJ 0 ks.length) (λ _ Y=>∃a b c,Y=[.pu lay,.pu (kH ks),a,b,c]) (by rfl') ⟨_,_,_,rfl⟩ ?_ ?_
 .rintro i hi _ ⟨a,b,c,rfl⟩;have o:i<ks.length:=by simpa[cJ]using hi
  rw[ko];have x1:=HH o;have l7:(ks.getD i []).length<=7:=h7 _ (by simp[o]);rfl';refine mF (cJ 0 ks.length) (λ _ Y=>∃b c,Y=[.pu lay,.pu (kH ks),.pu (.int (i:Int)),b,c]) ⟨_,_,rfl⟩ ?_ ?_
  .rintro j hj _ ⟨b,c,rfl⟩;have C:j<ks.length:=by simpa[cJ]using hj
   rw[ko];have x2:=HH C;have J:=dz true i j;rw[gA rfl]at J;rfl';refine bx (ks.getD i []) .int (λ c=>if(!decide (c∈ks.getD j []))=true then some (.int c)else none) rfl (by rfl') (by omega) (λ c hc=>?_) ?_
   .have x4:wU true (.int c) (hD (ks.getD j []))=some (.bl (!decide (c∈ks.getD j []))):=kN true c _;generalize decide (c∈ks.getD j [])=b at x4|-;cases b;. rfl'
    .rfl'
   rw[Cy];have x5:=zp false D.int ((ks.getD i []).filter λ c=> !decide (c∈ks.getD j []));by_cases q:i=j;. rw[QN q]at J;have J:km true (.int (i:Int)) (.int (j:Int))=some (.bl false):=J;rfl';exact⟨_,_,rfl⟩
   .rw[QR q]at J;have x6:((ks.getD i []).filter λ c=> !decide (c∈ks.getD j [])).isEmpty=false:=by
     have ap:∃c∈ks.getD i [],c∉ks.getD j []:=by
      have gi:ks.getD i []=ks[i]:=by simp[o]
      have gj:ks.getD j []=ks[j]:=by simp[C]
      rw[gi,gj];rcases Nat.lt_or_gt_of_ne q with h|h
      .exact(Z7.mp A i j o C h).1
      .exact(Z7.mp A j i C o h).2
     obtain⟨c,hc,aa⟩:=ap;cases z:(ks.getD i []).filter λ c=> !decide (c∈ks.getD j [])with
     |nil=>have:c∈(ks.getD i []).filter λ c=> !decide (c∈ks.getD j []):=uP.mpr ⟨hc,by rw[QR aa];rfl⟩;rw[z]at this;cases this
     |cons=>rfl
    rw[x6]at x5;rfl';exact⟨_,_,rfl⟩
  .rintro _ ⟨b,c,rfl⟩;exact⟨_,_,_,rfl⟩
 .rintro _ ⟨a,b,c,rfl⟩;have x8:=k9 false ks ks;rw[gL (by simp),QN rfl]at x8;rfl'
theorem M5(H:∀h∈hs,cT M h)(U:M<7)(h6:hs.length<6):bL HR IC [bB M hs,.tup [.int 1,.tup [.tup [.int 0]]]]=some (bB ((M+1:Nat):Int) (hs++[[(M:Int)]])):=by
 apply br;dsimp only[IC,sJ];have e3:j_ (.tup [.int 1,.tup [.tup [.int 0]]]) (.int 1)=some (.tup ([[0]].map hD)):=rfl;have e4:lL (.int (M:Int)) (.int 1)=some (.int ((M+1:Nat):Int)):=rfl;have e5:v_ [.int (M:Int),.int ((M+1:Nat):Int)]=some [.int (M:Int)]:=by unfold v_;dsimp only;rw[gA (by omega)];simp[cJ]
 have e6:=HS (hs:=[[0]]) (places:= .lst [.int (M:Int)]) (pf:= λ _=>(M:Int)) (λ h o c C=>by rw[jP.mp o]at C;rw[jP.mp C];rfl) (by simp) (λ h o=>by rw[jP.mp o];simp);have e7:wm (.tup (hs.map hD)) (.tup ((([[0]]:List (List Int)).map λ h=>bP (h.map λ _=>(M:Int))).map hD))=some (.tup ((hs++[[(M:Int)]]).map hD)):=by show(if(hs.map hD).length+1<=100000 then _ else _)=_;rw[gA (by rw[uL];omega)];rw[ZP];rfl
 have e8:Kj (.int ((M+1:Nat):Int)) (.int 7)=some (.bl false):=by have:Kj (.int ((M+1:Nat):Int)) (.int 7)=some (.bl (decide (((M+1:Nat):Int)>7))):=rfl;rw[this,QR (by omega)]
 have e9:cP [.tup ((hs++[[(M:Int)]]).map hD)]=some (.int ((hs.length+1:Nat):Int)):=by simp[cP]
 have J:Kj (.int ((hs.length+1:Nat):Int)) (.int 6)=some (.bl false):=by have:Kj (.int ((hs.length+1:Nat):Int)) (.int 6)=some (.bl (decide (((hs.length+1:Nat):Int)>6))):=rfl;rw[this,QR (by omega)]
 rfl';refine gg ?_;rfl'
end
section
variable {hs:List (List Int)} {I os:List Nat} {M:Nat}
theorem Pw (h:Ok fo Y fun x o=>Ok fs o fun ds C=>Ok (lift (mJ x ds)) C Q):Ok (Mc fo fs) Y Q:=bA.mpr (h.mono fun _ _ h=>bA.mpr h)
theorem Ed(l:List Nat):b_ (lD l)=some (l.map λ(i:Nat)=>(i:Int)):=by have:=fO (l.map λ(i:Nat)=>i);rw[Q2]at this;exact this
theorem BF(h:c∈os):mJ (.tup (lD os)) [.int c]=some (.int (os.idxOf c:Nat)):=by
 show(b_ (lD os)).bind _=_;rw[Ed];have e:(os.map λ(i:Nat)=>(i:Int)).idxOf (c:Int)=os.idxOf c:=by induction os with
  |nil=>rfl
  |cons x r o=>
   by_cases q:x=c;. subst q;simp
   grind
 simp[e];exact⟨c,h,rfl⟩
inductive LS (z0:Jt.Slot):DS->Prop
 | mk (a1 a2 a3 a4 a5 a6 a7 a8 a9 a10 a11 a12:Jt.Slot):LS z0 [z0,a1,a2,a3,a4,a5,a6,a7,a8,a9,a10,a11,a12]
theorem PJ(h:Ok t Y λ b o=>b=false/\o=Y)(q:Q false Y):Ok t Y Q:=h.mono λ b o ⟨C,J⟩=>by simp_all
theorem yF(C:∀e p,¬Er (mm hs) I e p)(nd:I.Nodup):∀k∈bj hs I,k≠[]:= λ k o=>by
 unfold bj at o;split at o;. grind
 .rename_i q;obtain⟨i,h,rfl⟩:=fN.mp ((pk _).mem_iff.mp o);exact oz C q h nd
theorem vm(o:k∈bj hs I):∃i∈I,k=shared hs I i:=by
 unfold bj at o;split at o;. cases o
 .obtain⟨i,h,rfl⟩:=fN.mp ((pk _).mem_iff.mp o);exact⟨i,h,rfl⟩
theorem zM:(bj hs I).length<=I.length:=by
 unfold bj;split;. simp
 .rw[(pk _).length_eq];simp
theorem Dt(o:1<=I.length):bj hs I=[]↔I.length=1:=by
 unfold bj;constructor
 .intro h;split at h;. assumption
  .have:=(pk (I.map (shared hs I))).length_eq;rw[h]at this;simp at this;omega
 .intro h;rw[gA h]
theorem F6:so (bj hs I)=bj hs I:=by
 unfold bj;split;. rfl
 .exact NY _
noncomputable def Ql(hs:List (List Int))(d:D):Prop:=∃(E:List (Nat×Nat)) (I:List Nat),d= .lst (E.map pD)/\kC hs (E.map pD) (List.range hs.length)=some I/\(∀e p,¬Er (mm hs) I e p)/\E.length+I.length=hs.length
theorem B3:∀ns:List Int,ns.length<=63->(∀i∈ns,Builtin.Int.intBits i<=2^20)->bL oj HC [.lst (ns.map .int)]=some (.bl true):=by
 intro ns ar _;apply br;dsimp only[HC,AG];obtain⟨m,e1⟩:∃m:Int,rL [.int ((ns.map D.int).length:Int),.int 4]=some (.int m)/\m<=4:=⟨_,rfl,by split <;> omega⟩;obtain⟨e1,m4⟩:=e1;obtain⟨N,e2,N4⟩:∃N:Nat,rA [.int 1,.int m]=some (.int (N:Int))/\N<=4:=by
  refine⟨(if m>1 then m else 1).toNat,?_,by split <;> omega⟩;show some (D.int (if m>1 then m else 1))=_;rw[WC (by split <;> omega)]
 have e3:=uM (N:=N) (by omega);refine B4 (cJ 0 N) (λ _=>LS (.pu (.lst (ns.map .int)))) (by rfl') (.mk ..) ?_ ?_
 .rintro k hk _ ⟨a1,a2,a3,a4,a5,a6,a7,a8,a9,au,aw,ax⟩;have ay:k<N:=by simpa[cJ]using hk
  rw[ko];obtain⟨n,en⟩:=yz ns k;obtain⟨d,o,el,m,hs,n1,rfl,rfl,h1,h6,hm,H⟩:=pX n;obtain⟨M,rfl⟩:∃M:Nat,m=(M:Int):=⟨m.toNat,by omega⟩;have h7:∀h∈hs,h.length<=7:= λ h J=>(H h J).len (by omega) (by omega);have hw:∀h∈hs,h.length<=100:= λ h J=>Q3 (h7 h J) (by omega);have F0:Fn hs (List.range hs.length):=⟨h6,by rw[QJ];exact h6,λ i C=>wL.mp C,hw,Q7,by rw[QJ];exact h1⟩;have K:=nonneg H;have t1:=Ij M F0;have t2:=vK (m:=M) h1 h6 h7 H F0;have tg:=o6 hs.length (List.range hs.length) (hs:=hs) λ i C=>wL.mp C;have gn:=jO K hs.length (List.range hs.length) (by rw[QJ];exact wN _);have tl:=pW hs.length (List.range hs.length) (hs:=hs) Q7;rw[QJ]at tl;have tt:= λ x=>yS (M:=M) H h6 K (x:=x);have gr:=vU K hs.length (List.range hs.length) (by rw[QJ];omega) Q7;generalize hE:(gJ hs hs.length (List.range hs.length)).1=E at*;generalize hI:(gJ hs hs.length (List.range hs.length)).2=I at*;obtain⟨i1,i2,i3⟩:=mG H gn;have ip:=gn.pos (by rw[QJ];exact h1);obtain⟨d1,_,s1,S1,n2,rfl⟩:=lB n1 (m:=M) h1 h6 h7 H;obtain⟨d2,_,s2,S2,n3,rfl⟩:=lB n2 (m:=M) h1 h6 h7 H;have S3:Ql hs (.lst (E.map pD)):=⟨E,I,rfl,tg,gn.end,tl⟩;have sd:df (.lst [d1,d2,.lst (E.map pD)])=some (bp [d1,d2,.lst (E.map pD)]):=rfl;have ab:∀d∈[d1,d2,.lst (E.map pD)],Ql hs d:= λ d hd=>by
   rcases wW.mp hd with rfl|hd
   .exact S1
   .rcases wW.mp hd with rfl|hd
    .exact S2
    .rw[jP.mp hd];exact S3
  obtain⟨LL,ae⟩:∃LL,LL=[d1,d2,.lst (E.map pD)]:=⟨_,rfl⟩;rw[<- ae]at ab sd
  rfl'
  refine M8 LL (λ _ Y=>∃a b c d e f g,Y=[.pu (.lst (ns.map .int)),.pu (.int (k:Int)),.ow false [.int n3],.pu (bB M hs),.pu (.lst (E.map pD)),.pu (kH (bj hs I)),a,b,c,d,e,f,g]) ?_ ?_ ?_
  .rfl'
   refine⟨by rw[ae],_,_,_,_,_,_,_,rfl⟩
  .rintro i C _ ⟨a,b,c,d,e,f,g,rfl⟩
   obtain⟨E',U,hd,g1,g2,g3⟩:=ab _ (QT C)
   rw[hd]
   have af:=BJ K _ _ g1 g2
   obtain⟨j1,j2,j3⟩:=mG H af
   obtain⟨c1,c2⟩:=ji K H (λ i C=>wL.mp C) Q7 af gn
   have lE:E'.length=E.length:=by omega
   have ht:Ma (.lst (E'.map pD)):= λ xs e=>by
    cases e
    refine⟨by rw[uL];omega,λ d hd=>?_⟩
    obtain⟨p,_,rfl⟩:=fN.mp hd
    intro xs e
    cases e
    simp
   have hg:jk hs (.lst (E'.map pD))= .tup (lD U):=by
    show tq (kC hs _ _)=_
    rw[g1]
    rfl
   have f1:=Md M F0 ht
   rw[hg]at f1
   have f1:bL Dv xa [bB M hs,.lst (E'.map pD)]=some (.bl true):=f1
   have f2:=IP M F0 ht hg
   have f3:cP [.lst (E'.map pD)]=some (.int (E'.length:Int)):=by simp[cP]
   have f4:cP [.lst (E.map pD)]=some (.int (E'.length:Int)):=by simp[cP,lE]
   have f5:eY true (.int (E'.length:Int)) (.int (E'.length:Int))=some (.bl false):=by
    rw[dq]
    simp
   have f6:=cU (M:Int) hs
   have az:=ja (M:Int) hs
   have f7:dE [.lst (U.map λ i=>hD (G hs i))]=some (.tup ((al hs U).map hD)):=by
    show some (D.tup _)=some (D.tup _)
    unfold al
    rw[Q2]
    rfl
   have f8:cP [.tup (lD U)]=some (.int (U.length:Int)):=by simp[cP,lD]
   have f9:Kj (.int (U.length:Int)) (.int 1)=some (.bl (decide ((U.length:Int)>1))):=rfl
   rfl'
   refine gg ?_
   rfl'
   refine bx U (λ(i:Nat)=> .int (i:Int)) (λ i=>some (hD (G hs i))) rfl (by rfl') (by omega) (λ i C=>?_) ?_
   .have fi:=HI (hs:=hs) (j1 i C)
    rfl'
   rw[Z5]
   by_cases q:(U.length:Int)>1
   .rw[QN q]at f9
    have H':=zZ (I:=U) H j1
    have ak:(al hs U).length=U.length:=uL _
    have ag:∀h∈al hs U,h.length<=7:= λ h J=>by
     obtain⟨i,C,rfl⟩:=fN.mp J
     exact h7 _ (d4 (j1 i C))
    have aa:=vK (m:=M) (hs:=al hs U) (by omega) (by omega) ag H' ⟨by omega,by rw[QJ];omega,λ i C=>wL.mp C,λ h J=>Q3 (ag h J) (by omega),Q7,by rw[QJ];omega⟩
    rw[F5 K H j2 j1 g2 (by rw[<- ak];exact jO (nonneg H') _ _ (by rw[QJ];exact wN _)),c1]at aa
    have aa:bL sv vo [.tup [.int M,.tup ((al hs U).map hD)]]=some (kH (bj hs I)):=aa
    have aA:km true (kH (bj hs I)) (kH (bj hs I))=some (.bl false):=by
     rw[k9]
     simp
    rfl'
    exact⟨_,_,_,_,_,_,_,rfl⟩
   .rw[QR q]at f9
    rfl'
    exact⟨_,_,_,_,_,_,_,rfl⟩
  .rintro _ ⟨a,b,c,d,e,f,g,rfl⟩
   have kl:(bj hs I).length<=6:=Q3 zM (by omega)
   have k7:∀x∈bj hs I,x.length<=7:= λ x hx=>by
    obtain⟨i,C,rfl⟩:=vm hx
    exact Q3 (XA _ _) (h7 _ (d4 (i1 i C)))
   have kn:=yF gn.end i2
   have q1:=jX (lay:=bB M hs) kl k7 kn (t7 gn.end i2) F6
   have q2:=PV (M:=M) h1 h6 h7 (by omega)
   have q3:km false (kH (bj hs I)) (.tup [])=some (.bl (decide (bj hs I=[]))):=by
    have:=k9 false (bj hs I) []
    rwa [gL (by simp)]at this
   have rd:Mw hs []=o8 hs M↔bj hs I=[]:=by
    rw[qX h1 h6 H,Dt ip]
    constructor
    .intro R
     obtain⟨x,hx⟩:=gr R
     simp[hx]
    .intro h
     obtain⟨x,hx⟩:=List.length_eq_one_iff.mp h
     exact JI gn ⟨x,hx⟩
   obtain⟨tr,q2,q4⟩:∃tr,bL JM Gp [bB M hs]=some tr/\vk true tr .non=some (.bl (decide (bj hs I=[]))):= by
    refine ⟨_,q2,?_⟩
    by_cases z:bj hs I=[]
    .rw [gA (rd.mpr z),QN z];rfl
    .rw [gL λ y=>z (rd.mp y),QR z];rfl
   have q5:km true (.bl (decide (bj hs I=[]))) (.bl (decide (bj hs I=[])))=some (.bl false):= by
    cases decide (bj hs I=[]) <;> rfl
   have sE:df (.lst (E.map pD))=some (bp (E.map pD)):=rfl
   obtain ⟨ps,aB,ao⟩:∃ps,gh ((E.map jd).map pD)=some ps /\ (bj hs I=[]->bL D8 LH [bB M hs,.tup ps]=some (.bl true)):= by
    by_cases z:bj hs I=[]
    .obtain ⟨x,hx⟩:=gr ((qX h1 h6 H).mp (rd.mpr z))
     obtain ⟨X,x1,x2,x3,x4,x5,x6⟩:=tt x hx
     exact ⟨_,x1,λ _=>Pf h1 h6 (by omega) x2 (NU M h1 h6 x2 x3 x4 x5) x6⟩
    .have e:(E.map jd).map pD=((E.map jd).map kp).map hD:=by rw [Q2 (g:=hD)];rfl
     rw [e]
     exact ⟨_,kb (by rw [uL,uL];omega) (λ k hk=>by
      obtain ⟨p,_,rfl⟩:=fN.mp hk
      simp [kp]),λ y=>absurd y z⟩
   have q6:dE [.lst ps]=some (.tup ps):=rfl
   obtain ⟨_,_,q7,⟨os,rfl,go⟩,n4,rfl⟩:=sY n3 (Z:=M) (by omega)
   have q8:=ja (M:Int) hs
   have q9:df (kH (bj hs I))=some (bp ((bj hs I).map hD)):=rfl
   rfl'
   refine gg ?_
   rfl'
   refine bx E pD (λ e=>some (pD (jd e))) rfl (by rfl') (by omega) (λ e he=>?_) ?_
   .have r1:w6 [pD e]=some (.int ((min e.1 e.2:Nat):Int)):= by
     refine ZO (λ i:Int=>some (D.int i)) (?_:jz [(e.1:Int),(e.2:Int)]=_)
     show (if (e.1:Int) <= (e.2:Int) then (e.1:Int) else (e.2:Int))=_
     split <;> omega
    have r2:xp [pD e]=some (.int ((max e.1 e.2:Nat):Int)):= by
     refine ZO (λ i:Int=>some (D.int i)) (?_:jV [(e.1:Int),(e.2:Int)]=_)
     show (if (e.2:Int) <= (e.1:Int) then (e.1:Int) else (e.2:Int))=_
     split <;> omega
    rfl'
   rw [Z5]
   have em:(E.map λ e=>pD (jd e))=(E.map jd).map pD:=by rw [Q2];rfl
   rw [em]
   rfl'
   refine gg ?_
   refine PJ ?_ ?_
   .by_cases z:bj hs I=[]
    .have r1:=ao z
     rw [QN z] at q3
     rfl'
    .rw [QR z] at q3
     rfl'
   rfl'
   refine B4 ((bj hs I).map hD) (λ t Y=>∃h,Y=[.pu (.lst (ns.map .int)),.pu (.int (k:Int)),.ow false [.int n4],.pu (bB M hs),.pu (.lst (E.map pD)),.pu (kH (bj hs I)),a,b,c,.pu (.tup ps),.pu (.tup (lD os)),.ow false ((((bj hs I).take t).map λ h=>bP (h.map (pl os))).map hD),h]) (by rfl') ⟨_,rfl⟩ ?_ ?_
   .rintro t ht _ ⟨g',rfl⟩
    have ah:t < (bj hs I).length:=by simpa using ht
    have hx:((bj hs I).map hD)[t]=hD ((bj hs I)[t]):=by simp
    have hk:=QT ah
    rw [hx,ZD ah,ZP,ZP]
    have aC:((bj hs I).take t).length <= 6:=by rw [VB];omega
    generalize (bj hs I).take t=acc at *
    generalize (bj hs I)[t]=kk at *
    have u1:=mj (kk.map (pl os)) (by rw [uL];have:=k7 _ hk;omega)
    have u2:dE [.lst ((bP (kk.map (pl os))).map .int)]=some (hD (bP (kk.map (pl os)))):=rfl
    rfl'
    refine bx kk .int (λ c=>some (.int (pl os c))) rfl (by rfl') (by have:=k7 _ hk;omega) (λ c hc=>?_) ?_
    .obtain ⟨i,C,aq⟩:=vm hk
     rw [aq] at hc
     have hb:=(H _ (d4 (i1 i C))).2.2 c (cV.mp hc).1
     have u3:mJ (.tup (lD os)) [.int c]=some (.int (pl os c)):= by
      obtain ⟨x,rfl⟩:∃x:Nat,c=(x:Int):=⟨c.toNat,by omega⟩
      exact BF (lA go (by omega))
     rfl'
     refine Pw ?_
     rfl'
    rw [Z5]
    have em:(kk.map λ c=>D.int (pl os c))=(kk.map (pl os)).map .int:=by rw [Q2];rfl
    rw [em]
    rfl'
    exact ⟨_,rfl⟩
   .rintro _ ⟨g',rfl⟩
    rw [uL,List.take_length]
    have v1:=Mm go (by omega) h6 H h7
    have Hn:=pb go H
    have ln:(nm os hs).length=hs.length:=uF
    have ai:∀h ∈ nm os hs,h.length <= 7:=λ h J=>(Hn h J).len (by omega) (by omega)
    have v2:=vK (m:=M) (hs:=nm os hs) (by omega) (by omega) ai Hn ⟨by omega,by rw [QJ];omega,λ i C=>wL.mp C,λ h J=>Q3 (ai h J) (by omega),Q7,by rw [QJ];omega⟩
    rw [Fv go H gn (jO (nonneg Hn) _ _ (by rw [QJ];exact wN _))] at v2
    have v3:=kb (ks:=(bj hs I).map λ h=>bP (h.map (pl os))) (by rw [uL];omega) λ k hk=>by
     obtain ⟨h,J,rfl⟩:=fN.mp hk
     intro z
     have:=ZO List.length z
     rw [jG,uL,VO] at this
     exact kn h J (V3.mp this)
    have v4:dE [.lst ((so ((bj hs I).map λ h=>bP (h.map (pl os)))).map hD)]=some (kH (so ((bj hs I).map λ h=>bP (h.map (pl os))))):=rfl
    have v5:km true (kH (so ((bj hs I).map λ h=>bP (h.map (pl os))))) (kH (so ((bj hs I).map λ h=>bP (h.map (pl os)))))=some (.bl false):= by
     rw [k9]
     simp
    have v6:=cU (M:Int) hs
    have v7:=iK hs
    have v8:y9 (.int (M:Int)) (.int 7)=some (.bl (decide ((M:Int) < 7))):=rfl
    have v9:y9 (.int (hs.length:Int)) (.int 6)=some (.bl (decide ((hs.length:Int) < 6))):=rfl
    generalize so ((bj hs I).map λ h=>bP (h.map (pl os)))=aD at *
    refine gg ?_
    by_cases y1:(M:Int) < 7
    .rw [QN y1] at v8
     by_cases y2:(hs.length:Int) < 6
     .rw [QN y2] at v9
      have v10:=M5 H (by omega) (by omega)
      have Hb:∀h ∈ hs ++ [[(M:Int)]],cT ((M + 1:Nat):Int) h:=λ h J=>by
       rcases fD.mp J with q | q
       .obtain ⟨x,y,z⟩:=H h q
        exact ⟨x,y,λ c hc=>by have:=z c hc;omega⟩
       .rw [jP.mp q]
        exact ⟨by simp,by simp,λ c hc=>by rw [jP.mp hc];omega⟩
      have lb:(hs ++ [[(M:Int)]]).length=hs.length + 1:=by simp
      have aj:∀h ∈ hs ++ [[(M:Int)]],h.length <= 7:=λ h J=>(Hb h J).len (by omega) (by omega)
      have v11:=vK (m:=((M + 1:Nat):Int)) (M:=M + 1) (hs:=hs ++ [[(M:Int)]]) (by omega) (by omega) aj Hb ⟨by omega,by rw [QJ];omega,λ i C=>wL.mp C,λ h J=>Q3 (aj h J) (by omega),Q7,by rw [QJ];omega⟩
      have gb:=jO (nonneg Hb) (hs ++ [[(M:Int)]]).length (List.range (hs ++ [[(M:Int)]]).length) (by rw [QJ];exact wN _)
      rw [yp H h1 gn (by rw [<- lb];exact gb)] at v11
      have v11:bL sv vo [bB ((M + 1:Nat):Int) (hs ++ [[(M:Int)]])]=some (kH (bj hs I)):=v11
      have aE:km true (kH (bj hs I)) (kH (bj hs I))=some (.bl false):= by
       rw [k9]
       simp
      rfl'
      exact .mk ..
     .rw [QR y2] at v9
      rfl'
      exact .mk ..
    .rw [QR y1] at v8
     rfl'
     exact .mk ..
 .rintro _ ⟨a1,a2,a3,a4,a5,a6,a7,a8⟩
  rfl'
end
end K16
namespace K16
open PySem L2 Jt
theorem all_mk {l:PySem.W.OpenLaw} {w:World} {K:PySem.W.Frag} {h:Heap} {mg:Str->Option Value} {fa:Addr} (X:K.In h) (G:h.Ns mainGlobals mg) (hfa:mg "law" = some (.ref fa))
  {f_l c_l b_l:Addr} {oc_l:Value} {od_l ob_l:Option Addr} {fd_l:FuncData} {sl_l sm_l sn_l:Array (Option Value)} {vs_l:Array Value} (la:PySem.W.nsIn K mainGlobals dv=some (some (.ref f_l))) (ll:K.lookup f_l=some ⟨oc_l,od_l,.func fd_l,sl_l⟩) (lh:fd_l.code=.ref c_l) (lc:K.lookup c_l=some ⟨.type "code",ob_l,.fields vs_l,sm_l⟩) (lb:PySem.W.nsIn K mainGlobals "__builtins__" = some (some (.ref b_l))) (lm:K.lookup b_l=some ⟨.type "module",some builtinsNs,.plain,sn_l⟩) (lv:codeOk vs_l c_l b_l=true)
  (i11:Fh K "_law_cell" (top 50))
  (i1u:Fh K "_law_box" (top 51))
  (i13:Fh K "_law_take" (top 52))
  (i0p:Fh K "_law_layout" (top 53))
  (i0q:Fh K "all_numbers" (top 18))
  (i14:Fh K "shared_by" (top 19))
  (i1y:Fh K "has_all" (top 14))
  (i0v:Fh K "holders_of" (top 20))
  (i0w:Fh K "ears_among" (top 21))
  (i20:Fh K "all_but" (top 23))
  (i15:Fh K "steps_for" (top 28))
  (i1v:Fh K "is_whole" (top 8))
  (i1w:Fh K "is_below" (top 9))
  (i16:Fh K "are_below" (top 10))
  (i0k:Fh K "is_two_below" (top 11))
  (i21:Fh K "is_step" (top 24))
  (i0l:Fh K "left_or_none" (top 25))
  (i22:Fh K "left_by" (top 27))
  (i17:Fh K "bare_core" (top 29))
  (i0x:Fh K "_law_order" (top 54))
  (i2a:Fh K "ears" (top 22))
  (i18:Fh K "_law_gone" (top 55))
  (i0g:Fh K "_law_core_right" (top 56))
  (i25:Fh K "linked" (top 16))
  (i0r:Fh K "has_no_ring" (top 41))
  (i19:Fh K "is_rising" (top 15))
  (i23:Fh K "is_pair" (top 40))
  (i24:Fh K "is_tree" (top 42))
  (i0i:Fh K "hang_together" (top 43))
  (i1x:Fh K "heads_of" (top 34))
  (i0m:Fh K "is_join_tree" (top 44))
  (i0y:Fh K "are_unlike" (top 12))
  (i0j:Fh K "are_all_below" (top 13))
  (i28:Fh K "moved" (top 36))
  (i29:Fh K "named" (top 37))
  (i1a:Fh K "are_steps" (top 26))
  (i1b:Fh K "need_head" (top 33))
  (i26:Fh K "common" (top 35))
  (i0n:Fh K "pair_weights" (top 45))
  (i0z:Fh K "due_weight" (top 48))
  (i1c:Fh K "most_more" BO)
  (i0h:Fh K "first_join_tree" (top 47))
  (i27:Fh K "beside" (top 38))
  (i2b:Fh K "law" (top 57))
  (z:PySem.W.nsIn K mainGlobals "all" = some none/\PySem.W.nsIn K mainGlobals "any" = some none/\PySem.W.nsIn K mainGlobals "bool" = some none/\PySem.W.nsIn K mainGlobals "enumerate" = some none/\PySem.W.nsIn K mainGlobals "int" = some none/\PySem.W.nsIn K mainGlobals "isinstance" = some none/\PySem.W.nsIn K mainGlobals "len" = some none/\PySem.W.nsIn K mainGlobals "list" = some none/\PySem.W.nsIn K mainGlobals "max" = some none/\PySem.W.nsIn K mainGlobals "min" = some none/\PySem.W.nsIn K mainGlobals "range" = some none/\PySem.W.nsIn K mainGlobals "set" = some none/\PySem.W.nsIn K mainGlobals "sorted" = some none/\PySem.W.nsIn K mainGlobals "sum" = some none/\PySem.W.nsIn K mainGlobals "tuple" = some none/\PySem.W.nsIn K mainGlobals "zip" = some none)
  {i0o:Tok} (i04:PySem.W.nsIn K mainGlobals "MOST_COLUMNS" = some (some (.int 7 i0o)))
  {i10:Tok} (i06:PySem.W.nsIn K mainGlobals "MOST_HEADS" = some (some (.int 6 i10)))
 :(∃c PT,PySem.W.tabIn K dv=some (c,PT))/\∃fd:FuncData,(∀(s:Shared) (v:Value),BindsTo s fd ⟨[v],[]⟩ [("_law_script",v)])/\∀base:Heap,K.In base->base.Ns mainGlobals mg->dX l.prog w K mg base eZ 9 fa fd ["_law_script"] uO:= by
 have m:Bi mg:=⟨QY X G z.1,QY X G z.2.1,QY X G z.2.2.1,QY X G z.2.2.2.1,QY X G z.2.2.2.2.1,QY X G z.2.2.2.2.2.1,QY X G z.2.2.2.2.2.2.1,QY X G z.2.2.2.2.2.2.2.1,QY X G z.2.2.2.2.2.2.2.2.1,QY X G z.2.2.2.2.2.2.2.2.2.1,QY X G z.2.2.2.2.2.2.2.2.2.2.1,QY X G z.2.2.2.2.2.2.2.2.2.2.2.1,QY X G z.2.2.2.2.2.2.2.2.2.2.2.2.1,QY X G z.2.2.2.2.2.2.2.2.2.2.2.2.2.1,QY X G z.2.2.2.2.2.2.2.2.2.2.2.2.2.2.1,QY X G z.2.2.2.2.2.2.2.2.2.2.2.2.2.2.2,⟨_,WK X G i04⟩,⟨_,WK X G i06⟩⟩
 have LK:=GZ X G la ll lh lc lb lm lv
 exact ⟨⟨_,_,LK.tab⟩,Pg X G hfa i2b (fun _ _ _ _ _ _ s v=>.of_eq rfl) dJ (fun base=>by
  let C:Cw:=⟨l.prog,w,K,mg,base⟩
  have i1d:qH.H C 1:=qH.h (cx X G i11) m
  have i1o:td.H C 2:=td.h (cx X G i1u) m i1d.u
  have i00:lG.H C 1:=lG.h (cx X G i13)
  have G_q8:z9.H C 2:=z9.h (cx X G i0p) m i00.u
  have i01:mz.H C 1:=mz.h (cx X G i0q) m
  have i07:nC.H C 1:=nC.h (cx X G i14) m
  have i1e:sX.H C 1:=sX.h (cx X G i1y) m
  have i08:oA.H C 2:=oA.h (cx X G i0v) i1e.u i07.u
  have i05:oE.H C 3:=oE.h (cx X G i0w) i08.u
  have i09:oI.H C 1:=oI.h (cx X G i20) m
  have i0c:n_.H C 4:=n_.h (cx X G i15) i09.u i01.u i05.u
  have i1f:qR.H C 1:=qR.h (cx X G i1v) m
  have i02:l_.H C 2:=l_.h (cx X G i1w) i1f.u
  have i0a:oM.H C 3:=oM.h (cx X G i16) m i02.u
  have G_q6:yc.H C 4:=yc.h (cx X G i0k) m i0a.u
  have i1g:vG.H C 5:=vG.h (cx X G i21) m i08.u G_q6.u
  have G_q5:xR.H C 6:=xR.h (cx X G i0l) m i09.u i01.u i1g.u
  have i0b:og.H C 7:=og.h (cx X G i22) G_q5.u
  have i0f:rB.H C 8:=rB.h (cx X G i17) m i0b.u i07.u i0c.u
  have i1p:rK.H C 2:=rK.h (cx X G i0x) m i00.u
  have i1h:qP.H C 4:=qP.h (cx X G i2a) i01.u i05.u
  have i0u:qA.H C 5:=qA.h (cx X G i18) m i00.u i1h.u
  have G_q1:A9.H C 1:=A9.h (cx X G i0g) m
  have i03:nZ.H C 1:=nZ.h (cx X G i25) m
  have G_q9:zy.H C 2:=zy.h (cx X G i0r) m i03.u
  have i1j:rX.H C 1:=rX.h (cx X G i19) m
  have i1i:qZ.H C 5:=qZ.h (cx X G i23) m G_q6.u
  have i1k:ra.H C 6:=ra.h (cx X G i24) m G_q9.u i1i.u i1j.u
  have G_q2:Dd.H C 1:=Dd.h (cx X G i0i) m
  have i0d:qU.H C 3:=qU.h (cx X G i1x) m i02.u
  have G_q4:D3.H C 7:=D3.h (cx X G i0m) m G_q2.u i0d.u i1k.u
  have i1l:sD.H C 1:=sD.h (cx X G i0y) m
  have G_q3:uA.H C 4:=uA.h (cx X G i0j) m i0a.u i1l.u
  have i0e:ny.H C 1:=ny.h (cx X G i28) m
  have i1t:wZ.H C 5:=wZ.h (cx X G i29) m G_q3.u i0e.u
  have i1q:qF.H C 7:=qF.h (cx X G i1a) G_q5.u
  have i0s:wD.H C 3:=wD.h (cx X G i1b) m i02.u
  have i1m:vw.H C 4:=vw.h (cx X G i26) m i0s.u
  have G_q7:AJ.H C 5:=AJ.h (cx X G i0n) m i1m.u
  have i1n:qV.H C 4:=qV.h (cx X G i0z) m i0d.u
  have i0t:gN l.prog w K mg base 2:=Jk LK (cx X G i1c) m i03.u
  have G_q0:C9.H C 6:=C9.h (cx X G i0h) m i1n.u i03.u i0t.u G_q7.u
  have i1r:sJ.H C 2:=sJ.h (cx X G i27) m i0e.u
  exact fun _ _ _ _ _ _ _ hr=>Qk.h (c:=C) (AG ) hr m i1o.u G_q1.u i0u.u G_q8.u i1p.u i1q.u i0f.u i1r.u G_q0.u G_q4.u i0b.u i1t.u i0c.u) fun _ _ _ F=>EG F B3⟩
end K16
open PySem PySem.W PyProof.Rows
set_option maxRecDepth 100000
set_option maxHeartbeats 0
namespace Hd
open PySem PySem.W PySem.Calls PyProof.Rows
def run (st:SharedT->Thread->Option (SharedT×Thread)) (ok:Thread->Bool):Nat->SharedT->Thread->Option SharedT
 |0,_,_=>none
 |n+1,s,t=>match through t with
  |true=>some s
  |false=>match ok t with
   |false=>none
   |true=>match st s t with
    |some (s',t')=>run st ok n s' t'
    |none=>none
theorem spec {p:Program} {w:World} {m:Nat} {a:Option Value}:∀ {n:Nat} {s s':SharedT} {t:Thread},run (stepT (denote treeTable) p w) (stepOk m a) n s t=some s'->topRun treeTable p w m a n s.abs t=some s'.abs
 |0,_,_,_,h=>by cases h
 |n+1,s,s',t,h=>by
  unfold run at h
  unfold topRun
  cases ht:through t with
  |true=>rw[ht] at h;cases h;rfl
  |false=>
   rw[ht] at h
   cases hk:stepOk m a t with
   |false=>rw[hk] at h;cases h
   |true=>
    rw[hk] at h
    cases hs:stepT (denote treeTable) p w s t with
    |none=>rw[hs] at h;cases h
    |some r=>obtain ⟨s2,t2⟩:=r;rw[hs] at h;rw[stepT_spec hs];exact spec h
noncomputable def S0 (w:World) (os:OsState):SharedT:=⟨(boot_heap w.params).objs.toList.zipIdx.foldl (fun t x=>t.ins x.2 x.1) BT.nil,11,(boot_heap w.params).life,Array.mk [],boot_drawn,boot_toks,os⟩
theorem S0_abs (w:World) (os:OsState):(S0 w os).abs=⟨boot_heap w.params,Array.mk [],boot_drawn,boot_toks,os⟩:=by kernel_rfl
theorem size (w:World):((boot_heap w.params).isNs mainGlobals && (Array.mk []:Array GenState).size==0,(boot_heap w.params).objs.size,(boot_heap w.params).nsMap mainGlobals "__annotations__")=(true,11,some (.ref 6)):=by kernel_rfl
noncomputable abbrev go (p:Program) (w:World) (os:OsState):Option SharedT:=run (Fast.tw10156331382660048174 (Fast.tw11892475500146522536 Fast.tw14364793385576792824) p w) (Fast.tw6613529449190102663 11 (some (.ref 6))) 8000 (S0 w os) (topStub p)
abbrev Xt (q:Program) (s:Shared):Bool:=xlAt q [] s && recOk [] s
noncomputable abbrev sn (p q:Program) (S:SharedT):=Fast.tw4187177175401517315 q [] (Fast.tw5923862056798008813 p.main.body) (Xt q) true S.abs
noncomputable abbrev ok (p:Program) (w:World) (S:SharedT):Bool:=staticsOk (importedModules p.main.body) (boot_heap w.params) S.abs.heap && namesBound p S.abs.heap && gensDone S.abs && laidKept (boot_heap w.params) S.abs.heap
theorem left {p q:Program} {B:Type} {Yf:Shared->B} {Ya:World->B} (e:opening p=plainProg p.main.scope.names) (f:∀ s,fenceModules? p s=some s)
  (u1:∀ w:World,(fun os=>(go p w os).map fun S=>(ok p w S,(sn p q S).1))=fun _=>some (true,(openGood q []).1))
  (u2:∀ w:World,(fun os=>(go p w os).map fun S=>(sn p q S).2)=fun _=>some (openGood q []).2)
  (u3:∀ w:World,(fun os=>(go p w os).map fun S=>Yf S.abs)=fun _=>some (Ya w)):LeftO p q [] (Xt q) Yf Ya 8000 true:=fun w=>by
 obtain ⟨⟨h,gs,d,k,os⟩,e1,e'⟩:=Option.map_eq_some_iff.mp (boot_open (N:=8000) e (by decide) f w)
 obtain ⟨rfl,rfl,rfl,rfl⟩:h=boot_heap w.params/\gs=Array.mk []/\d=boot_drawn/\k=boot_toks:=by simpa using e'
 obtain ⟨z1,z2,z3⟩:_/\_/\_:=by simpa only [Prod.mk.injEq] using size w
 obtain ⟨S,r,l1⟩:=Option.map_eq_some_iff.mp (congrFun (u1 w) os)
 have l2:=congrFun (u2 w) os
 have l3:=congrFun (u3 w) os
 simp only [r,Option.map_some,Option.some.injEq] at l2 l3
 obtain ⟨l1,l4⟩:=Prod.mk.inj l1
 unfold sn at l2 l4
 rw[←Fast.te4187177175401517315,←Fast.te5923862056798008813] at l2 l4
 unfold go at r
 rw[←Fast.te10156331382660048174,←Fast.te11892475500146522536,←Fast.te14364793385576792824,←Fast.te6613529449190102663] at r
 have r:=spec r
 rw[S0_abs] at r
 have t:topFrom treeTable p w 8000 ⟨boot_heap w.params,Array.mk [],boot_drawn,boot_toks,os⟩=some S.abs:=by
  unfold topFrom
  dsimp only
  rw[z1,z2,z3,r]
  show (match ok p w S with |true=>_|false=>_)=_
  rw[l1]
 unfold openEnds
 rw[e1]
 show (topFrom treeTable p w 8000 _).map _=_
 rw[t]
 exact congrArg some (Prod.ext (Prod.ext l4 l2) l3)
abbrev p:=PySem.Challenge.rw_jointrees_k16_whole_any_ear_first.row.prog
abbrev q:Program:=view p [1,2,3,4,5,6,8,9,10,11,12,13,14,15,16,18,19,20,21,22,23,24,25,26,27,28,29,31,32,33,34,35,36,37,38,40,41,42,43,44,45,46,47,48,50,51,52,53,54,55,56,57]
theorem law:PySem.Challenge.rw_jointrees_k16_whole_any_ear_first.wellSaid=true:=by
 rw[Fast.te9446332074065402090]
 kernel_rfl
theorem u1 (w:World):(fun os=>(go p w os).map fun S=>(ok p w S,(sn p q S).1))=fun _=>some (true,(openGood q []).1):=by kernel_rfl
theorem u2 (w:World):(fun os=>(go p w os).map fun S=>(sn p q S).2)=fun _=>some (openGood q []).2:=by kernel_rfl
end Hd
open PySem PySem.W PyProof.Rows
set_option hygiene false in
local macro_rules |`(tactic|o_head $H)=>`(tactic|(refine holds_open (r:=PySem.Challenge.rw_jointrees_k16_whole_any_ear_first.row) (q:=Hd.q) (loose:=[]) (Xt:=Hd.Xt Hd.q) (XP:=XL Hd.q []) (Yf:=Hook.obs $H) (Ya:=Hook.val $H) (YP:=Hook.says $H) (N:=8000) ?hl (Hook.of $H) (Hook.keeps $H) (fun s e=>xl_of s (Bool.and_eq_true_iff.mp e).1) XL.keeps (by rfl) (by rfl) (by rfl) (fun s e=>recFacts_of (Bool.and_eq_true_iff.mp e).2) (by rfl) (by assumption) (by decide +kernel) ⟨rfl,rfl,rfl,rfl,rfl,by decide +kernel⟩ ?hw ?hc;(case hl=>exact Hd.left (by kernel_rfl) (fun s=>by kernel_rfl) Hd.u1 Hd.u2 (fun w=>by kernel_rfl))))
set_option maxRecDepth 100000 in
set_option maxHeartbeats 0 in
theorem PySem.Challenge.cw_jointrees_k16_whole_any_ear_first_holds : PySem.Challenge.rw_jointrees_k16_whole_any_ear_first.Holds := by
 w_on;refine holds_law Hd.law fun said=>?_;k_head;(case hw=>w_witness2)
 k_fill
 refine Jt.walkM (l:=PySem.Challenge.rw_jointrees_k16_whole_any_ear_first) (k:=9) rfl rfl ⟨rfl,by decide,by decide,rfl⟩ (fun w h Y=>PySem.W.km_in_of Y) ?L ?NT ?RT ?F
 case L=>intro w;kernel_rfl
 case NT=>intro w;kernel_rfl
 case RT=>kernel_rfl
 case F=>
  intro w mg fa h K' bm sl U KX G hmg hbm hlk
  refine' K16.all_mk KX G hmg (U.ns ?la) (U.lk ?ll) ?lh (U.lk ?lc) (U.ns ?lb) (Jt.bm_eq KX G hbm hlk (U.ns ?lb)) ?lv (U.fh ?_) (U.fh ?_) (U.fh ?_) (U.fh ?_) (U.fh ?_) (U.fh ?_) (U.fh ?_) (U.fh ?_) (U.fh ?_) (U.fh ?_) (U.fh ?_) (U.fh ?_) (U.fh ?_) (U.fh ?_) (U.fh ?_) (U.fh ?_) (U.fh ?_) (U.fh ?_) (U.fh ?_) (U.fh ?_) (U.fh ?_) (U.fh ?_) (U.fh ?_) (U.fh ?_) (U.fh ?_) (U.fh ?_) (U.fh ?_) (U.fh ?_) (U.fh ?_) (U.fh ?_) (U.fh ?_) (U.fh ?_) (U.fh ?_) (U.fh ?_) (U.fh ?_) (U.fh ?_) (U.fh ?_) (U.fh ?_) (U.fh ?_) (U.fh ?_) (U.fh ?_) (U.fh ?_) (U.fh ?_) (U.fh ?_) ?z (U.ns ?i04) (U.ns ?i06)
  (case la=>k_is);(case ll=>k_is);(case lh=>exact rfl);(case lc=>k_is);(case lb=>k_is);(case lv=>kernel_rfl)
  (case i04=>k_is)
  (case i06=>k_is)
  case z=>refine ⟨U.ns ?_,U.ns ?_,U.ns ?_,U.ns ?_,U.ns ?_,U.ns ?_,U.ns ?_,U.ns ?_,U.ns ?_,U.ns ?_,U.ns ?_,U.ns ?_,U.ns ?_,U.ns ?_,U.ns ?_,U.ns ?_⟩ <;> k_is
  all_goals (refine' Jt.fh_mk ?a ?l ?c ?k;(case a=>k_is);(case l=>k_is);(case c=>k_is);(case k=>k_is))
