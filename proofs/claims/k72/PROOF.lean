import PyProof.Rows.All
import Wide.All
import OpenK.AllK
import Wide.FinOn
import Lean
import PyProof.Rows.SetFrom
import PyProof.WalksMore
import PyProof.SetRoads
import PyProof.ListRange
import PyProof.Rows.SortWalk
import PyProof.CollectWalk
import PyProof.ZipIter
import PyProof.EnumStmt
import PyProof.EqAt
import PyProof.EqKinds
import PyProof.TupleCall
import PyProof.CompFree
import PyProof.Cells
import PyProof.ConsumeWalk
import PyProof.TupleOfSeq
import PyProof.NeKinds
import PyProof.IsiPairs
import PyProof.IsiHeapPairs
import PyProof.IsInstanceT
import PyProof.IsiTupleOf
import KE.KSortTup
import KE.KTryMore
import PyProof.ExcBaseAll.ValueError
import KE.RegMulBits
import Wide.ObjOpen
import Wide.RegSB
import PyProof.ExcAttrAll.ValueError
import PyProof.ExcArgsOwn
import PyProof.SumWalk
import KE.KRevIter
import PySem.Challenge.RW_jointrees_k72_deeds_up_and_down
set_option Elab.async false
set_option linter.all false
set_option maxRecDepth 100000
set_option maxHeartbeats 4000000
namespace Jt
open PySem
noncomputable def Up (xs:Array Nat):Prop := xs.toList.Pairwise (· < ·)
theorem Up.lt {xs:Array Nat} (u:Up xs) {i k a b:Nat} (h:i < k) (ha:xs[i]? = some a) (hb:xs[k]? = some b):a < b:= by
 rw [<- Array.getElem?_toList] at ha hb
 obtain ⟨hi,e1⟩ := List.getElem?_eq_some_iff.mp ha
 obtain ⟨hk,e2⟩ := List.getElem?_eq_some_iff.mp hb
 rw [<- e1,<- e2]
 exact List.pairwise_iff_getElem.mp u i k hi hk h
theorem below_go {xs:Array Nat} {j:Nat} (u:Up xs):∀ (fuel lo hi:Nat),hi ≤ xs.size -> lo ≤ hi -> hi - lo ≤ fuel ->
  (∀ i v,i < lo -> xs[i]? = some v -> v < j) -> (∀ i v,hi ≤ i -> xs[i]? = some v -> j ≤ v) ->
  SetTable.below.go xs j fuel lo hi ≤ xs.size ∧ (∀ i v,i < SetTable.below.go xs j fuel lo hi -> xs[i]? = some v -> v < j) ∧ ∀ i v,SetTable.below.go xs j fuel lo hi ≤ i -> xs[i]? = some v -> j ≤ v:= by
 intro fuel
 induction fuel with
 | zero =>
  intro lo hi h1 h2 h3 h4 h5
  unfold SetTable.below.go
  have:lo = hi := by omega
  subst this
  exact ⟨h1,h4,h5⟩
 | succ fuel ih =>
  intro lo hi h1 h2 h3 h4 h5
  unfold SetTable.below.go
  by_cases hl:lo < hi
  ·rw [if_pos hl]
   have hm:(lo + hi) / 2 < xs.size := by omega
   have eg:xs.getD ((lo + hi) / 2) j = xs[(lo + hi) / 2] := by simp [Array.getD,hm]
   have em:xs[(lo + hi) / 2]? = some xs[(lo + hi) / 2] := by simp [hm]
   dsimp only
   by_cases hc:xs.getD ((lo + hi) / 2) j < j
   ·rw [if_pos hc]
    refine ih _ _ h1 (by omega) (by omega) (fun i v hi' e => ?_) h5
    rcases Nat.lt_or_eq_of_le (Nat.le_of_lt_succ hi') with q | q
    ·have := u.lt q e em
     omega
    ·subst q; rw [em] at e; cases e; omega
   ·rw [if_neg hc]
    refine ih _ _ (by omega) (by omega) (by omega) h4 fun i v hi' e => ?_
    rcases Nat.lt_or_eq_of_le hi' with q | q
    ·have := u.lt q em e
     omega
    ·subst q; rw [em] at e; cases e; omega
  ·rw [if_neg hl]
   have:lo = hi := by omega
   subst this
   exact ⟨h1,h4,h5⟩
theorem below_ok {xs:Array Nat} (u:Up xs) (j:Nat):SetTable.below xs j ≤ xs.size ∧ (∀ i v,i < SetTable.below xs j -> xs[i]? = some v -> v < j) ∧ ∀ i v,SetTable.below xs j ≤ i -> xs[i]? = some v -> j ≤ v:= by
 unfold SetTable.below
 refine below_go u _ _ _ (Nat.le_refl _) (Nat.zero_le _) (by omega) (fun i v h => absurd h (Nat.not_lt_zero _)) fun i v h e => ?_
 rw [Array.getElem?_eq_none h] at e
 cases e
theorem below_not {xs:Array Nat} (u:Up xs) {j:Nat} (h:xs[SetTable.below xs j]? ≠ some j):j ∉ xs.toList := fun hm => by
 obtain ⟨i,hi,e⟩ := List.getElem_of_mem hm
 have ei:xs[i]? = some j := by rw [<- Array.getElem?_toList,List.getElem?_eq_getElem hi,e]
 obtain ⟨_,b1,b2⟩ := below_ok u j
 rcases Nat.lt_trichotomy i (SetTable.below xs j) with q | q | q
 ·exact absurd (b1 i j q ei) (Nat.lt_irrefl _)
 ·rw [<- q] at h; exact h ei
 ·have hb:SetTable.below xs j < xs.size := Nat.lt_of_lt_of_le q (by simpa using Nat.le_of_lt hi)
  have e2:xs[SetTable.below xs j]? = some xs[SetTable.below xs j] := by simp [hb]
  have := u.lt q e2 ei
  have := b2 _ _ (Nat.le_refl _) e2
  omega
theorem up_insert {xs:Array Nat} (u:Up xs) {j:Nat} (h:j ∉ xs.toList):Up (SetTable.insertAt xs (SetTable.below xs j) j):= by
 unfold Up
 rw [SetTable.toList_insertAt]
 obtain ⟨b0,b1,b2⟩ := below_ok u j
 have u':xs.toList.Pairwise (· < ·) := u
 have hd:∀ y ∈ xs.toList.drop (SetTable.below xs j),j < y := fun y hy => by
  obtain ⟨i,hi,e⟩ := List.getElem_of_mem hy
  rw [List.getElem_drop] at e
  have hm:y ∈ xs.toList := List.mem_of_mem_drop hy
  have := b2 (SetTable.below xs j + i) y (by omega) (by rw [<- Array.getElem?_toList,List.getElem?_eq_some_iff]; exact ⟨by simp at hi; simp; omega,e⟩)
  rcases Nat.lt_or_eq_of_le this with q | q
  ·exact q
  ·subst q; exact absurd hm h
 have ht:∀ y ∈ xs.toList.take (SetTable.below xs j),y < j := fun y hy => by
  obtain ⟨i,hi,e⟩ := List.getElem_of_mem hy
  rw [List.getElem_take] at e
  have hi':i < SetTable.below xs j ∧ i < xs.toList.length := by rw [List.length_take] at hi; omega
  exact b1 i y hi'.1 (by rw [<- Array.getElem?_toList,List.getElem?_eq_some_iff]; exact ⟨hi'.2,e⟩)
 rw [List.pairwise_append]
 refine ⟨u'.sublist (List.take_sublist _ _),?_,fun a ha b hb => ?_⟩
 ·rw [List.pairwise_cons]
  exact ⟨hd,u'.sublist (List.drop_sublist _ _)⟩
 ·rcases List.mem_cons.mp hb with e | hb
  ·rw [e]; exact ht a ha
  ·exact Nat.lt_trans (ht a ha) (hd b hb)
noncomputable def Tb (t:SetTable):Prop := t.plain = true -> Up t.place
theorem slot_free {t:SetTable} {j:Nat} (u:Up t.place) (h:t.slot j = .empty ∨ t.slot j = .dummy):j ∉ t.place.toList:= by
 refine below_not u fun e => ?_
 unfold SetTable.slot at h
 dsimp only at h
 rw [if_pos (by rw [e]; simp)] at h
 rcases h with h | h <;> cases h
theorem advance_dummy (t:SetTable) (p:SetTable.Probe):(t.advance p).dummy = p.dummy:= by
 unfold SetTable.advance
 split <;> rfl
theorem probe_free {t:SetTable} {f:Nat -> Int} {h:Int}:∀ (fuel:Nat) (p:SetTable.Probe) (j:Nat) (d:Option Nat),(∀ x,p.dummy = some x -> t.slot x = .dummy) ->
  SetTable.probe.go t f h fuel p = some (.empty j d) -> t.slot (d.getD j) = .empty ∨ t.slot (d.getD j) = .dummy:= by
 intro fuel
 induction fuel with
 | zero => intro p j d _ e; unfold SetTable.probe.go at e; cases e
 | succ fuel ih =>
  intro p j d hp e
  unfold SetTable.probe.go at e
  cases q:t.slot p.j with
  | empty =>
   rw [q] at e
   injection e with e
   injection e with e1 e2
   subst e1
   cases d with
   | none => exact .inl q
   | some x => exact .inr (hp x e2)
  | dummy =>
   rw [q] at e
   dsimp only at e
   refine ih _ j d (fun x hx => ?_) e
   rw [advance_dummy] at hx
   cases hx
   exact q
  | live i =>
   rw [q] at e
   dsimp only at e
   split at e
   ·cases e
   ·exact ih _ j d (fun x hx => hp x (by rw [advance_dummy] at hx; exact hx)) e
theorem freeSlot_free {t:SetTable} {h:Int} {j:Nat} {b:Bool} (u:Up t.place) (e:t.freeSlot h = some (j,b)):j ∉ t.place.toList:= by
 unfold SetTable.freeSlot at e
 split at e
 ·rename_i j' d q
  cases e
  exact slot_free u (probe_free _ _ _ _ (fun x hx => by unfold SetTable.probeStart at hx; cases hx) q)
 ·cases e
theorem tb_layNew {t:SetTable} (h:Tb t) (es:Array (Int × Value)) (k:Int) (x:Value):Tb (layNew t es k x).2.1 ∧ (layNew t es k x).2.1.led = t.led:= by
 unfold layNew
 split
 ·rename_i j b e
  dsimp only
  unfold SetTable.orStandIn
  split
  ·exact ⟨fun hp => up_insert (h hp) (freeSlot_free (h hp) e),rfl⟩
  ·exact ⟨fun hp => absurd (show false = true from hp) Bool.false_ne_true,rfl⟩
 ·exact ⟨fun hp => absurd (show false = true from hp) Bool.false_ne_true,rfl⟩
theorem up_laid {mask finger moves:Nat} {led plain:Bool} {hs:Array Int} {t:SetTable} {o:Array Nat} (e:SetTable.laid mask finger moves led plain hs = some (t,o)):Up t.place ∧ t.led = led:= by
 unfold SetTable.laid at e
 cases q:SetTable.layClean mask hs with
 | none => rw [q] at e; cases e
 | some owner =>
  rw [q] at e
  injection e with e
  injection e with e1 e2
  subst e1
  refine ⟨?_,rfl⟩
  show (List.map _ _).Pairwise _
  rw [List.pairwise_map]
  rw [List.pairwise_filterMap]
  refine List.Pairwise.imp (fun {a b} hab x hx y hy => ?_) List.pairwise_lt_range
  cases q1:owner.getD a none with
  | none => rw [q1] at hx; cases hx
  | some _ =>
   cases q2:owner.getD b none with
   | none => rw [q2] at hy; cases hy
   | some _ => rw [q1] at hx; rw [q2] at hy; cases hx; cases hy; exact hab
theorem tb_relayAll (t:SetTable) (es:Array (Int × Value)) (n:Nat):Tb (relayAll t es n).2.1 ∧ (relayAll t es n).2.1.led = t.led:= by
 unfold relayAll
 split
 ·rename_i t' o e
  dsimp only
  split
  ·obtain ⟨h1,h2⟩ := up_laid e
   exact ⟨fun _ => h1,h2⟩
  ·exact ⟨fun hp => absurd (show false = true from hp) Bool.false_ne_true,rfl⟩
 ·exact ⟨fun hp => absurd (show false = true from hp) Bool.false_ne_true,rfl⟩
noncomputable def eo (p:Int × Tok):Int × Value := (hashInt p.1,.int p.1 p.2)
noncomputable def ed (e:Int × Value):Int × Tok := match e.2 with
 | .int i t => (i,t)
 | _ => (0,0)
theorem ed_eo (p:Int × Tok):ed (eo p) = p := rfl
theorem eo_perm {es:Array (Int × Value)} {l:List (Int × Tok)} (p:es.toList.Perm (l.map eo)):∃ l':List (Int × Tok),es.toList = l'.map eo ∧ l'.Perm l:= by
 refine ⟨es.toList.map ed,?_,?_⟩
 ·rw [List.map_map]
  have:es.toList.map (eo ∘ ed) = es.toList.map id := List.map_congr_left fun x hx => by
   obtain ⟨q,_,rfl⟩ := List.mem_map.mp (p.mem_iff.mp hx)
   rfl
  rw [this,List.map_id]
 ·have := p.map ed
  rw [List.map_map] at this
  have e:l.map (ed ∘ eo) = l:= by
   have:(ed ∘ eo) = id := funext ed_eo
   rw [this,List.map_id]
  rwa [e] at this
structure SetX (w:World) (h:Heap) (a:Addr) (l:List (Int × Tok)) (ep:Nat) (t:SetTable):Prop where
 obj:∃ o,h.get? a = some o ∧ o.ExactSet ∧ o.data = .set (l.map eo).toArray ep t
 few:l.length < scanBound
 fits:t.fits l.length = true
 led:t.led = !w.params.followText "set-order"
 tb:Tb t
end Jt
namespace Jt
open PySem
section
variable {prog:Program} {w:World} {A:Around} {E:Value -> Shared -> Prop} {s:Shared} {a:Addr} {l:List (Int × Tok)} {ep:Nat} {t:SetTable}
theorem eo_elems (l:List (Int × Tok)):ElemsOf (intKind prog w) (l.map eo) := fun e he => by
 obtain ⟨p,_,rfl⟩ := List.mem_map.mp he
 exact ⟨⟨p.1,by simp [eo,intKind,Value.isInt],rfl⟩,rfl⟩
theorem eo_find (k:Int) (l:List (Int × Tok)):((l.map eo).findIdx? fun e => (intKind prog w).is k e.2).isSome = decide (k ∈ l.map (·.1)):= by
 rw [Bool.eq_iff_iff,decide_eq_true_eq,List.findIdx?_isSome,List.any_eq_true]
 constructor
 ·rintro ⟨e,he,hk⟩
  obtain ⟨p,hp,rfl⟩ := List.mem_map.mp he
  obtain ⟨u,eu⟩ := Value.isInt_shape (show Value.isInt k (.int p.1 p.2) = true from hk)
  injection eu with e1
  exact e1 ▸ List.mem_map.mpr ⟨p,hp,rfl⟩
 ·intro h
  obtain ⟨p,hp,rfl⟩ := List.mem_map.mp h
  exact ⟨eo p,List.mem_map_of_mem hp,by simp [eo,intKind,Value.isInt]⟩
theorem SetX.store {h:Heap} {es:Array (Int × Value)} {l':List (Int × Tok)} {t':SetTable} (x:SetX w h a l ep t) (he:es.toList = l'.map eo) (hn:l'.length < scanBound) (hf:t'.fits l'.length = true) (hl:t'.led = t.led) (hb:Tb t') :
  SetX w (h.update a (Obj.putSet es t')) a l' (ep + 1) t':= by
 obtain ⟨o,ho,hx,hd⟩ := x.obj
 have e2:es = (l'.map eo).toArray := by apply Array.toList_inj.mp; simpa using he
 refine ⟨⟨{ o with data := .set es (ep + 1) t' },?_,hx,by rw [e2]⟩,hn,hf,hl.trans x.led,hb⟩
 have := Heap.get?_update_self (Obj.putSet es t') ho (by rw [putSet_of es t' hd]; rfl)
 rwa [putSet_of es t' hd] at this
theorem setX_store {es:Array (Int × Value)} {t':SetTable} {Q:Unit -> Shared -> Prop} (x:SetX w s.heap a l ep t) (hz:es.size < scanBound) (h:Q () { s with heap := s.heap.update a (Obj.putSet es t') }) :
  wpAny (model prog w) A (storeSet a es t') Q E s:= by
 obtain ⟨o,ho,_,hd⟩ := x.obj
 exact wpAny_storeSet_of ho hd h (fits_of_scanBound hz)
theorem size_of_toList {es:Array (Int × Value)} {l':List (Int × Tok)} (h:es.toList = l'.map eo):es.size = l'.length:= by
 have := congrArg List.length h
 simpa using this
theorem setX_add {k:Int} {tok:Tok} {Q:Bool -> Shared -> Prop} (x:SetX w s.heap a l ep t) (hroom:l.length + 1 < scanBound)
  (h:∀ h' l' ep' t' b,Heap.SameBut a s.heap h' -> SetX w h' a l' ep' t' -> (if k ∈ l.map (·.1) then l' = l else l'.Perm (l ++ [(k,tok)])) -> Q b { s with heap := h' }) :
  wpAny (model prog w) A (setAddHashed a (.int k tok) (hashInt k)) Q E s:= by
 obtain ⟨o,ho,hx,hd⟩ := x.obj
 have hsz:(l.map eo).toArray.size = l.length := by simp
 have hel:ElemsOf (intKind prog w) (l.map eo).toArray.toList := by simpa using eo_elems l
 have hft:t.fits (l.map eo).toArray.size = true := by rw [hsz]; exact x.fits
 unfold setAddHashed setAddHashedIn
 refine wpAny_holding ?_
 refine wpAny_bind (wpAny_setState_of ho hd hft ?_)
 show wpAny _ _ (if byScan (.int k tok) (l.map eo).toArray = true then _ else _) _ _ _
 rw [if_pos (byScan_of (knd := intKind prog w) rfl (by rw [hsz]; exact x.few) hel)]
 refine wpAny_bind ?_
 unfold setAddByScan
 refine wpAny_bind (wpAny_rule ?_)
 refine wpAny_bind (wpAny_setScan_of (knd := intKind prog w) (k := k) (intKind_is _ _ _ _) ho hd hft hel ?_)
 have hfi := eo_find (prog := prog) (w := w) k l
 rw [show (l.map eo).toArray.toList = l.map eo by simp]
 cases hr:(l.map eo).findIdx? (fun e => (intKind prog w).is k e.2) with
 | some j =>
  rw [hr] at hfi
  have hm:k ∈ l.map (·.1) := of_decide_eq_true hfi.symm
  dsimp only
  refine wpAny_pure (wpAny_pure ?_)
  have := h s.heap l ep t false (Heap.SameBut.refl a s.heap) x (by rw [if_pos hm])
  exact this
 | none =>
  rw [hr] at hfi
  have hm:k ∉ l.map (·.1) := of_decide_eq_false hfi.symm
  dsimp only
  have p1 := layNew_perm t (l.map eo).toArray (hashInt k) (.int k tok)
  have f1 := layNew_fits t (l.map eo).toArray (hashInt k) (.int k tok)
  obtain ⟨b1,b2⟩ := tb_layNew x.tb (l.map eo).toArray (hashInt k) (.int k tok)
  generalize hL:layNew t (l.map eo).toArray (hashInt k) (.int k tok) = L at p1 f1 b1 b2 ⊢
  obtain ⟨es1,t1,dm,gv⟩ := L
  dsimp only at p1 f1 b1 b2 ⊢
  rw [Array.toList_push,show (l.map eo).toArray.toList ++ [(hashInt k,Value.int k tok)] = (l ++ [(k,tok)]).map eo by simp [eo]] at p1
  obtain ⟨l1,e1,q1⟩ := eo_perm p1
  have n1:l1.length = l.length + 1 := by rw [q1.length_eq]; simp
  have z1 := size_of_toList e1
  have fin:∀ h' l' ep' t',Heap.SameBut a s.heap h' -> SetX w h' a l' ep' t' -> l'.Perm l1 -> Q true { s with heap := h' } := fun h' l' ep' t' sb x' p' =>
   h h' l' ep' t' true sb x' (by rw [if_neg hm]; exact p'.trans q1)
  have gw:∀ (b:Bool) {s₁:Shared} {Q':Unit -> Shared -> Prop},Q' () s₁ -> wpAny (model prog w) A (match b with | true => rule "set.scan.the-table-gave-way" | false => pure ()) Q' E s₁ := fun b _ _ hq => by
   cases b
   ·exact wpAny_pure hq
   ·exact wpAny_rule hq
  refine wpAny_bind (gw gv ?_)
  have x1:SetX w (s.heap.update a (Obj.putSet es1 t1)) a l1 (ep + 1) t1 := x.store e1 (by omega) (by rw [<- z1]; exact f1) b2 b1
  have sb1 := Heap.SameBut.update s.heap a (Obj.putSet es1 t1)
  have tl:∀ (g:Bool -> Sem Unit) (R:Option Bool -> Shared -> Prop),(∀ (b:Bool) {s₁:Shared} {Q':Unit -> Shared -> Prop},Q' () s₁ -> wpAny (model prog w) A (g b) Q' E s₁) ->
    (∀ h' l' ep' t',Heap.SameBut a s.heap h' -> SetX w h' a l' ep' t' -> l'.Perm l1 -> R (some true) { s with heap := h' }) ->
    wpAny (model prog w) A (storeSet a es1 t1 >>= fun _ => if (!dm && t1.tooFull) = true then (g (relayAll t1 es1 (SetTable.grown es1.size)).2.2 >>= fun _ =>
     storeSet a (relayAll t1 es1 (SetTable.grown es1.size)).1 (relayAll t1 es1 (SetTable.grown es1.size)).2.1 >>= fun _ => pure (some true)) else pure (some true)) R E s := fun g R hg fin => by
   refine wpAny_bind (setX_store x (by rw [z1]; omega) ?_)
   by_cases hfull:(!dm && t1.tooFull) = true
   ·rw [if_pos hfull]
    have p2 := relayAll_perm t1 es1 (SetTable.grown es1.size)
    have f2 := relayAll_fits t1 es1 (SetTable.grown es1.size)
    obtain ⟨c1,c2⟩ := tb_relayAll t1 es1 (SetTable.grown es1.size)
    generalize hR:relayAll t1 es1 (SetTable.grown es1.size) = R at p2 f2 c1 c2 ⊢
    obtain ⟨es2,t2,gv2⟩ := R
    dsimp only at p2 f2 c1 c2 ⊢
    rw [e1] at p2
    obtain ⟨l2,e2,q2⟩ := eo_perm p2
    have n2:l2.length = l1.length := q2.length_eq
    have z2 := size_of_toList e2
    refine wpAny_bind (hg gv2 ?_)
    refine wpAny_bind (setX_store (s := { s with heap := s.heap.update a (Obj.putSet es1 t1) }) x1 (by rw [z2]; omega) (wpAny_pure ?_))
    exact fin _ l2 _ t2 (sb1.trans (Heap.SameBut.update _ a _)) (x1.store e2 (by omega) (by rw [<- z2]; exact f2) c2 c1) q2
   ·rw [if_neg hfull]
    exact wpAny_pure (fin _ l1 _ t1 sb1 x1 (List.Perm.refl _))
  split
  ·refine wpAny_bind (wpAny_pure ?_)
   exact tl _ _ gw fun h' l' ep' t' c1 c2 c3 => wpAny_pure (fin h' l' ep' t' c1 c2 c3)
  ·refine wpAny_bind (wpAny_pure ?_)
   exact tl _ _ gw fun h' l' ep' t' c1 c2 c3 => wpAny_pure (fin h' l' ep' t' c1 c2 c3)
end
end Jt
namespace Jt
open PySem
section
variable {prog:Program} {w:World} {A:Around} {E:Value -> Shared -> Prop} {s:Shared} {R:Result -> Shared -> Prop} {I:Addr} {fp wr:List Addr} {n:Nat} {P:Nat -> Value -> Prop} {St:Nat -> Heap -> Prop}
theorem SetX.at {h h':Heap} {a:Addr} {l:List (Int × Tok)} {ep:Nat} {t:SetTable} (x:SetX w h a l ep t) (k:∀ o,h.get? a = some o -> h'.get? a = some o):SetX w h' a l ep t:= by
 obtain ⟨o,ho,hr⟩ := x.obj
 exact ⟨⟨o,k o ho,hr⟩,x.few,x.fits,x.led,x.tb⟩
theorem setX_loop (W:Walks prog w A.in1 I fp wr n P St) (S:Addr) (hSf:S ∉ fp) (val:Nat -> Int) (hval:∀ i v,P i v -> ∃ t,v = .int (val i) t) (hb:n + 1 < scanBound) :
  ∀ (k i:Nat) (h:Heap) (tk:Nat) (l:List (Int × Tok)) (ep:Nat) (t:SetTable),n - i = k -> i ≤ n -> St i h -> SetX w h S l ep t -> l.length ≤ i -> (l.map (·.1)).Nodup -> (∀ z,z ∈ l.map (·.1) ↔ ∃ j,j < i ∧ val j = z) ->
   (∀ h' tk' l' ep' t',(∀ b o,b ∉ S :: wr -> h.get? b = some o -> h'.get? b = some o) -> SetX w h' S l' ep' t' -> (l'.map (·.1)).Nodup -> (∀ z,z ∈ l'.map (·.1) ↔ ∃ j,j < n ∧ val j = z) -> R (.ok (.ret .none)) { s with heap := h',toks := tk' }) ->
   codeAny (model prog w) A (.builtin "set.update.loop" ⟨[.ref S,.ref I],[]⟩) R { s with heap := h,toks := tk }:= by
 have hSw:S ∉ wr := fun z => hSf (W.sub _ z)
 intro k
 induction k with
 | zero =>
  intro i h tk l ep t hk hi st x hl nd mem fin
  have ei:i = n := by omega
  subst ei
  refine codeAny_builtin PyProof.Rows.F.entry_set_update_loop ?_
  rw [Around.under_plainId PyProof.Rows.F.plain_set_update_loop _]
  show wpAny (model prog w) A.in1 (pyNext (.ref I) >>= _) _ _ _
  refine wpAny_bind (W.done { s with heap := h,toks := tk } _ _ st fun h' tk' kp => ?_)
  exact wpAny_pure (fin h' tk' l ep t (fun b o hb' e => kp b o (fun z => hb' (List.mem_cons_of_mem _ z)) e) (x.at fun o e => kp S o hSw e) nd mem)
 | succ k ih =>
  intro i h tk l ep t hk hi st x hl nd mem fin
  have hlt:i < n := by omega
  refine codeAny_builtin PyProof.Rows.F.entry_set_update_loop ?_
  rw [Around.under_plainId PyProof.Rows.F.plain_set_update_loop _]
  show wpAny (model prog w) A.in1 (pyNext (.ref I) >>= _) _ _ _
  refine wpAny_bind (W.item i { s with heap := h,toks := tk } _ _ hlt st fun v h1 tk1 hP st1 kp => ?_)
  obtain ⟨u,rfl⟩ := hval i v hP
  have x1:SetX w h1 S l ep t := x.at fun o e => kp S o hSw e
  show wpAny (model prog w) A.in1 (holding [Value.int (val i) u] (setAdd S (.int (val i) u)) >>= _) _ _ _
  refine wpAny_bind (wpAny_holding ?_)
  unfold setAdd
  refine wpAny_holding ?_
  refine wpAny_bind ((intKind prog w).pyHash (k := val i) (intKind_is _ _ _ _) ?_)
  refine setX_add (s := { s with heap := h1,toks := tk1 + 1 }) x1 (by omega) fun h2 l2 ep2 t2 b sb x2 hif => ?_
  have hm2:(∀ z,z ∈ l2.map (·.1) ↔ ∃ j,j < i + 1 ∧ val j = z) ∧ (l2.map (·.1)).Nodup ∧ l2.length ≤ i + 1:= by
   by_cases hm:val i ∈ l.map (·.1)
   ·rw [if_pos hm] at hif
    subst hif
    refine ⟨fun z => (mem z).trans ⟨fun ⟨j,h1,h2⟩ => ⟨j,by omega,h2⟩,fun ⟨j,h1,h2⟩ => ?_⟩,nd,by omega⟩
    by_cases hj:j < i
    ·exact ⟨j,hj,h2⟩
    ·have:j = i := by omega
     subst this
     exact (mem z).mp (h2 ▸ hm)
   ·rw [if_neg hm] at hif
    have pm:(l2.map (·.1)).Perm (l.map (·.1) ++ [val i]) := by simpa using hif.map (·.1)
    refine ⟨fun z => ?_,?_,?_⟩
    ·rw [pm.mem_iff,List.mem_append,mem z,List.mem_singleton]
     constructor
     ·rintro (⟨j,h1,h2⟩ | e)
      ·exact ⟨j,by omega,h2⟩
      ·exact ⟨i,by omega,e.symm⟩
     ·rintro ⟨j,h1,h2⟩
      by_cases hj:j < i
      ·exact .inl ⟨j,hj,h2⟩
      ·have:j = i := by omega
       subst this
       exact .inr h2.symm
    ·rw [pm.nodup_iff,List.nodup_append]
     refine ⟨nd,by simp,fun p hp q hq e => ?_⟩
     rw [List.mem_singleton] at hq
     subst hq; subst e
     exact hm hp
    ·rw [hif.length_eq]; simp; omega
  refine wpAny_pure ⟨plainId_quiet PyProof.Rows.F.plain_set_update_loop _,ih (i + 1) h2 (tk1 + 1) l2 ep2 t2 (by omega) hlt (W.frame _ h1 h2 st1 fun b hb' o e => ?_) x2 hm2.2.2 hm2.2.1 hm2.1 fun h' tk' l' ep' t' c1 c2 c3 c4 => fin h' tk' l' ep' t' (fun b o hb' e => ?_) c2 c3 c4⟩
  ·rw [sb.2 b fun z => hSf (z ▸ hb')]; exact e
  ·refine c1 b o hb' ?_
   rw [sb.2 b fun z => hb' (z ▸ List.mem_cons_self)]
   exact kp b o (fun z => hb' (List.mem_cons_of_mem _ z)) e
theorem setX_fresh {h:Heap} {S:Addr} (e:h.get? S = some { cls := .type "set",dict := none,data := .set #[] 0 (.fresh 0 0 (!w.params.followText "set-order")) }):SetX w h S [] 0 (.fresh 0 0 (!w.params.followText "set-order")) :=
 ⟨⟨_,e,⟨rfl,rfl,rfl⟩,rfl⟩,by decide,by rfl,rfl,fun _ => List.Pairwise.nil⟩
theorem code_setNew (v:Value) {Q:Value -> Shared -> Prop} (h:Q (.ref s.heap.objs.size) { s with heap := s.heap.push { cls := .type "set",dict := none,data := .set #[] 0 (.fresh 0 0 (!w.params.followText "set-order")) } }) :
  codeAny (model prog w) A (.call (.builtin "set.__new__") ⟨[.type "set",v],[]⟩) (wants Q E) s:= by
 refine codeAny_of_tree ?_
 show wpAny (model prog w) A.in1 (do checkBuiltinCall "set.__new__" ⟨[.type "set",v],[]⟩; again (.builtin "set.__new__" ⟨[.type "set",v],[]⟩)) _ _ s
 refine wpAny_bind (wpAny_of_eq (F.newCall_set_1 v) (wpAny_pure ⟨plainId_quiet F.plain_set_new _,codeAny_builtin F.entry_set_new ?_⟩))
 rw [Around.under_plainId F.plain_set_new _]
 have hsub := sub_set_self
 obtain ⟨hp,g,d,tk,os⟩ := s
 unfold Builtin.«set.__new__» Builtin.Frozenset.newClass
 dsimp only
 wp_walk
 refine wpAny_askSetting (wpAny_pure ?_)
 dsimp only
 simp only [newObj]
 exact wpAny_bind (wpAny_alloc (wpAny_pure (wpAny_pure h)))
set_option maxHeartbeats 8000000 in
theorem call_setX {l:Addr} {items:Array Value} {ns:List Int} {Q:Value -> Shared -> Prop} (hh:A.handled = none) (hl:s.heap.IsList l items) (hi:PyProof.Rows.IntsAre items.toList ns) (hb:items.size + 1 < scanBound)
  (h:∀ (h':Heap) (tk:Nat) (ls:List (Int × Tok)) (ep:Nat) (t:SetTable),SetX w h' s.heap.objs.size ls ep t -> (ls.map (·.1)).Nodup -> (∀ z,z ∈ ls.map (·.1) ↔ z ∈ ns) ->
   (∀ b o,s.heap.get? b = some o -> h'.get? b = some o) -> Q (.ref s.heap.objs.size) { s with heap := h',toks := tk }) :
  wpAny (model prog w) A (call (.type "set") [.ref l]) Q E s:= by
 obtain ⟨c,tl,hmro⟩ := F.called_set.mro
 have hmade := F.called_set.made
 have hsub := F.called_set.sub
 refine wpAny_call (codeAny_of_tree (?_:wpAny _ _ (callAny (.type "set") _) _ _ _))
 refine wpAny_pure ⟨Code.quiet_builtin _ (by decide +kernel),codeAny_builtin F.entry_type_call ?_⟩
 rw [Around.under_plain (weight_type_call_type "set" [.ref l] []) rfl]
 have h1 := F.called_set.notType
 have h2 := F.called_set.canCreate
 have hct := F.typeCall_set_1 (.ref l)
 repeat (any_goals (first | assumption | wp_step))
 refine codeAny_mono (code_setNew (.ref l) (E := E) (Q := fun obj s₁ => obj = .ref s.heap.objs.size ∧ s₁ = { s with heap := s.heap.push { cls := .type "set",dict := none,data := .set #[] 0 (.fresh 0 0 (!w.params.followText "set-order")) } }) ⟨rfl,rfl⟩) fun r s₁ hr => ?_
 cases r with
 | error e => exact hr
 | ok fl =>
  cases fl with
  | ret obj =>
   obtain ⟨rfl,rfl⟩ := hr
   have hS:(s.heap.push ({ cls := .type "set",dict := none,data := .set #[] 0 (.fresh 0 0 (!w.params.followText "set-order")) }:Obj)).get? s.heap.objs.size = some ({ cls := .type "set",dict := none,data := .set #[] 0 (.fresh 0 0 (!w.params.followText "set-order")) }:Obj) := Heap.get?_push_size _ rfl
   have hT:Shared.TypeIs { s with heap := s.heap.push ({ cls := .type "set",dict := none,data := .set #[] 0 (.fresh 0 0 (!w.params.followText "set-order")) }:Obj) } (.ref s.heap.objs.size) "set" := ⟨_,hS,rfl⟩
   have hli := F.called_set.init.lookup
   have hbi := F.called_set.init.bind (.ref s.heap.objs.size)
   repeat (any_goals (first | assumption | wp_step))
   refine codeAny_mono (codeAny_call_builtin (R := wants (fun r s₂ => r = .none ∧ ∃ h' tk ls ep t,s₂ = { s with heap := h',toks := tk } ∧ SetX w h' s.heap.objs.size ls ep t ∧ (ls.map (·.1)).Nodup ∧ (∀ z,z ∈ ls.map (·.1) ↔ z ∈ ns) ∧
     (∀ b o,s.heap.get? b = some o -> h'.get? b = some o)) E) F.called_set.init.plain F.entry_set_init (check_set_init_1 hT ?_)) fun r₂ s₂ hr₂ => ?_
   ·obtain ⟨⟨ocls,odict,odata,oslots⟩,hol,hcl,nl,hdl⟩ := hl
    simp only at hcl hdl
    subst hcl; subst hdl
    have hol' := Heap.get?_push_of_some ({ cls := .type "set",dict := none,data := .set #[] 0 (.fresh 0 0 (!w.params.followText "set-order")) }:Obj) hol
    have hsls := F.sub_list_set
    have hslf := F.sub_list_frozenset
    have hne:(Value.type "list" == Value.type "dict") = false := by decide
    have hl1:(s.heap.push ({ cls := .type "set",dict := none,data := .set #[] 0 (.fresh 0 0 (!w.params.followText "set-order")) }:Obj)).IsList l items := ⟨_,hol',rfl,nl,rfl⟩
    unfold Builtin.«set.__init__» noKeywords Builtin.Frozenset.updateFrom
    generalize hPI:pyIter = PI
    wp_walk
    subst hPI
    refine wpAny_pyIter_list (s := { s with heap := s.heap.push ({ cls := .type "set",dict := none,data := .set #[] 0 (.fresh 0 0 (!w.params.followText "set-order")) }:Obj) }) hl1 ?_
    refine wpAny_bind (wpAny_runValue ?_)
    have hlS:l < s.heap.objs.size := Heap.lt_size hol
    have hh3:A.in1.in1.in1.handled = none := by simp [hh]
    have hneI:l ≠ (s.heap.push ({ cls := .type "set",dict := none,data := .set #[] 0 (.fresh 0 0 (!w.params.followText "set-order")) }:Obj)).objs.size := by rw [Heap.size_push]; exact Nat.ne_of_lt (Nat.lt_succ_of_lt hlS)
    have hSf:s.heap.objs.size ∉ [(s.heap.push ({ cls := .type "set",dict := none,data := .set #[] 0 (.fresh 0 0 (!w.params.followText "set-order")) }:Obj)).objs.size,l]:= by
     rw [Heap.size_push]
     intro hm
     rcases List.mem_cons.mp hm with e | hm
     ·exact Nat.ne_of_lt (Nat.lt_succ_self _) e
     ·exact Nat.ne_of_gt hlS (List.mem_singleton.mp hm)
    have hval:∀ (i:Nat) (v:Value),items[i]? = some v -> ∃ t,v = .int ((fun i => ns.getD i 0) i) t := fun i v hv => PyProof.Rows.IntsAre.int_at hi i v (by rw [Array.getElem?_toList]; exact hv)
    have hln:ns.length = items.size := by have := hi.length; simpa using this.symm
    refine setX_loop (Walks.list hh3 _ l hneI items) s.heap.objs.size hSf (fun i => ns.getD i 0) hval hb (items.size - 0) 0 _ s.toks [] 0 (.fresh 0 0 (!w.params.followText "set-order")) (by omega) (Nat.zero_le _) ⟨⟨_,Heap.get?_push_size _ rfl,rfl,rfl⟩,hl1.push _⟩
     (setX_fresh (Heap.get?_push_of_some _ hS)) (Nat.zero_le _) List.nodup_nil (fun z => ⟨fun hz => (by cases hz),fun ⟨j,hj,_⟩ => absurd hj (Nat.not_lt_zero _)⟩) fun h' tk' l' ep' t' kp x' nd' mem' => ?_
    refine wpAny_pure (?_:wpAny _ _ (ret Value.none) _ _ _)
    refine wpAny_pure ⟨rfl,h',tk',l',ep',t',rfl,x',nd',fun z => (mem' z).trans ⟨fun ⟨j,hj,e⟩ => ?_,fun hz => ?_⟩,fun b o e => ?_⟩
    ·have hj':j < ns.length := by omega
     have:ns.getD j 0 = ns[j] := by simp [hj']
     exact e ▸ this ▸ List.getElem_mem hj'
    ·obtain ⟨j,hj,e⟩ := List.getElem_of_mem hz
     exact ⟨j,by omega,by simp [hj,e]⟩
    ·have hb' := Heap.lt_size e
     refine kp b o (fun hm => ?_) (Heap.get?_push_of_some _ (Heap.get?_push_of_some _ e))
     rcases List.mem_cons.mp hm with e' | hm
     ·exact Nat.ne_of_lt hb' e'
     ·have := List.mem_singleton.mp hm
      rw [Heap.size_push] at this
      exact Nat.ne_of_lt (Nat.lt_succ_of_lt hb') this
   ·cases r₂ with
    | error e => exact hr₂
    | ok fl₂ =>
     cases fl₂ with
     | ret r =>
      obtain ⟨rfl,h',tk,ls,ep,t,rfl,x',nd',mem',kp⟩ := hr₂
      repeat (any_goals (first | assumption | wp_step))
      exact h _ _ ls ep t x' nd' mem' kp
     | _ => exact hr₂.elim
  | _ => exact hr.elim
theorem sub_tup_set:isSubtype (.type "tuple") (.type "set") = pure false := by rw [isSubtype_type]; kernel_rfl
theorem sub_tup_frz:isSubtype (.type "tuple") (.type "frozenset") = pure false := by rw [isSubtype_type]; kernel_rfl
set_option maxHeartbeats 8000000 in
theorem call_setT {l:Addr} {items:Array Value} {ns:List Int} {Q:Value -> Shared -> Prop} (hh:A.handled = none) (hl:s.heap.IsTuple l items) (hi:PyProof.Rows.IntsAre items.toList ns) (hb:items.size + 1 < scanBound)
  (h:∀ (h':Heap) (tk:Nat) (ls:List (Int × Tok)) (ep:Nat) (t:SetTable),SetX w h' s.heap.objs.size ls ep t -> (ls.map (·.1)).Nodup -> (∀ z,z ∈ ls.map (·.1) ↔ z ∈ ns) ->
   (∀ b o,s.heap.get? b = some o -> h'.get? b = some o) -> Q (.ref s.heap.objs.size) { s with heap := h',toks := tk }) :
  wpAny (model prog w) A (call (.type "set") [.ref l]) Q E s:= by
 obtain ⟨c,tl,hmro⟩ := F.called_set.mro
 have hmade := F.called_set.made
 have hsub := F.called_set.sub
 refine wpAny_call (codeAny_of_tree (?_:wpAny _ _ (callAny (.type "set") _) _ _ _))
 refine wpAny_pure ⟨Code.quiet_builtin _ (by decide +kernel),codeAny_builtin F.entry_type_call ?_⟩
 rw [Around.under_plain (weight_type_call_type "set" [.ref l] []) rfl]
 have h1 := F.called_set.notType
 have h2 := F.called_set.canCreate
 have hct := F.typeCall_set_1 (.ref l)
 repeat (any_goals (first | assumption | wp_step))
 refine codeAny_mono (code_setNew (.ref l) (E := E) (Q := fun obj s₁ => obj = .ref s.heap.objs.size ∧ s₁ = { s with heap := s.heap.push { cls := .type "set",dict := none,data := .set #[] 0 (.fresh 0 0 (!w.params.followText "set-order")) } }) ⟨rfl,rfl⟩) fun r s₁ hr => ?_
 cases r with
 | error e => exact hr
 | ok fl =>
  cases fl with
  | ret obj =>
   obtain ⟨rfl,rfl⟩ := hr
   have hS:(s.heap.push ({ cls := .type "set",dict := none,data := .set #[] 0 (.fresh 0 0 (!w.params.followText "set-order")) }:Obj)).get? s.heap.objs.size = some ({ cls := .type "set",dict := none,data := .set #[] 0 (.fresh 0 0 (!w.params.followText "set-order")) }:Obj) := Heap.get?_push_size _ rfl
   have hT:Shared.TypeIs { s with heap := s.heap.push ({ cls := .type "set",dict := none,data := .set #[] 0 (.fresh 0 0 (!w.params.followText "set-order")) }:Obj) } (.ref s.heap.objs.size) "set" := ⟨_,hS,rfl⟩
   have hli := F.called_set.init.lookup
   have hbi := F.called_set.init.bind (.ref s.heap.objs.size)
   repeat (any_goals (first | assumption | wp_step))
   refine codeAny_mono (codeAny_call_builtin (R := wants (fun r s₂ => r = .none ∧ ∃ h' tk ls ep t,s₂ = { s with heap := h',toks := tk } ∧ SetX w h' s.heap.objs.size ls ep t ∧ (ls.map (·.1)).Nodup ∧ (∀ z,z ∈ ls.map (·.1) ↔ z ∈ ns) ∧
     (∀ b o,s.heap.get? b = some o -> h'.get? b = some o)) E) F.called_set.init.plain F.entry_set_init (check_set_init_1 hT ?_)) fun r₂ s₂ hr₂ => ?_
   ·obtain ⟨⟨ocls,odict,odata,oslots⟩,hol,hcl,nl,hdl⟩ := hl
    simp only at hcl hdl
    subst hcl; subst hdl
    have hol' := Heap.get?_push_of_some ({ cls := .type "set",dict := none,data := .set #[] 0 (.fresh 0 0 (!w.params.followText "set-order")) }:Obj) hol
    have hsls := sub_tup_set
    have hslf := sub_tup_frz
    have hne:(Value.type "tuple" == Value.type "dict") = false := by decide
    have hl1:(s.heap.push ({ cls := .type "set",dict := none,data := .set #[] 0 (.fresh 0 0 (!w.params.followText "set-order")) }:Obj)).IsTuple l items := ⟨_,hol',rfl,nl,rfl⟩
    unfold Builtin.«set.__init__» noKeywords Builtin.Frozenset.updateFrom
    generalize hPI:pyIter = PI
    wp_walk
    subst hPI
    refine wpAny_pyIter_tuple (s := { s with heap := s.heap.push ({ cls := .type "set",dict := none,data := .set #[] 0 (.fresh 0 0 (!w.params.followText "set-order")) }:Obj) }) hl1 ?_
    refine wpAny_bind (wpAny_runValue ?_)
    have hlS:l < s.heap.objs.size := Heap.lt_size hol
    have hh3:A.in1.in1.in1.handled = none := by simp [hh]
    have hneI:l ≠ (s.heap.push ({ cls := .type "set",dict := none,data := .set #[] 0 (.fresh 0 0 (!w.params.followText "set-order")) }:Obj)).objs.size := by rw [Heap.size_push]; exact Nat.ne_of_lt (Nat.lt_succ_of_lt hlS)
    have hSf:s.heap.objs.size ∉ [(s.heap.push ({ cls := .type "set",dict := none,data := .set #[] 0 (.fresh 0 0 (!w.params.followText "set-order")) }:Obj)).objs.size,l]:= by
     rw [Heap.size_push]
     intro hm
     rcases List.mem_cons.mp hm with e | hm
     ·exact Nat.ne_of_lt (Nat.lt_succ_self _) e
     ·exact Nat.ne_of_gt hlS (List.mem_singleton.mp hm)
    have hval:∀ (i:Nat) (v:Value),items[i]? = some v -> ∃ t,v = .int ((fun i => ns.getD i 0) i) t := fun i v hv => PyProof.Rows.IntsAre.int_at hi i v (by rw [Array.getElem?_toList]; exact hv)
    have hln:ns.length = items.size := by have := hi.length; simpa using this.symm
    refine setX_loop (Walks.tuple hh3 _ l hneI items) s.heap.objs.size hSf (fun i => ns.getD i 0) hval hb (items.size - 0) 0 _ s.toks [] 0 (.fresh 0 0 (!w.params.followText "set-order")) (by omega) (Nat.zero_le _) ⟨⟨_,Heap.get?_push_size _ rfl,rfl,rfl⟩,hl1.push _⟩
     (setX_fresh (Heap.get?_push_of_some _ hS)) (Nat.zero_le _) List.nodup_nil (fun z => ⟨fun hz => (by cases hz),fun ⟨j,hj,_⟩ => absurd hj (Nat.not_lt_zero _)⟩) fun h' tk' l' ep' t' kp x' nd' mem' => ?_
    refine wpAny_pure (?_:wpAny _ _ (ret Value.none) _ _ _)
    refine wpAny_pure ⟨rfl,h',tk',l',ep',t',rfl,x',nd',fun z => (mem' z).trans ⟨fun ⟨j,hj,e⟩ => ?_,fun hz => ?_⟩,fun b o e => ?_⟩
    ·have hj':j < ns.length := by omega
     have:ns.getD j 0 = ns[j] := by simp [hj']
     exact e ▸ this ▸ List.getElem_mem hj'
    ·obtain ⟨j,hj,e⟩ := List.getElem_of_mem hz
     exact ⟨j,by omega,by simp [hj,e]⟩
    ·have hb' := Heap.lt_size e
     refine kp b o (fun hm => ?_) (Heap.get?_push_of_some _ (Heap.get?_push_of_some _ e))
     rcases List.mem_cons.mp hm with e' | hm
     ·exact Nat.ne_of_lt hb' e'
     ·have := List.mem_singleton.mp hm
      rw [Heap.size_push] at this
      exact Nat.ne_of_lt (Nat.lt_succ_of_lt hb') this
   ·cases r₂ with
    | error e => exact hr₂
    | ok fl₂ =>
     cases fl₂ with
     | ret r =>
      obtain ⟨rfl,h',tk,ls,ep,t,rfl,x',nd',mem',kp⟩ := hr₂
      repeat (any_goals (first | assumption | wp_step))
      exact h _ _ ls ep t x' nd' mem' kp
     | _ => exact hr₂.elim
  | _ => exact hr.elim
end
end Jt
namespace Jt
open PySem
theorem own_si:Manifest.owners.lookup (String.ofList ['r','o','t','a','r','e','t','i','_','t','e','s'].reverse) = some Manifest.sig_set_iterator := by kernel_rfl
theorem sl_si_next:Slot "set_iterator" "__next__" "set_iterator.__next__" := .of (owner := "set_iterator") (n := "__next__") (by rw [typeLookup_type,builtinLookup_eq_fast]; kernel_rfl) (by decide +kernel) (by decide +kernel) (by decide +kernel) (by first | exact .inl (by decide +kernel) | exact .inr (by decide +kernel)) (by rw [isSubtype_type]; kernel_rfl)
theorem en_si_next:entryFor table "set_iterator.__next__" = some Builtin.«set_iterator.__next__» := entryFor_of_tree (by kernel_rfl)
theorem ar_si_next (v:Value):argsOk "set_iterator.__next__" ⟨[v],[]⟩:= by
 unfold argsOk
 rw [signature?_of (id := "set_iterator.__next__") (n := ['_','_','t','x','e','n','_','_']) (o := ['r','o','t','a','r','e','t','i','_','t','e','s']) (by kernel_rfl) own_si]
 kernel_rfl
theorem sl_si_iter:Slot "set_iterator" "__iter__" "set_iterator.__iter__" := .of (owner := "set_iterator") (n := "__iter__") (by rw [typeLookup_type,builtinLookup_eq_fast]; kernel_rfl) (by decide +kernel) (by decide +kernel) (by decide +kernel) (by first | exact .inl (by decide +kernel) | exact .inr (by decide +kernel)) (by rw [isSubtype_type]; kernel_rfl)
theorem en_si_iter:entryFor table "set_iterator.__iter__" = some Builtin.«dict_keyiterator.__iter__» := entryFor_alias (id' := "dict_keyiterator.__iter__") (by kernel_rfl) (by first | rfl | decide +kernel | (unfold String.splitOn; simp +decide [String.splitOnAux])) (by decide +kernel) (by kernel_rfl)
theorem ar_si_iter (v:Value):argsOk "set_iterator.__iter__" ⟨[v],[]⟩:= by
 unfold argsOk
 rw [signature?_of (id := "set_iterator.__iter__") (n := ['_','_','r','e','t','i','_','_']) (o := ['r','o','t','a','r','e','t','i','_','t','e','s']) (by kernel_rfl) own_si]
 kernel_rfl
theorem en_set_iter:entryFor table "set.__iter__" = some Builtin.«frozenset.__iter__» := entryFor_alias (id' := "frozenset.__iter__") (by kernel_rfl) (by first | rfl | decide +kernel | (unfold String.splitOn; simp +decide [String.splitOnAux])) (by decide +kernel) (by kernel_rfl)
noncomputable abbrev SIt (h:Heap) (I S:Addr) (f0:Value) (i n ep:Nat):Prop := h.get? I = some { cls := .type "set_iterator",dict := none,data := .fields #[f0,.int i 0,.ref S,.int n 0,.int ep 0],slots := #[] }
section
variable {prog:Program} {w:World} {A:Around} {E:Value -> Shared -> Prop} {s:Shared} {I S:Addr} {l:List (Int × Tok)} {ep:Nat} {t:SetTable} {i:Nat} {f0:Value}
theorem SetX.state {Q:(Array (Int × Value) × Nat × SetTable) -> Shared -> Prop} (x:SetX w s.heap S l ep t) (h:Q ((l.map eo).toArray,ep,t) s):wpAny (model prog w) A (setState S) Q E s:= by
 obtain ⟨o,ho,_,hd⟩ := x.obj
 exact wpAny_setState_of ho hd (by simpa using x.fits) h
theorem SetX.ty (x:SetX w s.heap S l ep t):s.TypeIs (.ref S) "set":= by
 obtain ⟨o,ho,hx,_⟩ := x.obj
 exact ⟨o,ho,hx.1⟩
theorem stop_now {α:Type} {Q:α -> Shared -> Prop} (hh:A.handled = none) (hE:∀ h' e,(∀ b o,s.heap.get? b = some o -> h'.get? b = some o) -> (∃ o,h'.get? e = some o ∧ o.cls = .type "StopIteration") -> E (.ref e) { s with heap := h' }) :
  wpAny (model prog w) A (newExc (.type "StopIteration") [] >>= fun x => (raiseNew x:Sem α)) Q E s:= by
 refine wpAny_bind ?_
 simp only [newExc,newTuple]
 refine wpAny_bind (wpAny_newObj_type ?_ (by size_fits))
 refine wpAny_bind (m := firstArgMember _ _) (wpAny_of_eq (a := Value.none) (by first | rfl | (simp only [firstArgMember]; rfl)) ?_)
 refine wpAny_newObj_type ?_ (by size_fits)
 simp only [raiseNew]
 refine wpAny_bind (wpAny_handled ?_)
 rw [hh]
 refine wpAny_bind (wpAny_pure (wpAny_throw ?_))
 exact hE _ _ (fun b o e => Heap.get?_push_of_some _ (Heap.get?_push_of_some _ e)) ⟨_,Heap.get?_push_size _ rfl,rfl⟩
theorem si_next {Q:Option Value -> Shared -> Prop} (hI:SIt s.heap I S f0 i l.length ep) (x:SetX w s.heap S l ep t)
  (h:wpAny (model prog w) A.in1 (if let .int slot _ := f0 then (do
    match <- setNext S slot.toNat i ep with
    | some (x,next) =>
     setField (.ref I) 0 (rawInt next)
     setField (.ref I) 1 (rawInt (i + 1))
     ret x
    | none => setField (.ref I) 2 .none; raiseNew (<- newExc (.type "StopIteration") []))
   else (do
    let some places <- seqItems? f0 | unsupported "internal:set_iterator"
    match places[i]? with
    | some (.int place _) =>
     let x <- setNextDrawn S place.toNat ep
     setField (.ref I) 1 (rawInt (i + 1))
     ret x
    | some _ => unsupported "internal:set_iterator"
    | none => setField (.ref I) 0 (rawInt 0); setField (.ref I) 2 .none; raiseNew (<- newExc (.type "StopIteration") [])))
   (fun fin s' => ∃ v,fin = .done (.ret v) ∧ Q (some v) s') (fun e s' => (∃ a o,e = .ref a ∧ s'.heap.get? a = some o ∧ o.cls = .type "StopIteration") ∧ Q none s') s) :
  wpAny (model prog w) A (pyNext (.ref I)) Q E s:= by
 have hT:s.TypeIs (.ref I) "set_iterator" := ⟨_,hI,rfl⟩
 unfold pyNext
 refine wpAny_bind (wpAny_attempt (wpAny_callSpecial?_slot (name := Str.ofString "__next__") hT sl_si_next (wpAny_call_entry sl_si_next hT en_si_next ?_ (ar_si_next _))))
 unfold Builtin.«set_iterator.__next__»
 refine wpAny_bind (m := slotArgs "__next__" 0 ⟨[.ref I],[]⟩) (wpAny_pure ?_)
 refine wpAny_bind (wpAny_fieldsOf hI rfl ?_)
 dsimp only
 refine wpAny_bind ?_
 unfold setEntries
 refine wpAny_bind (x.state (wpAny_pure ?_))
 rw [if_neg (by simp)]
 simp only [Int.toNat_natCast]
 refine wpAny_mono h (fun fin s' h' => ?_) fun e s' h' => ?_
 ·obtain ⟨v,rfl,q⟩ := h'
  exact ⟨v,rfl,wpAny_pure q⟩
 ·obtain ⟨⟨a,o,rfl,ho,hc⟩,q⟩ := h'
  exact wpAny_bind (wpAny_isInstance (T := "StopIteration") (b := true) ⟨o,ho,hc⟩ isSubtype_stop (wpAny_pure q))
end
end Jt
namespace Jt
open PySem
section
variable {prog:Program} {w:World} {A:Around} {E:Value -> Shared -> Prop} {s:Shared} {I S:Addr} {l:List (Int × Tok)} {ep:Nat} {t:SetTable} {i:Nat} {f0:Value}
theorem si_slot {Q:Option Value -> Shared -> Prop} {slot nx:Nat} {v:Value} (hIS:I ≠ S) (hI:SIt s.heap I S (.int slot 0) i l.length ep) (x:SetX w s.heap S l ep t)
  (hn:∀ (Q':Option (Value × Nat) -> Shared -> Prop) (E':Value -> Shared -> Prop),Q' (some (v,nx)) s -> wpAny (model prog w) A.in1 (setNext S slot i ep) Q' E' s)
  (hQ:∀ h',SIt h' I S (.int nx 0) (i + 1) l.length ep -> SetX w h' S l ep t -> (∀ b o,b ≠ I -> s.heap.get? b = some o -> h'.get? b = some o) -> Q (some v) { s with heap := h' }) :
  wpAny (model prog w) A (pyNext (.ref I)) Q E s:= by
 refine si_next hI x ?_
 dsimp only
 refine wpAny_bind (hn _ _ ?_)
 dsimp only
 refine wpAny_bind (wpAny_setField_rec hI (by simp) fun h1 hI1 sb1 => ?_)
 refine wpAny_bind (wpAny_setField_rec hI1 (by simp) fun h2 hI2 sb2 => wpAny_pure ⟨v,rfl,?_⟩)
 refine hQ h2 (by simpa [SIt,rawInt] using hI2) (x.at fun o e => ?_) fun b o hb e => ?_
 ·rw [sb2.2 S hIS.symm,sb1.2 S hIS.symm]; exact e
 ·rw [sb2.2 b hb,sb1.2 b hb]; exact e
theorem si_slot_end {Q:Option Value -> Shared -> Prop} {slot:Nat} (hh:A.handled = none) (hI:SIt s.heap I S (.int slot 0) i l.length ep) (x:SetX w s.heap S l ep t)
  (hn:∀ (Q':Option (Value × Nat) -> Shared -> Prop) (E':Value -> Shared -> Prop),Q' none s -> wpAny (model prog w) A.in1 (setNext S slot i ep) Q' E' s)
  (hQ:∀ h',(∀ b o,b ≠ I -> s.heap.get? b = some o -> h'.get? b = some o) -> Q none { s with heap := h' }) :
  wpAny (model prog w) A (pyNext (.ref I)) Q E s:= by
 refine si_next hI x ?_
 dsimp only
 refine wpAny_bind (hn _ _ ?_)
 dsimp only
 refine wpAny_bind (wpAny_setField_rec hI (by simp) fun h1 hI1 sb1 => ?_)
 refine stop_now (s := { s with heap := h1 }) hh fun h' e kp he => ?_
 obtain ⟨o,ho,hc⟩ := he
 refine ⟨⟨e,o,rfl,ho,hc⟩,hQ h' fun b o hb e => kp b o ?_⟩
 show h1.get? b = some o
 rw [sb1.2 b hb]; exact e
theorem si_draw {Q:Option Value -> Shared -> Prop} {T:Addr} {places:Array Value} {p:Nat} {v:Int × Tok} (hIS:I ≠ S) (hIT:I ≠ T) (hI:SIt s.heap I S (.ref T) i l.length ep) (x:SetX w s.heap S l ep t)
  (hT:s.heap.get? T = some { cls := .type "tuple",data := .seq places }) (hp:places[i]? = some (.int p 0)) (hv:l[p]? = some v)
  (hQ:∀ h',SIt h' I S (.ref T) (i + 1) l.length ep -> SetX w h' S l ep t -> (∀ b o,b ≠ I -> s.heap.get? b = some o -> h'.get? b = some o) -> Q (some (.int v.1 v.2)) { s with heap := h' }) :
  wpAny (model prog w) A (pyNext (.ref I)) Q E s:= by
 refine si_next hI x ?_
 dsimp only
 refine wpAny_bind (wpAny_seqItems hT rfl ?_)
 dsimp only
 rw [hp]
 dsimp only
 refine wpAny_bind ?_
 unfold setNextDrawn
 refine wpAny_bind (x.state ?_)
 dsimp only
 rw [if_neg (by simp)]
 have:(l.map eo).toArray[(p:Int).toNat]? = some (eo v) := by simp [hv]
 rw [this]
 refine wpAny_pure ?_
 refine wpAny_bind (wpAny_setField_rec hI (by simp) fun h1 hI1 sb1 => wpAny_pure ⟨_,rfl,?_⟩)
 refine hQ h1 (by simpa [SIt,rawInt] using hI1) (x.at fun o e => ?_) fun b o hb e => ?_
 ·rw [sb1.2 S hIS.symm]; exact e
 ·rw [sb1.2 b hb]; exact e
theorem si_draw_end {Q:Option Value -> Shared -> Prop} {T:Addr} {places:Array Value} (hh:A.handled = none) (hI:SIt s.heap I S (.ref T) i l.length ep) (x:SetX w s.heap S l ep t)
  (hT:s.heap.get? T = some { cls := .type "tuple",data := .seq places }) (hp:places[i]? = none)
  (hQ:∀ h',(∀ b o,b ≠ I -> s.heap.get? b = some o -> h'.get? b = some o) -> Q none { s with heap := h' }) :
  wpAny (model prog w) A (pyNext (.ref I)) Q E s:= by
 refine si_next hI x ?_
 dsimp only
 refine wpAny_bind (wpAny_seqItems hT rfl ?_)
 dsimp only
 rw [hp]
 dsimp only
 refine wpAny_bind (wpAny_setField_rec hI (by simp) fun h1 hI1 sb1 => ?_)
 refine wpAny_bind (wpAny_setField_rec hI1 (by simp) fun h2 hI2 sb2 => ?_)
 refine stop_now (s := { s with heap := h2 }) hh fun h' e kp he => ?_
 obtain ⟨o,ho,hc⟩ := he
 refine ⟨⟨e,o,rfl,ho,hc⟩,hQ h' fun b o hb e => kp b o ?_⟩
 show h2.get? b = some o
 rw [sb2.2 b hb,sb1.2 b hb]; exact e
theorem si_self {Q:Value -> Shared -> Prop} {n:Nat} (hI:SIt s.heap I S f0 i n ep) (h:Q (.ref I) s):wpAny (model prog w) A (pyIter (.ref I)) Q E s:= by
 have hT:s.TypeIs (.ref I) "set_iterator" := ⟨_,hI,rfl⟩
 refine wpAny_pyIter_slot hT sl_si_iter (wpAny_call_entry sl_si_iter hT en_si_iter ?_ (ar_si_iter _))
 show wpAny (model prog w) _ (ret (.ref I)) _ _ s
 exact wpAny_pure ⟨_,rfl,"set_iterator",_,hT,sl_si_next.lookup,h⟩
theorem erase_perm {α:Type}:∀ {l:List α} {i:Nat} (h:i < l.length),(l[i] :: l.eraseIdx i).Perm l
 | [],_,h => absurd h (Nat.not_lt_zero _)
 | x :: l,0,_ => List.Perm.refl _
 | x :: l,i + 1,h => by
  rw [List.getElem_cons_succ,List.eraseIdx_cons_succ]
  exact (List.Perm.swap _ _ _).trans ((erase_perm (l := l) (i := i) (by simpa using h)).cons x)
theorem pick_go {α:Type} (next:Nat -> Nat):∀ (fuel k:Nat) (left:List α) (out:Array α),fuel = left.length -> (pickOrder.go next fuel k left out).toList.Perm (out.toList ++ left):= by
 intro fuel
 induction fuel with
 | zero =>
  intro k left out h
  have:left = [] := List.eq_nil_of_length_eq_zero h.symm
  subst this
  unfold pickOrder.go
  simp
 | succ fuel ih =>
  intro k left out h
  unfold pickOrder.go
  have hl:next k % left.length < left.length := Nat.mod_lt _ (by omega)
  rw [List.getElem?_eq_getElem hl]
  dsimp only
  refine (ih _ _ _ (by rw [List.length_eraseIdx]; split <;> omega)).trans ?_
  rw [Array.toList_push,List.append_assoc]
  refine List.Perm.append_left _ ?_
  exact (erase_perm hl)
theorem pick_perm {α:Type} (next:Nat -> Nat) (xs:Array α):(pickOrder next xs).toList.Perm xs.toList:= by
 unfold pickOrder
 have := pick_go next xs.size 0 xs.toList #[] (by simp)
 simpa using this
theorem draw_order {M:Model} {Q:List Nat -> Shared -> Prop}:∀ (n:Nat) (xs:List Nat) (s:Shared),n = xs.length -> (∀ ys d,ys.Perm xs -> Q ys { s with drawn := d }) -> wpAny M A (drawOrder n xs) Q E s:= by
 intro n
 induction n generalizing Q with
 | zero =>
  intro xs s h hQ
  have:xs = [] := List.eq_nil_of_length_eq_zero h.symm
  subst this
  exact wpAny_pure (hQ [] s.drawn (List.Perm.refl _))
 | succ n ih =>
  intro xs s h hQ
  cases xs with
  | nil => cases h
  | cons x xs =>
   unfold drawOrder
   refine wpAny_bind (fun Γ p hΓ => ?_)
   rw [show choose Source.order (x :: xs).length = Sem.choose Source.order (x :: xs).length Sem.pure from rfl,Sem.wp_choose]
   refine ⟨by simp,?_⟩
   rw [Sem.wp_pure]
   have hl:M.w.draws Source.order (s.drawn.get Source.order) % (x :: xs).length < (x :: xs).length := Nat.mod_lt _ (by simp)
   dsimp only
   rw [List.getElem?_eq_getElem hl]
   dsimp only
   refine wpAny_bind (ih _ _ (by rw [List.length_eraseIdx]; split <;> (simp at h ⊢; omega)) fun ys d py => wpAny_pure ?_)
   exact hQ _ d ((py.cons _).trans (erase_perm hl))
end
end Jt
namespace Jt
open PySem
section
variable {prog:Program} {w:World} {A:Around} {E:Value -> Shared -> Prop} {s:Shared} {I S:Addr} {l:List (Int × Tok)} {ep:Nat} {t:SetTable} {i:Nat} {f0:Value}
theorem by_text {Q:Bool -> Shared -> Prop} (h:Q (w.params.followText "set-order") s):wpAny (model prog w) A setsByText Q E s:= by
 unfold setsByText
 exact wpAny_bind (wpAny_askSetting (wpAny_pure h))
theorem set_drawn {Q:Bool -> Shared -> Prop} (x:SetX w s.heap S l ep t) (h:Q (!w.params.followText "set-order" && (!t.plain && decide (l.length > 1))) s):wpAny (model prog w) A (setDrawn S) Q E s:= by
 unfold setDrawn
 refine wpAny_bind (x.state ?_)
 refine wpAny_bind (by_text ?_)
 have e:(l.map eo).toArray.size = l.length := by simp
 rw [<- e] at h
 exact wpAny_pure h
theorem next_text {Q:Option (Value × Nat) -> Shared -> Prop} {slot:Nat} (hw:w.params.followText "set-order" = true) (x:SetX w s.heap S l ep t) (h:Q (((pickOrder (w.params.setOrder S ep) (l.map eo).toArray)[i]?).map fun e => (e.2,slot)) s) :
  wpAny (model prog w) A (setNext S slot i ep) Q E s:= by
 unfold setNext
 refine wpAny_bind (x.state ?_)
 dsimp only
 refine wpAny_bind (by_text ?_)
 rw [hw,if_pos rfl,if_neg (by simp)]
 refine wpAny_bind ?_
 unfold setWalk
 refine wpAny_bind (x.state ?_)
 dsimp only
 refine wpAny_bind (by_text ?_)
 rw [hw,if_pos rfl]
 exact wpAny_bind (wpAny_askSetting (wpAny_pure (wpAny_pure h)))
theorem next_place {Q:Option (Value × Nat) -> Shared -> Prop} {slot:Nat} (hw:w.params.followText "set-order" = false) (hd:(!t.plain && decide (l.length > 1)) = false) (x:SetX w s.heap S l ep t)
  (h:Q (match (l.map eo).toArray[SetTable.below t.place slot]?,t.place[SetTable.below t.place slot]? with
   | some (_,x),some j => some (x,j + 1)
   | _,_ => none) s):wpAny (model prog w) A (setNext S slot i ep) Q E s:= by
 unfold setNext
 refine wpAny_bind (x.state ?_)
 dsimp only
 refine wpAny_bind (by_text ?_)
 rw [hw,if_neg Bool.false_ne_true]
 have e:(l.map eo).toArray.size = l.length := by simp
 rw [<- e] at hd
 refine (show ∀ {b:Bool} {m k:Sem (Option (Value × Nat))},b = false -> wpAny (model prog w) A k Q E s -> wpAny (model prog w) A (if b = true then m else k) Q E s from fun hb hk => by rw [hb,if_neg Bool.false_ne_true]; exact hk) hd ?_
 refine wpAny_bind ?_
 have hl:t.led = true := by rw [x.led,hw]; rfl
 refine (show ∀ {b:Bool} {m k:Sem PUnit} {Q':PUnit -> Shared -> Prop},b = false -> wpAny (model prog w) A k Q' E s -> wpAny (model prog w) A (if b = true then m else k) Q' E s from fun hb hk => by rw [hb,if_neg Bool.false_ne_true]; exact hk) (show (!t.led && !(l.map eo).toArray.isEmpty) = false by rw [hl]; rfl) ?_
 exact wpAny_pure (wpAny_pure h)
noncomputable def Yields (prog:Program) (w:World) (I S:Addr) (l:List (Int × Tok)) (h':Heap) (top:Addr):Prop :=
 ∃ (ord:List (Int × Tok)) (fp:List Addr) (St:Nat -> Heap -> Prop),ord.Perm l ∧ (∀ A:Around,A.handled = none -> Walks prog w A I fp [I] l.length (fun i v => ∃ p,ord[i]? = some p ∧ v = .int p.1 p.2) St) ∧ St 0 h' ∧
  (∀ i h,St i h -> ∃ o,h.get? I = some o ∧ o.cls = .type "set_iterator") ∧ I ∈ fp ∧ ∀ b ∈ fp,b < h'.objs.size ∧ (b = S ∨ top ≤ b)
theorem yields_text {h':Heap} {top:Addr} (hw:w.params.followText "set-order" = true) (hIS:I ≠ S) (ht:top ≤ I) (hI:SIt h' I S (.int 0 0) 0 l.length ep) (x:SetX w h' S l ep t):Yields prog w I S l h' top:= by
 have p0 := pick_perm (w.params.setOrder S ep) (l.map eo).toArray
 rw [show (l.map eo).toArray.toList = l.map eo by simp] at p0
 obtain ⟨ord,eord,pord⟩ := eo_perm p0
 have eg:∀ i:Nat,(pickOrder (w.params.setOrder S ep) (l.map eo).toArray)[i]? = (ord[i]?).map eo := fun i => by
  rw [<- Array.getElem?_toList,eord,List.getElem?_map]
 have hlen:ord.length = l.length := pord.length_eq
 refine ⟨ord,[I,S],fun i h => SIt h I S (.int 0 0) i l.length ep ∧ SetX w h S l ep t,pord,fun A hh => ⟨?_,?_,?_,?_,?_⟩,⟨hI,x⟩,fun i h st => ⟨_,st.1,rfl⟩,by simp,fun b hb => ?_⟩
 ·intro b hb
  rw [List.mem_singleton.mp hb]; simp
 ·intro i h h2 st k
  exact ⟨k I (by simp) _ st.1,st.2.at fun o e => k S (by simp) o e⟩
 ·intro i s Q E hi st hQ
  have hx:ord[i]? = some ord[i] := List.getElem?_eq_getElem (by omega)
  refine si_slot (v := .int ord[i].1 ord[i].2) (nx := 0) hIS st.1 st.2 (fun Q' E' q => next_text hw st.2 ?_) fun h2 a1 a2 a3 => hQ _ h2 s.toks ⟨_,hx,rfl⟩ ⟨a1,a2⟩ fun b o hb e => a3 b o (fun z => hb (by rw [z]; simp)) e
  rw [eg,hx]; exact q
 ·intro s Q E st hQ
  refine si_slot_end hh st.1 st.2 (fun Q' E' q => next_text hw st.2 ?_) fun h2 a3 => hQ h2 s.toks fun b o hb e => a3 b o (fun z => hb (by rw [z]; simp)) e
  rw [eg,List.getElem?_eq_none (by omega)]; exact q
 ·intro i s Q E st hQ
  exact si_self st.1 hQ
 ·rcases List.mem_cons.mp hb with e | hb
  ·rw [e]; exact ⟨Heap.lt_size hI,.inr ht⟩
  ·rw [List.mem_singleton.mp hb]
   obtain ⟨o,ho,_⟩ := x.obj
   exact ⟨Heap.lt_size ho,.inl rfl⟩
theorem below_next {xs:Array Nat} (u:Up xs) {i j:Nat} (h:xs[i]? = some j):SetTable.below xs (j + 1) = i + 1:= by
 obtain ⟨b0,b1,b2⟩ := below_ok u (j + 1)
 have h1:i < SetTable.below xs (j + 1):= by
  rcases Nat.lt_or_ge i (SetTable.below xs (j + 1)) with q | q
  ·exact q
  ·have := b2 i j q h; omega
 rcases Nat.lt_or_ge (i + 1) (SetTable.below xs (j + 1)) with q | q
 ·have hs:i + 1 < xs.size := by omega
  have e2:xs[i + 1]? = some xs[i + 1] := by simp [hs]
  have a1 := b1 (i + 1) _ q e2
  have a2 := u.lt (Nat.lt_succ_self i) h e2
  omega
 ·omega
theorem below_zero {xs:Array Nat} (u:Up xs):SetTable.below xs 0 = 0:= by
 obtain ⟨b0,b1,b2⟩ := below_ok u 0
 rcases Nat.eq_zero_or_pos (SetTable.below xs 0) with q | q
 ·exact q
 ·have e2:xs[0]? = some xs[0] := by simp
  have := b1 0 _ q e2
  omega
theorem yields_place {h':Heap} {top:Addr} (hw:w.params.followText "set-order" = false) (hd:(!t.plain && decide (l.length > 1)) = false) (hIS:I ≠ S) (ht:top ≤ I) (hI:SIt h' I S (.int 0 0) 0 l.length ep) (x:SetX w h' S l ep t):Yields prog w I S l h' top:= by
 have hsz:t.place.size = l.length:= by
  have := x.fits
  simp only [SetTable.fits,Bool.and_eq_true,beq_iff_eq] at this
  exact this.1
 have u:Up t.place:= by
  cases hp:t.plain with
  | true => exact x.tb hp
  | false =>
   rw [hp] at hd
   have hl:¬ l.length > 1 := by simpa using hd
   unfold Up
   have hlt:t.place.toList.length ≤ 1 := by rw [Array.length_toList]; omega
   generalize t.place.toList = q at hlt
   match q,hlt with
   | [],_ => exact List.Pairwise.nil
   | [_],_ => exact List.pairwise_singleton _ _
   | _ :: _ :: _,h => simp at h
 refine ⟨l,[I,S],fun i h => ∃ slot:Nat,SIt h I S (.int slot 0) i l.length ep ∧ SetX w h S l ep t ∧ SetTable.below t.place slot = i,List.Perm.refl _,fun A hh => ⟨?_,?_,?_,?_,?_⟩,⟨0,hI,x,below_zero u⟩,fun i h ⟨_,st,_⟩ => ⟨_,st,rfl⟩,by simp,fun b hb => ?_⟩
 ·intro b hb
  rw [List.mem_singleton.mp hb]; simp
 ·rintro i h h2 ⟨slot,st1,st2,st3⟩ k
  exact ⟨slot,k I (by simp) _ st1,st2.at fun o e => k S (by simp) o e,st3⟩
 ·rintro i s Q E hi ⟨slot,st1,st2,st3⟩ hQ
  have hx:l[i]? = some l[i] := List.getElem?_eq_getElem hi
  have hp:t.place[i]? = some t.place[i] := by simp [hsz,hi]
  refine si_slot (v := .int l[i].1 l[i].2) (nx := t.place[i] + 1) hIS st1 st2 (fun Q' E' q => next_place hw hd st2 ?_) fun h2 a1 a2 a3 => hQ _ h2 s.toks ⟨_,hx,rfl⟩ ⟨_,a1,a2,below_next u hp⟩ fun b o hb e => a3 b o (fun z => hb (by rw [z]; simp)) e
  have e1:(l.map eo).toArray[i]? = some (eo l[i]) := by simp [hi]
  rw [st3,e1,hp]; exact q
 ·rintro s Q E ⟨slot,st1,st2,st3⟩ hQ
  refine si_slot_end hh st1 st2 (fun Q' E' q => next_place hw hd st2 ?_) fun h2 a3 => hQ h2 s.toks fun b o hb e => a3 b o (fun z => hb (by rw [z]; simp)) e
  have e1:(l.map eo).toArray[l.length]? = none := by simp
  rw [st3,e1]; exact q
 ·rintro i s Q E ⟨slot,st1,st2,st3⟩ hQ
  exact si_self st1 hQ
 ·rcases List.mem_cons.mp hb with e | hb
  ·rw [e]; exact ⟨Heap.lt_size hI,.inr ht⟩
  ·rw [List.mem_singleton.mp hb]
   obtain ⟨o,ho,_⟩ := x.obj
   exact ⟨Heap.lt_size ho,.inl rfl⟩
theorem yields_draw {h':Heap} {top T:Addr} {ys:List Nat} (hp:ys.Perm (List.range l.length)) (hIS:I ≠ S) (hIT:I ≠ T) (ht:top ≤ I) (htT:top ≤ T) (hI:SIt h' I S (.ref T) 0 l.length ep) (x:SetX w h' S l ep t)
  (hT:h'.get? T = some { cls := .type "tuple",data := .seq (ys.map fun (i:Nat) => rawInt i).toArray }):Yields prog w I S l h' top:= by
 have hyl:ys.length = l.length := by rw [hp.length_eq,List.length_range]
 have hin:∀ y ∈ ys,y < l.length := fun y hy => List.mem_range.mp (hp.mem_iff.mp hy)
 have hpo:(ys.filterMap fun i => l[i]?).Perm l := (hp.filterMap _).trans (by rw [List.filterMap_getElem?_range_length])
 have eg:∀ i (h:i < ys.length),(ys.filterMap fun i => l[i]?)[i]? = l[ys[i]]?:= by
  have gen:∀ (zs:List Nat),(∀ y ∈ zs,y < l.length) -> ∀ i (h:i < zs.length),(zs.filterMap fun i => l[i]?)[i]? = l[zs[i]]?:= by
   intro zs
   induction zs with
   | nil => intro _ i h; exact absurd h (Nat.not_lt_zero _)
   | cons z zs ih =>
    intro hz i h
    have hzl:z < l.length := hz z List.mem_cons_self
    have e1:l[z]? = some l[z] := List.getElem?_eq_getElem hzl
    rw [List.filterMap_cons_some e1]
    cases i with
    | zero => simp [e1]
    | succ i => simpa using ih (fun y hy => hz y (List.mem_cons_of_mem _ hy)) i (by simpa using h)
  exact gen ys hin
 refine ⟨ys.filterMap fun i => l[i]?,[I,S,T],fun i h => SIt h I S (.ref T) i l.length ep ∧ SetX w h S l ep t ∧ h.get? T = some { cls := .type "tuple",data := .seq (ys.map fun (i:Nat) => rawInt i).toArray },hpo,fun A hh => ⟨?_,?_,?_,?_,?_⟩,⟨hI,x,hT⟩,fun i h st => ⟨_,st.1,rfl⟩,by simp,fun b hb => ?_⟩
 ·intro b hb
  rw [List.mem_singleton.mp hb]; simp
 ·rintro i h h2 ⟨st1,st2,st3⟩ k
  exact ⟨k I (by simp) _ st1,st2.at fun o e => k S (by simp) o e,k T (by simp) _ st3⟩
 ·rintro i s Q E hi ⟨st1,st2,st3⟩ hQ
  have hi':i < ys.length := by omega
  have hyi:ys[i] < l.length := hin _ (List.getElem_mem hi')
  have hx:l[ys[i]]? = some l[ys[i]] := List.getElem?_eq_getElem hyi
  refine si_draw hIS hIT st1 st2 st3 (p := ys[i]) (by simp [hi',rawInt]) hx fun h2 a1 a2 a3 => hQ _ h2 s.toks ⟨_,(eg i hi').trans hx,rfl⟩ ⟨a1,a2,a3 T _ (fun z => hIT z.symm) st3⟩ fun b o hb e => a3 b o (fun z => hb (by rw [z]; simp)) e
 ·rintro s Q E ⟨st1,st2,st3⟩ hQ
  exact si_draw_end hh st1 st2 st3 (by simp [hyl]) fun h2 a3 => hQ h2 s.toks fun b o hb e => a3 b o (fun z => hb (by rw [z]; simp)) e
 ·rintro i s Q E ⟨st1,st2,st3⟩ hQ
  exact si_self st1 hQ
 ·rcases List.mem_cons.mp hb with e | hb
  ·rw [e]; exact ⟨Heap.lt_size hI,.inr ht⟩
  ·rcases List.mem_cons.mp hb with e | hb
   ·rw [e]
    obtain ⟨o,ho,_⟩ := x.obj
    exact ⟨Heap.lt_size ho,.inl rfl⟩
   ·rw [List.mem_singleton.mp hb]
    exact ⟨Heap.lt_size hT,.inr htT⟩
theorem iter_setX {Q:Value -> Shared -> Prop} (x:SetX w s.heap S l ep t)
  (h:∀ (I:Addr) (h':Heap) (d:Drawn),(∀ b o,s.heap.get? b = some o -> h'.get? b = some o) -> s.heap.objs.size ≤ I -> Yields prog w I S l h' s.heap.objs.size -> Q (.ref I) { s with heap := h',drawn := d }) :
  wpAny (model prog w) A (pyIter (.ref S)) Q E s:= by
 have hS:S < s.heap.objs.size := by obtain ⟨o,ho,_⟩ := x.obj; exact Heap.lt_size ho
 refine wpAny_pyIter_slot x.ty F.slot_set_iter (wpAny_call_entry F.slot_set_iter x.ty en_set_iter ?_ (F.args_set_iter_1 _))
 unfold Builtin.«frozenset.__iter__»
 refine wpAny_bind (m := Builtin.Frozenset.slot0 "__iter__" ⟨[.ref S],[]⟩) (wpAny_pure ?_)
 refine wpAny_bind ?_
 unfold Builtin.Frozenset.sizeOf setEntries
 refine wpAny_bind (wpAny_bind (x.state (wpAny_pure (wpAny_pure ?_))))
 have ez:(l.map eo).toArray.size = l.length := by simp
 rw [ez]
 refine wpAny_bind (set_drawn x ?_)
 by_cases hb:(!w.params.followText "set-order" && (!t.plain && decide (l.length > 1))) = true
 ·rw [if_pos hb]
  refine wpAny_bind (draw_order l.length (List.range l.length) s (by simp) fun ys d py => ?_)
  have hyl:ys.length = l.length := by rw [py.length_eq,List.length_range]
  refine wpAny_bind (wpAny_newTuple ?_ (by rw [List.length_map,hyl]; exact fits_of_scanBound x.few))
  have x2:SetX w (s.heap.push { cls := .type "tuple",data := .seq (ys.map fun (i:Nat) => rawInt i).toArray }) S l ep t := x.at fun o e => Heap.get?_push_of_some _ e
  refine wpAny_bind ?_
  unfold setEpoch
  refine wpAny_bind (SetX.state (s := { s with drawn := d,heap := s.heap.push { cls := .type "tuple",data := .seq (ys.map fun (i:Nat) => rawInt i).toArray } }) x2 (wpAny_pure ?_))
  refine wpAny_bind (wpAny_newObj_type (wpAny_pure ⟨_,rfl,"set_iterator",_,⟨_,Heap.get?_push_size _ rfl,rfl⟩,sl_si_next.lookup,?_⟩))
  refine h _ _ d (fun b o e => Heap.get?_push_of_some _ (Heap.get?_push_of_some _ e)) (by show s.heap.objs.size ≤ (s.heap.push _).objs.size; rw [Heap.size_push]; exact Nat.le_succ _) ?_
  refine yields_draw (t := t) py (fun z => ?_) (fun z => ?_) ?_ (Nat.le_refl _) (Heap.get?_push_size _ rfl) (x2.at fun o e => Heap.get?_push_of_some _ e) (Heap.get?_push_of_some _ (Heap.get?_push_size _ rfl))
  ·rw [<- z] at hS
   have hS':(s.heap.push { cls := .type "tuple",data := .seq (ys.map fun (i:Nat) => rawInt i).toArray }).objs.size < s.heap.objs.size := hS
   rw [Heap.size_push] at hS'
   exact absurd hS' (Nat.not_lt.mpr (Nat.le_succ _))
  ·have z':(s.heap.push { cls := .type "tuple",data := .seq (ys.map fun (i:Nat) => rawInt i).toArray }).objs.size = s.heap.objs.size := z
   rw [Heap.size_push] at z'
   exact Nat.succ_ne_self _ z'
  ·show s.heap.objs.size ≤ (s.heap.push _).objs.size
   rw [Heap.size_push]; exact Nat.le_succ _
 ·rw [if_neg hb]
  refine wpAny_bind (wpAny_pure ?_)
  refine wpAny_bind ?_
  unfold setEpoch
  refine wpAny_bind (x.state (wpAny_pure ?_))
  refine wpAny_bind (wpAny_newObj_type (wpAny_pure ⟨_,rfl,"set_iterator",_,⟨_,Heap.get?_push_size _ rfl,rfl⟩,sl_si_next.lookup,?_⟩))
  refine h _ _ s.drawn (fun b o e => Heap.get?_push_of_some _ e) (Nat.le_refl _) ?_
  have x2:SetX w (s.heap.push { cls := .type "set_iterator",data := .fields [rawInt 0,rawInt 0,.ref S,rawInt l.length,rawInt ep].toArray }) S l ep t := x.at fun o e => Heap.get?_push_of_some _ e
  cases hw:w.params.followText "set-order" with
  | true => exact yields_text hw (fun z => Nat.lt_irrefl _ (z ▸ hS)) (Nat.le_refl _) (Heap.get?_push_size _ rfl) x2
  | false =>
   rw [hw] at hb
   exact yields_place hw (by simpa using hb) (fun z => Nat.lt_irrefl _ (z ▸ hS)) (Nat.le_refl _) (Heap.get?_push_size _ rfl) x2
end
end Jt
namespace Jt
open PySem
section
variable {prog:Program} {w:World} {A:Around} {E:Value -> Shared -> Prop} {s:Shared} {I S:Addr} {l:List (Int × Tok)} {ep:Nat} {t:SetTable}
theorem hint_set {Q:Bool -> Shared -> Prop} (x:SetX w s.heap S l ep t) (h:Q false s):wpAny (model prog w) A (Builtin.List.listLengthHint (.ref S)) Q E s:= by
 unfold Builtin.List.listLengthHint
 refine wpAny_bind (wpAny_specialOf x.ty F.slot_set_len.lookup ?_)
 generalize hid:("set.__len__":String) = id0
 wp_delta
 rw [show splitId id0 = some ("set","__len__") from by subst hid; decide +kernel]
 subst hid
 refine wpAny_bind (wpAny_isInstance (T := "set") (b := true) x.ty (by rw [isSubtype_type]; kernel_rfl) ?_)
 refine wpAny_ite_split (fun hab => absurd hab (by decide)) (fun _ => ?_)
 refine wpAny_ite_split (fun _ => ?_) (fun hab => absurd (by decide +kernel) hab)
 exact wpAny_bind (wpAny_typeOf x.ty (wpAny_pure h))
theorem ints_of {ord:List (Int × Tok)} {acc:Array Value} (h:ItemsOf (fun i v => ∃ p,ord[i]? = some p ∧ v = .int p.1 p.2) acc ord.length):acc.toList = ord.map fun p => Value.int p.1 p.2:= by
 refine List.ext_getElem? fun i => ?_
 rw [List.getElem?_map]
 by_cases hi:i < acc.size
 ·have e:acc[i]? = some acc[i] := by simp [hi]
  obtain ⟨p,h1,h2⟩ := h.2 i _ e
  rw [Array.getElem?_toList,e,h1,h2]; rfl
 ·rw [Array.getElem?_toList,Array.getElem?_eq_none (by omega),List.getElem?_eq_none (by have := h.1; omega)]; rfl
theorem collect_setX {Q:List Value -> Shared -> Prop} (hh:A.handled = none) (x:SetX w s.heap S l ep t)
  (h:∀ (ord:List (Int × Tok)) (h':Heap) (tk:Nat) (d:Drawn),ord.Perm l -> (∀ b o,s.heap.get? b = some o -> h'.get? b = some o) -> Q (ord.map fun p => Value.int p.1 p.2) { s with heap := h',toks := tk,drawn := d }) :
  wpAny (model prog w) A (collect (.ref S)) Q E s:= by
 have hSlt:S < s.heap.objs.size := by obtain ⟨o,ho,_⟩ := x.obj; exact Heap.lt_size ho
 unfold collect
 refine wpAny_bind (wpAny_runValue (codeAny_builtin F.entry_proto_collect ?_))
 rw [Around.under_plainId F.plain_proto_collect _]
 show wpAny (model prog w) A.in1 (newList [] >>= fun l => again (.builtin "list.__iadd__" ⟨[l,.ref S],[]⟩)) _ _ s
 refine wpAny_bind (wpAny_newObj_type (wpAny_pure ⟨plainId_quiet F.plain_list_iadd _,codeAny_builtin F.entry_list_iadd ?_⟩))
 rw [Around.under_plainId F.plain_list_iadd _]
 have g1:(s.heap.push { cls := .type "list",data := .seq ([]:List Value).toArray }).get? s.heap.objs.size = some { cls := .type "list",data := .seq ([]:List Value).toArray } := Heap.get?_push_size _ rfl
 have x1:SetX w (s.heap.push { cls := .type "list",data := .seq ([]:List Value).toArray }) S l ep t := x.at fun o e => Heap.get?_push_of_some _ e
 have hsr:Builtin.List.listSameRef (.ref s.heap.objs.size) (.ref S) = false:= by
  show (s.heap.objs.size == S) = false
  simp only [beq_eq_false_iff_ne]
  exact Nat.ne_of_gt hSlt
 show wpAny (model prog w) A.in1 (Builtin.List.listExtendWith (.ref s.heap.objs.size) (.ref S) (.ref s.heap.objs.size)) _ _ _
 unfold Builtin.List.listExtendWith
 refine wpAny_bind (wpAny_typeOf (SetX.ty (s := { s with heap := s.heap.push { cls := .type "list",data := .seq ([]:List Value).toArray } }) x1) ?_)
 have h2:(Value.type "set" == Value.type "list") = false := by decide
 have h3:(Value.type "set" == Value.type "tuple") = false := by decide
 simp only [hsr,h2,h3,Bool.or_false,Bool.false_eq_true,if_false]
 refine wpAny_bind (iter_setX (s := { s with heap := s.heap.push { cls := .type "list",data := .seq ([]:List Value).toArray } }) x1 fun I h1 d kp hI Y => ?_)
 have x2:SetX w h1 S l ep t := x1.at fun o e => kp S o e
 refine wpAny_bind (wpAny_holding (hint_set (s := { s with heap := h1,drawn := d }) x2 ?_))
 refine wpAny_ite_split (fun _ => ?_) (fun hab => absurd (by decide +kernel) hab)
 refine wpAny_bind (wpAny_rule (wpAny_bind ?_))
 have g2 := kp _ _ g1
 show wpAny (model prog w) A.in1 (updateSeq s.heap.objs.size (·.push .none) >>= fun _ => updateSeq s.heap.objs.size (·.pop)) _ _ { s with heap := h1,drawn := d }
 refine wpAny_bind (wpAny_updateSeq (s := { s with heap := h1,drawn := d }) g2 rfl ?_)
 have g3 := Heap.get?_update_self (Obj.mapSeq (·.push Value.none)) g2 rfl
 refine wpAny_updateSeq (s := { s with heap := h1.update s.heap.objs.size (Obj.mapSeq (·.push Value.none)),drawn := d }) g3 rfl ?_ (hz := by seq_fits)
 have g4 := Heap.get?_update_self (Obj.mapSeq (·.pop)) g3 rfl
 obtain ⟨ord,fp,St,po,W,st0,hT,hIf,hfp⟩ := Y
 have hSf:s.heap.objs.size ∉ fp := fun hm => by
  obtain ⟨_,h6⟩ := hfp _ hm
  rcases h6 with e | e
  ·rw [e] at hSlt; exact Nat.lt_irrefl _ hSlt
  ·have e':(s.heap.push { cls := .type "list",data := .seq ([]:List Value).toArray }).objs.size ≤ s.heap.objs.size := e
   rw [Heap.size_push] at e'
   exact Nat.not_succ_le_self _ e'
 have oth:∀ b o,b ≠ s.heap.objs.size -> h1.get? b = some o -> ((h1.update s.heap.objs.size (Obj.mapSeq (·.push Value.none))).update s.heap.objs.size (Obj.mapSeq (·.pop))).get? b = some o := fun b o hb e => by
  rw [Heap.get?_update_other _ _ (Ne.symm hb),Heap.get?_update_other _ _ (Ne.symm hb)]; exact e
 have hlen:ord.length = l.length := po.length_eq
 have st1:St 0 ((h1.update s.heap.objs.size (Obj.mapSeq (·.push Value.none))).update s.heap.objs.size (Obj.mapSeq (·.pop))) := (W A.in1 hh).frame 0 h1 _ st0 fun b hb o e => oth b o (fun z => hSf (z ▸ hb)) e
 refine wpAny_pure ⟨plainId_quiet F.plain_extend_loop _,codeAny_extend_loopS (W A.in1 hh).toS (fits_of_scanBound x.few) _ hSf _ l.length 0 { s with heap := (h1.update s.heap.objs.size (Obj.mapSeq (·.push Value.none))).update s.heap.objs.size (Obj.mapSeq (·.pop)),drawn := d } #[] _ rfl (Nat.zero_le _) st1 g4 (ItemsOf.nil _) fun s' acc' c' hm hS' hacc => ?_⟩
 show wpAny (model prog w) A (load s.heap.objs.size >>= _) _ _ s'
 refine wpAny_bind (wpAny_load hS' (wpAny_pure ?_))
 rw [<- hlen] at hacc
 rw [ints_of hacc,Moved.eq_with hm]
 refine h ord s'.heap s'.toks d po fun b o e => ?_
 have hb := Heap.lt_size e
 refine hm.heap b o (fun hmem => ?_) (oth b o (Nat.ne_of_lt hb) (kp b o (Heap.get?_push_of_some _ e)))
 rcases List.mem_cons.mp hmem with e' | hmem
 ·rw [e'] at hb; exact Nat.lt_irrefl _ hb
 ·have e' := List.mem_singleton.mp hmem
  have hI':(s.heap.push { cls := .type "list",data := .seq ([]:List Value).toArray }).objs.size ≤ I := hI
  rw [Heap.size_push] at hI'
  exact absurd hb (Nat.not_lt.mpr (Nat.le_of_succ_le (e' ▸ hI')))
theorem sorted_from {v:Value} {ns:List Int} {Q:Value -> Shared -> Prop}
  (hc:∀ (A':Around) (Q':List Value -> Shared -> Prop) (E':Value -> Shared -> Prop),(A'.handled = A.handled) -> (∀ (vs:List Value) (ms:List Int) (h':Heap) (tk:Nat) (d:Drawn),PyProof.Rows.IntsAre vs ms -> ms.Perm ns -> (∀ b o,s.heap.get? b = some o -> h'.get? b = some o) -> Q' vs { s with heap := h',toks := tk,drawn := d }) ->
   wpAny (model prog w) A' (collect v) Q' E' s) (h64:ns.length < 64)
  (h:∀ (h1 h':Heap) (tk:Nat) (d:Drawn) (out:List Value) (ms:List Int) (e:Nat),(∀ b o,s.heap.get? b = some o -> h1.get? b = some o) -> (∀ b o,h1.get? b = some o -> h'.get? b = some o) -> h'.get? h1.objs.size = some { cls := .type "list",data := .seq out.toArray e } ->
   PyProof.Rows.IntsAre out ms -> ms.Perm ns -> ms.Pairwise (· ≤ ·) -> Q (.ref h1.objs.size) { s with heap := h',toks := tk,drawn := d }) :
  wpAny (model prog w) A (call (.builtin "sorted") [v]) Q E s:= by
 refine Calls.call_function_entry PyProof.Rows.kind_sorted PyProof.Rows.plain_sorted PyProof.Rows.entry_sorted (PyProof.Rows.args_sorted1 _) ?_
 unfold Builtin.«sorted»
 refine wpAny_bind (m := checkCount "sorted" 1 1 _) (wpAny_pure ?_)
 refine wpAny_bind (hc _ _ _ (by simp) fun vs ms h1 tk d hi pm kp => ?_)
 have hl:vs.length = ns.length := by rw [hi.length,pm.length_eq]
 refine wpAny_bind (wpAny_newList ?_ (by rw [hl,sizeLine_eq]; omega))
 have g1:(h1.push (PyProof.Rows.seqObj "list" vs.toArray 0)).get? h1.objs.size = some (PyProof.Rows.seqObj "list" vs.toArray 0) := Heap.get?_push_size _ rfl
 refine wpAny_bind (wpAny_holding (wpAny_call_entry PyProof.Rows.slot_list_sort ⟨_,g1,rfl⟩ PyProof.Rows.entry_list_sort (PyProof.Rows.list_sort_tree (s := { s with heap := h1.push (PyProof.Rows.seqObj "list" vs.toArray 0),toks := tk,drawn := d }) g1 hi (by omega) fun out ms' a1 a2 a3 => ⟨_,rfl,?_⟩) (PyProof.Rows.args_list_sort _)))
 obtain ⟨e,he⟩ := PyProof.Rows.sortedHeap_at (out := out) g1
 refine wpAny_pure ⟨_,rfl,h h1 _ tk d out.toList ms' e kp (fun b o eb => ?_) (by simpa [PyProof.Rows.seqObj] using he) a1 (a2.trans pm) a3⟩
 have hb := Heap.lt_size eb
 show (PyProof.Rows.sortedHeap (h1.push (PyProof.Rows.seqObj "list" vs.toArray 0)) h1.objs.size vs out).get? b = some o
 rw [PyProof.Rows.sortedHeap_old (Nat.ne_of_lt hb) (by rw [Heap.size_push]; exact Nat.lt_succ_of_lt hb)]
 exact Heap.get?_push_of_some _ eb
end
end Jt
namespace Jt
open PySem
noncomputable def SqA (b:Bool) (h:Heap) (q:Addr) (xs:Array Value):Prop := match b with
 | true => h.IsTuple q xs
 | false => h.IsList q xs
noncomputable def SqI (b:Bool) (h:Heap) (it q:Addr) (k:Nat):Prop := match b with
 | true => h.IsTupleIter it q k
 | false => h.IsListIter it q k
noncomputable def itObj (b:Bool) (q:Addr):Obj := { cls := .type (if b then "tuple_iterator" else "list_iterator"),data := .fields #[.ref q,.int 0 0] }
section
variable {prog:Program} {w:World} {A:Around} {E:Value -> Shared -> Prop} {s:Shared} {b:Bool} {it q:Addr} {k:Nat} {xs:Array Value}
theorem SqA.at {h h':Heap} (x:SqA b h q xs) (e:∀ o,h.get? q = some o -> h'.get? q = some o):SqA b h' q xs:= by
 cases b with
 | true => obtain ⟨o,ho,r⟩ := x; exact ⟨o,e o ho,r⟩
 | false => obtain ⟨o,ho,r⟩ := x; exact ⟨o,e o ho,r⟩
theorem SqI.at {h h':Heap} (x:SqI b h it q k) (e:∀ o,h.get? it = some o -> h'.get? it = some o):SqI b h' it q k:= by
 cases b with
 | true => obtain ⟨o,ho,r⟩ := x; exact ⟨o,e o ho,r⟩
 | false => obtain ⟨o,ho,r⟩ := x; exact ⟨o,e o ho,r⟩
theorem SqI.lt {h:Heap} (x:SqI b h it q k):it < h.objs.size:= by
 cases b with
 | true => obtain ⟨o,ho,r⟩ := x; exact Heap.lt_size ho
 | false => obtain ⟨o,ho,r⟩ := x; exact Heap.lt_size ho
theorem SqA.lt {h:Heap} (x:SqA b h q xs):q < h.objs.size:= by
 cases b with
 | true => obtain ⟨o,ho,r⟩ := x; exact Heap.lt_size ho
 | false => obtain ⟨o,ho,r⟩ := x; exact Heap.lt_size ho
theorem iter_sq {Q:Value -> Shared -> Prop} (x:SqA b s.heap q xs) (h:Q (.ref s.heap.objs.size) { s with heap := s.heap.push (itObj b q) }):wpAny (model prog w) A (pyIter (.ref q)) Q E s:= by
 cases b with
 | true => exact wpAny_pyIter_tuple x h
 | false => exact wpAny_pyIter_list x h
theorem SqI.new {h:Heap}:SqI b (h.push (itObj b q)) h.objs.size q 0:= by
 cases b with
 | true => exact ⟨_,Heap.get?_push_size _ rfl,rfl,rfl⟩
 | false => exact ⟨_,Heap.get?_push_size _ rfl,rfl,rfl⟩
theorem next_sq {x:Value} {Q:Value -> Shared -> Prop} (hi:SqI b s.heap it q k) (hq:SqA b s.heap q xs) (hx:xs[k]? = some x) (h:∀ h',SqI b h' it q (k + 1) -> Heap.SameBut it s.heap h' -> Q x { s with heap := h' }) :
  wpAny (model prog w) A (Builtin.SmallTypes.nextOf (.ref it)) Q E s:= by
 cases b with
 | false => exact wpAny_nextOf_list_item hi hq hx h
 | true =>
  obtain ⟨o,ho,hc,hd⟩ := id hi
  obtain ⟨oq,hoq,_,n,hdq⟩ := hq
  have hT:s.TypeIs (.ref it) "tuple_iterator" := ⟨o,ho,hc⟩
  unfold Builtin.SmallTypes.nextOf
  refine wpAny_bind (wpAny_callSpecial?_slot (name := Str.ofString "__next__") hT F.slot_tuple_iterator_next (wpAny_call_entry F.slot_tuple_iterator_next hT F.entry_tuple_iterator_next (?_:wpAny _ _ (field (.ref it) 0 >>= _) _ _ s) (F.args_tuple_iterator_next_1 _)))
  refine wpAny_bind (wpAny_field ho hd (x := .ref q) rfl (?_:wpAny _ _ (if (Value.ref q == Value.none) = true then _ else _) _ _ s))
  rw [if_neg (show ¬ ((Value.ref q == Value.none) = true) from Bool.false_ne_true)]
  refine (?_:wpAny _ _ (field (.ref it) 1 >>= _) _ _ s)
  refine wpAny_bind (wpAny_field ho hd (x := .int k 0) rfl (?_:wpAny _ _ (seqItems? (.ref q) >>= _) _ _ s))
  refine wpAny_bind (wpAny_seqItems hoq hdq ?_)
  simp only [Int.toNat_natCast,hx]
  refine wpAny_bind (wpAny_setField ho hd (by simp) (wpAny_pure ⟨x,rfl,wpAny_pure (h _ ⟨_,Heap.get?_update_self _ ho (Obj.isFreed_of_fields (Obj.data_mapFields hd _)),(Obj.cls_mapFields ..).trans hc,?_⟩ (Heap.SameBut.update ..))⟩))
  rw [Obj.data_mapFields hd]; simp [rawInt]
theorem end_sq {Q:Value -> Shared -> Prop} (hh:A.handled = none) (hi:SqI b s.heap it q k) (hq:SqA b s.heap q xs) (hx:xs[k]? = none)
  (h:∀ h' e,(∀ c o,c ≠ it -> s.heap.get? c = some o -> h'.get? c = some o) -> (∃ o,h'.get? e = some o ∧ o.cls = .type "StopIteration") -> E (.ref e) { s with heap := h' }) :
  wpAny (model prog w) A (Builtin.SmallTypes.nextOf (.ref it)) Q E s:= by
 cases b with
 | false => exact wpAny_nextOf_list_end hh hi hq hx h
 | true =>
  obtain ⟨o,ho,hc,hd⟩ := id hi
  obtain ⟨oq,hoq,_,n,hdq⟩ := hq
  have hT:s.TypeIs (.ref it) "tuple_iterator" := ⟨o,ho,hc⟩
  unfold Builtin.SmallTypes.nextOf
  refine wpAny_bind (wpAny_callSpecial?_slot (name := Str.ofString "__next__") hT F.slot_tuple_iterator_next (wpAny_call_entry F.slot_tuple_iterator_next hT F.entry_tuple_iterator_next (?_:wpAny _ _ (field (.ref it) 0 >>= _) _ _ s) (F.args_tuple_iterator_next_1 _)))
  refine wpAny_bind (wpAny_field ho hd (x := .ref q) rfl (?_:wpAny _ _ (if (Value.ref q == Value.none) = true then _ else _) _ _ s))
  rw [if_neg (show ¬ ((Value.ref q == Value.none) = true) from Bool.false_ne_true)]
  refine (?_:wpAny _ _ (field (.ref it) 1 >>= _) _ _ s)
  refine wpAny_bind (wpAny_field ho hd (x := .int k 0) rfl (?_:wpAny _ _ (seqItems? (.ref q) >>= _) _ _ s))
  refine wpAny_bind (wpAny_seqItems hoq hdq ?_)
  simp only [Int.toNat_natCast,hx]
  refine wpAny_bind (wpAny_rule (wpAny_bind (wpAny_setField ho hd (by simp) (?_:wpAny _ _ (newExc (.type "StopIteration") [] >>= _) _ _ _))))
  refine stop_now (s := { s with heap := s.heap.update it _ }) (by simpa using hh) fun h' e kp he => h h' e (fun c o hc e' => kp c o ?_) he
  exact (Heap.get?_update_other _ _ (Ne.symm hc)).trans e'
structure Zap (z TI TO i1 i2 l1 l2:Addr):Prop where
 ni:[z,TI,TO,i1,i2].Nodup
 n1:l1 ∉ [z,TO,i1,i2]
 n2:l2 ∉ [z,TO,i1,i2]
noncomputable abbrev Zst (b1 b2:Bool) (z TI TO i1 i2 l1 l2:Addr) (xs ys:Array Value) (k:Nat) (f:Value) (h:Heap):Prop :=
 IsZip h z TI TO f ∧ IsPair h TI (.ref i1) (.ref i2) ∧ (∃ a c,IsPair h TO a c) ∧ SqI b1 h i1 l1 k ∧ SqI b2 h i2 l2 k ∧ SqA b1 h l1 xs ∧ SqA b2 h l2 ys
variable {b1 b2:Bool} {z TI TO i1 i2 l1 l2:Addr} {ys:Array Value}
theorem Zap.ne (D:Zap z TI TO i1 i2 l1 l2):TI ≠ z ∧ TO ≠ z ∧ i1 ≠ z ∧ i2 ≠ z ∧ TI ≠ TO ∧ TI ≠ i1 ∧ TI ≠ i2 ∧ TO ≠ i1 ∧ TO ≠ i2 ∧ i1 ≠ i2 ∧ l1 ≠ z ∧ l1 ≠ TO ∧ l1 ≠ i1 ∧ l1 ≠ i2 ∧ l2 ≠ z ∧ l2 ≠ TO ∧ l2 ≠ i1 ∧ l2 ≠ i2:= by
 obtain ⟨h,h1,h2⟩ := D
 simp only [List.nodup_cons,List.mem_cons,List.not_mem_nil,or_false,not_or,List.nodup_nil,and_true,not_false_eq_true] at h h1 h2
 obtain ⟨⟨a1,a2,a3,a4⟩,⟨b1,b2,b3⟩,⟨c1,c2⟩,d1⟩ := h
 exact ⟨Ne.symm a1,Ne.symm a2,Ne.symm a3,Ne.symm a4,b1,b2,b3,c1,c2,d1,h1.1,h1.2.1,h1.2.2.1,h1.2.2.2,h2.1,h2.2.1,h2.2.2.1,h2.2.2.2⟩
theorem Zst.keep {h h':Heap} {f:Value} (x:Zst b1 b2 z TI TO i1 i2 l1 l2 xs ys k f h) (e:∀ c ∈ [z,TI,TO,i1,i2,l1,l2],∀ o,h.get? c = some o -> h'.get? c = some o):Zst b1 b2 z TI TO i1 i2 l1 l2 xs ys k f h':= by
 obtain ⟨x1,x2,⟨a,c,x3⟩,x4,x5,x6,x7⟩ := x
 exact ⟨e z (by simp) _ x1,e TI (by simp) _ x2,⟨a,c,e TO (by simp) _ x3⟩,x4.at (e i1 (by simp)),x5.at (e i2 (by simp)),x6.at (e l1 (by simp)),x7.at (e l2 (by simp))⟩
theorem pair_set {T:Addr} {a c v:Value} {j:Nat} {Q:Unit -> Shared -> Prop} (hT:IsPair s.heap T a c) (h:∀ h',h'.get? T = some { cls := .type "tuple",data := .seq ((#[a,c]:Array Value).setIfInBounds j v) } -> Heap.SameBut T s.heap h' -> Q () { s with heap := h' }) :
  wpAny (model prog w) A (updateSeq T (·.setIfInBounds j v)) Q E s := wpAny_updateSeq_pair hT h
theorem zip_item {v1 v2:Value} {Q:Option Value -> Shared -> Prop} (D:Zap z TI TO i1 i2 l1 l2) (st:Zst b1 b2 z TI TO i1 i2 l1 l2 xs ys k .none s.heap) (hx:xs[k]? = some v1) (hy:ys[k]? = some v2)
  (hQ:∀ h',Zst b1 b2 z TI TO i1 i2 l1 l2 xs ys (k + 1) (rawInt s.heap.objs.size) h' -> IsPair h' s.heap.objs.size v1 v2 -> (∀ c o,c ∉ [z,TO,i1,i2] -> s.heap.get? c = some o -> h'.get? c = some o) -> Q (some (.ref s.heap.objs.size)) { s with heap := h' }) :
  wpAny (model prog w) A (pyNext (.ref z)) Q E s:= by
 obtain ⟨n1,n2,n3,n4,n5,n6,n7,n8,n9,n10,m1,m2,m3,m4,m5,m6,m7,m8⟩ := D.ne
 obtain ⟨hz,hTI,⟨a,c,hTO⟩,q1,q2,p1,p2⟩ := st
 have hT:s.TypeIs (.ref z) "zip" := ⟨_,hz,rfl⟩
 unfold pyNext
 refine wpAny_bind (wpAny_attempt (wpAny_callSpecial?_slot (name := Str.ofString "__next__") hT F.slot_zip_next (wpAny_call_entry F.slot_zip_next hT F.entry_zip_next (?_:wpAny _ _ (field (.ref z) 2 >>= _) _ _ _) (F.args_zip_next_1 _))))
 refine wpAny_bind (wpAny_field hz rfl (x := .bool false) rfl (?_:wpAny _ _ (field (.ref z) 3 >>= _) _ _ _))
 refine wpAny_bind (wpAny_field hz rfl (x := .ref TI) rfl (wpAny_bind (wpAny_seqItems hTI rfl (?_:wpAny _ _ (Builtin.SmallTypes.ownedTupleIsFree (.ref z) >>= _) _ _ _))))
 refine wpAny_bind ?_
 unfold Builtin.SmallTypes.ownedTupleIsFree
 refine wpAny_bind (wpAny_field hz rfl (x := .none) rfl (wpAny_pure ?_))
 simp only [if_true]
 refine wpAny_bind (wpAny_rule (wpAny_bind (wpAny_field hz rfl (x := .ref TO) rfl ?_)))
 refine wpAny_bind (wpAny_setField_rec hz (by simp) fun h1 z1 s1 => ?_)
 replace z1:IsZip h1 z TI TO .ellipsis := z1
 refine wpAny_bind ?_
 simp only [List.zipIdx_cons,List.zipIdx_nil,List.forIn_cons,List.forIn_nil]
 refine wpAny_bind (wpAny_bind (wpAny_onRaise (?_:wpAny _ _ (Builtin.SmallTypes.nextOf (.ref i1) >>= _) _ _ _)))
 refine wpAny_bind (next_sq (s := { s with heap := h1 }) (q1.at fun o e => s1.extBut _ _ n3 e) (p1.at fun o e => s1.extBut _ _ m1 e) hx fun h2 q1' s2 => wpAny_pure ?_)
 have t2:IsPair h2 TO a c := s2.extBut _ _ n8 (s1.extBut _ _ n2 hTO)
 refine wpAny_bind (wpAny_seqItems (s := { s with heap := h2 }) t2 rfl (wpAny_bind (pair_set (s := { s with heap := h2 }) t2 fun h3 t3 s3 => ?_)))
 replace t3:IsPair h3 TO v1 c := t3
 refine wpAny_bind (wpAny_letGo (wpAny_pure ?_))
 refine wpAny_bind (wpAny_bind (wpAny_onRaise (?_:wpAny _ _ (Builtin.SmallTypes.nextOf (.ref i2) >>= _) _ _ _)))
 refine wpAny_bind (next_sq (s := { s with heap := h3 }) (q2.at fun o e => s3.extBut _ _ n9.symm (s2.extBut _ _ n10.symm (s1.extBut _ _ n4 e))) (p2.at fun o e => s3.extBut _ _ m6 (s2.extBut _ _ m7 (s1.extBut _ _ m5 e))) hy fun h4 q2' s4 => wpAny_pure ?_)
 have t4:IsPair h4 TO v1 c := s4.extBut _ _ n9 t3
 refine wpAny_bind (wpAny_seqItems (s := { s with heap := h4 }) t4 rfl (wpAny_bind (pair_set (s := { s with heap := h4 }) t4 fun h5 t5 s5 => ?_)))
 replace t5:IsPair h5 TO v1 v2 := t5
 refine wpAny_bind (wpAny_letGo (wpAny_pure (wpAny_pure ?_)))
 refine wpAny_bind (wpAny_seqItems (s := { s with heap := h5 }) t5 rfl (wpAny_bind (wpAny_newTuple ?_)))
 have hsz:h5.objs.size = s.heap.objs.size := by rw [s5.1,s4.1,s3.1,s2.1,s1.1]
 have up5:∀ c o,c ∉ [z,TO,i1,i2] -> s.heap.get? c = some o -> h5.get? c = some o := fun c o hc e => by
  simp only [List.mem_cons,List.not_mem_nil,or_false,not_or] at hc
  obtain ⟨c1,c2,c3,c4⟩ := hc
  exact s5.extBut _ _ c2 (s4.extBut _ _ c4 (s3.extBut _ _ c2 (s2.extBut _ _ c3 (s1.extBut _ _ c1 e))))
 have z5:IsZip h5 z TI TO .ellipsis := s5.extBut _ _ n2.symm (s4.extBut _ _ n4.symm (s3.extBut _ _ n2.symm (s2.extBut _ _ n3.symm z1)))
 refine (?_:wpAny _ _ (Builtin.SmallTypes.ownedTupleHandOut (.ref z) (.ref h5.objs.size) >>= _) _ _ _)
 refine wpAny_bind ?_
 unfold Builtin.SmallTypes.ownedTupleHandOut
 have z6:IsZip (h5.push { cls := .type "tuple",data := .seq #[v1,v2] }) z TI TO .ellipsis := Heap.get?_push_of_some _ z5
 refine wpAny_bind (wpAny_setField_rec (s := { s with heap := h5.push { cls := .type "tuple",data := .seq #[v1,v2] } }) z6 (by simp) fun h7 z7 s7 => ?_)
 replace z7:IsZip h7 z TI TO (rawInt h5.objs.size) := z7
 refine wpAny_setField_rec (s := { s with heap := h7 }) z7 (by simp) fun h8 z8 s8 => ?_
 replace z8:IsZip h8 z TI TO (rawInt h5.objs.size) := z8
 have up:∀ c o,c ≠ z -> h5.get? c = some o -> h8.get? c = some o := fun c o c1 e => s8.extBut _ _ c1 (s7.extBut _ _ c1 (Heap.get?_push_of_some _ e))
 have zl:z ≠ h5.objs.size := Nat.ne_of_lt (Heap.lt_size z5)
 have new8:IsPair h8 h5.objs.size v1 v2 := s8.extBut _ _ zl.symm (s7.extBut _ _ zl.symm (Heap.get?_push_size _ rfl))
 rw [hsz] at z8 new8
 refine wpAny_pure ⟨_,rfl,(?_:wpAny _ _ (pure (some (Value.ref h5.objs.size))) _ _ _)⟩
 rw [hsz]
 refine wpAny_pure (hQ h8 ⟨z8,up _ _ n1 (up5 TI _ (by simp [n1,n5,n6,n7]) hTI),⟨_,_,up _ _ n2 t5⟩,q1'.at fun o e => up _ _ n3 (s5.extBut _ _ n8.symm (s4.extBut _ _ n10 (s3.extBut _ _ n8.symm e))),q2'.at fun o e => up _ _ n4 (s5.extBut _ _ n9.symm e),
  p1.at fun o e => up _ _ m1 (up5 l1 _ D.n1 e),p2.at fun o e => up _ _ m5 (up5 l2 _ D.n2 e)⟩ new8 fun c o hc e => up c o (fun z' => hc (by rw [z']; simp)) (up5 c o hc e))
theorem zip_end {Q:Option Value -> Shared -> Prop} (hh:A.handled = none) (D:Zap z TI TO i1 i2 l1 l2) (st:Zst b1 b2 z TI TO i1 i2 l1 l2 xs ys k .none s.heap) (hx:xs[k]? = none ∨ ys[k]? = none)
  (hQ:∀ h',(∀ c o,c ∉ [z,TO,i1,i2] -> s.heap.get? c = some o -> h'.get? c = some o) -> Q none { s with heap := h' }):wpAny (model prog w) A (pyNext (.ref z)) Q E s:= by
 obtain ⟨n1,n2,n3,n4,n5,n6,n7,n8,n9,n10,m1,m2,m3,m4,m5,m6,m7,m8⟩ := D.ne
 obtain ⟨hz,hTI,⟨a,c,hTO⟩,q1,q2,p1,p2⟩ := st
 have hT:s.TypeIs (.ref z) "zip" := ⟨_,hz,rfl⟩
 have fin:∀ (h:Heap) (e:Addr),IsZip h z TI TO .ellipsis -> (∀ c o,c ∉ [z,TO,i1,i2] -> s.heap.get? c = some o -> h.get? c = some o) -> (∃ o,h.get? e = some o ∧ o.cls = .type "StopIteration") ->
   wpAny (model prog w) A.in1 (setField (.ref z) 0 .none) (fun _ s' => wpAny (model prog w) A (do if <- isInstance (Value.ref e) (.type "StopIteration") then pure (none:Option Value) else throw (Value.ref e)) Q E s') (fun _ _ => False) { s with heap := h } := fun h e hz kp he => by
  obtain ⟨o,ho,hc⟩ := he
  refine wpAny_setField_rec (s := { s with heap := h }) hz (by simp) fun h' _ sb => ?_
  have hez:e ≠ z := fun x => by subst x; rw [hz] at ho; cases ho; simp at hc
  refine wpAny_bind (wpAny_isInstance (T := "StopIteration") (b := true) ⟨o,sb.extBut _ _ hez ho,hc⟩ isSubtype_stop (wpAny_pure (hQ h' fun c o hc e => sb.extBut _ _ (fun z' => hc (by rw [z']; simp)) (kp c o hc e))))
 unfold pyNext
 refine wpAny_bind (wpAny_attempt (wpAny_callSpecial?_slot (name := Str.ofString "__next__") hT F.slot_zip_next (wpAny_call_entry F.slot_zip_next hT F.entry_zip_next (?_:wpAny _ _ (field (.ref z) 2 >>= _) _ _ _) (F.args_zip_next_1 _))))
 refine wpAny_bind (wpAny_field hz rfl (x := .bool false) rfl (?_:wpAny _ _ (field (.ref z) 3 >>= _) _ _ _))
 refine wpAny_bind (wpAny_field hz rfl (x := .ref TI) rfl (wpAny_bind (wpAny_seqItems hTI rfl (?_:wpAny _ _ (Builtin.SmallTypes.ownedTupleIsFree (.ref z) >>= _) _ _ _))))
 refine wpAny_bind ?_
 unfold Builtin.SmallTypes.ownedTupleIsFree
 refine wpAny_bind (wpAny_field hz rfl (x := .none) rfl (wpAny_pure ?_))
 simp only [if_true]
 refine wpAny_bind (wpAny_rule (wpAny_bind (wpAny_field hz rfl (x := .ref TO) rfl ?_)))
 refine wpAny_bind (wpAny_setField_rec hz (by simp) fun h1 z1 s1 => ?_)
 replace z1:IsZip h1 z TI TO .ellipsis := z1
 refine wpAny_bind ?_
 simp only [List.zipIdx_cons,List.zipIdx_nil,List.forIn_cons,List.forIn_nil]
 refine wpAny_bind (wpAny_bind (wpAny_onRaise (?_:wpAny _ _ (Builtin.SmallTypes.nextOf (.ref i1) >>= _) _ _ _)))
 have p1':SqA b1 h1 l1 xs := p1.at fun o e => s1.extBut _ _ m1 e
 have q1'':SqI b1 h1 i1 l1 k := q1.at fun o e => s1.extBut _ _ n3 e
 cases hxk:xs[k]? with
 | none =>
  refine wpAny_bind (end_sq (s := { s with heap := h1 }) (by simpa using hh) q1'' p1' hxk fun h2 e kp he => ?_)
  refine wpAny_mono (fin h2 e (kp _ _ n3.symm z1) (fun c o hc e' => ?_) he) (fun _ _ q => q) fun _ _ q => q.elim
  simp only [List.mem_cons,List.not_mem_nil,or_false,not_or] at hc
  exact kp _ _ hc.2.2.1 (s1.extBut _ _ hc.1 e')
 | some v1 =>
  have hy:ys[k]? = none:= by
   rcases hx with h | h
   ·rw [hxk] at h; cases h
   ·exact h
  refine wpAny_bind (next_sq (s := { s with heap := h1 }) q1'' p1' hxk fun h2 q1' s2 => wpAny_pure ?_)
  have t2:IsPair h2 TO a c := s2.extBut _ _ n8 (s1.extBut _ _ n2 hTO)
  refine wpAny_bind (wpAny_seqItems (s := { s with heap := h2 }) t2 rfl (wpAny_bind (pair_set (s := { s with heap := h2 }) t2 fun h3 t3 s3 => ?_)))
  refine wpAny_bind (wpAny_letGo (wpAny_pure ?_))
  refine wpAny_bind (wpAny_bind (wpAny_onRaise (?_:wpAny _ _ (Builtin.SmallTypes.nextOf (.ref i2) >>= _) _ _ _)))
  refine wpAny_bind (end_sq (s := { s with heap := h3 }) (by simpa using hh) (q2.at fun o e => s3.extBut _ _ n9.symm (s2.extBut _ _ n10.symm (s1.extBut _ _ n4 e))) (p2.at fun o e => s3.extBut _ _ m6 (s2.extBut _ _ m7 (s1.extBut _ _ m5 e))) hy fun h4 e kp he => ?_)
  refine wpAny_mono (fin h4 e (kp _ _ n4.symm (s3.extBut _ _ n2.symm (s2.extBut _ _ n3.symm z1))) (fun c o hc e' => ?_) he) (fun _ _ q => q) fun _ _ q => q.elim
  simp only [List.mem_cons,List.not_mem_nil,or_false,not_or] at hc
  exact kp _ _ hc.2.2.2 (s3.extBut _ _ hc.2.1 (s2.extBut _ _ hc.2.2.1 (s1.extBut _ _ hc.1 e')))
end
end Jt
namespace Jt
open PySem
section
variable {prog:Program} {w:World} {A:Around} {E:Value -> Shared -> Prop} {s:Shared} {b1 b2 b:Bool} {l1 l2 q it e:Addr} {xs ys:Array Value} {k:Nat}
noncomputable def zh2 (b1 b2:Bool) (h:Heap) (l1 l2:Addr):Heap := (h.push (itObj b1 l1)).push (itObj b2 l2)
noncomputable def zh4 (b1 b2:Bool) (h:Heap) (l1 l2:Addr):Heap := ((zh2 b1 b2 h l1 l2).push { cls := .type "tuple",data := .seq #[.ref h.objs.size,.ref (h.push (itObj b1 l1)).objs.size] }).push { cls := .type "tuple",data := .seq #[.none,.none] }
noncomputable def zh5 (b1 b2:Bool) (h:Heap) (l1 l2:Addr):Heap := (zh4 b1 b2 h l1 l2).push { cls := .type "zip",data := .fields #[.none,.bool false,.bool false,.ref (zh2 b1 b2 h l1 l2).objs.size,.ref ((zh2 b1 b2 h l1 l2).push { cls := .type "tuple",data := .seq #[.ref h.objs.size,.ref (h.push (itObj b1 l1)).objs.size] }).objs.size] }
theorem meets_zip (b1 b2:Bool) (l1 l2:Addr) (xs ys:Array Value):Meets (Builtin.«zip.__new__» ⟨[.type "zip",.ref l1,.ref l2],[]⟩) (fun _ R s => SqA b1 s.heap l1 xs ∧ SqA b2 s.heap l2 ys ∧ R (.ok (.ret (.ref (zh4 b1 b2 s.heap l1 l2).objs.size))) { s with heap := zh5 b1 b2 s.heap l1 l2 }) :=
 .of_wp fun prog w A R s h => by
  obtain ⟨hp,g,d,tk,os⟩ := s
  obtain ⟨h1,h2,h⟩ := h
  have hsub := sub_zip
  have L1:SqA b1 (Shared.heap ⟨hp,g,d,tk,os⟩) l1 xs := h1
  have L2:SqA b2 (Shared.heap ⟨hp.push (itObj b1 l1),g,d,tk,os⟩) l2 ys := h2.at fun o e => Heap.get?_push_of_some _ e
  wp_walk using iter_sq L1,iter_sq L2
  exact ⟨_,rfl,h⟩
theorem new_zip {Q:Value -> Shared -> Prop} (h1:SqA b1 s.heap l1 xs) (h2:SqA b2 s.heap l2 ys)
  (h:∀ h' z TI TO i1 i2,Zap z TI TO i1 i2 l1 l2 -> Zst b1 b2 z TI TO i1 i2 l1 l2 xs ys 0 .none h' -> (∀ c o,s.heap.get? c = some o -> h'.get? c = some o) -> (∀ c ∈ [z,TI,TO,i1,i2],s.heap.objs.size ≤ c) -> Q (.ref z) { s with heap := h' }) :
  wpAny (model prog w) A (call (.type "zip") [.ref l1,.ref l2]) Q E s:= by
 refine callType_new F.called_zip (by decide) (F.typeCall_zip_2 _ _) (F.newCall_zip_2 _ _) (fun obj => F.args_object_init_3 obj _ _) F.entry_zip_new (meets_zip b1 b2 l1 l2 xs ys) ⟨h1,h2,?_⟩
 have a1:(s.heap.push (itObj b1 l1)).objs.size = s.heap.objs.size + 1 := Heap.size_push ..
 have a2:(zh2 b1 b2 s.heap l1 l2).objs.size = s.heap.objs.size + 2 := by unfold zh2; rw [Heap.size_push,a1]
 have a3:((zh2 b1 b2 s.heap l1 l2).push { cls := .type "tuple",data := .seq #[.ref s.heap.objs.size,.ref (s.heap.push (itObj b1 l1)).objs.size] }).objs.size = s.heap.objs.size + 3 := by rw [Heap.size_push,a2]
 have a4:(zh4 b1 b2 s.heap l1 l2).objs.size = s.heap.objs.size + 4 := by unfold zh4; rw [Heap.size_push,a3]
 have up4:∀ c o,(zh4 b1 b2 s.heap l1 l2).get? c = some o -> (zh5 b1 b2 s.heap l1 l2).get? c = some o := fun c o e => Heap.get?_push_of_some _ e
 have up2:∀ c o,(zh2 b1 b2 s.heap l1 l2).get? c = some o -> (zh5 b1 b2 s.heap l1 l2).get? c = some o := fun c o e => up4 c o (Heap.get?_push_of_some _ (Heap.get?_push_of_some _ e))
 have up:∀ c o,s.heap.get? c = some o -> (zh5 b1 b2 s.heap l1 l2).get? c = some o := fun c o e => up2 c o (Heap.get?_push_of_some _ (Heap.get?_push_of_some _ e))
 have g5:(zh5 b1 b2 s.heap l1 l2).get? (zh4 b1 b2 s.heap l1 l2).objs.size = some _ := Heap.get?_push_size _ rfl
 have g4:(zh5 b1 b2 s.heap l1 l2).get? ((zh2 b1 b2 s.heap l1 l2).push { cls := .type "tuple",data := .seq #[.ref s.heap.objs.size,.ref (s.heap.push (itObj b1 l1)).objs.size] }).objs.size = some _ := up4 _ _ (Heap.get?_push_size _ rfl)
 have g3:(zh5 b1 b2 s.heap l1 l2).get? (zh2 b1 b2 s.heap l1 l2).objs.size = some _ := up4 _ _ (Heap.get?_push_of_some _ (Heap.get?_push_size _ rfl))
 have lt1 := h1.lt
 have lt2 := h2.lt
 refine ⟨⟨_,g5,rfl⟩,h (zh5 b1 b2 s.heap l1 l2) _ (zh2 b1 b2 s.heap l1 l2).objs.size ((zh2 b1 b2 s.heap l1 l2).push { cls := .type "tuple",data := .seq #[.ref s.heap.objs.size,.ref (s.heap.push (itObj b1 l1)).objs.size] }).objs.size s.heap.objs.size (s.heap.push (itObj b1 l1)).objs.size ?_
  ⟨g5,g3,⟨_,_,g4⟩,SqI.new.at fun o e => up2 _ _ (Heap.get?_push_of_some _ e),SqI.new.at fun o e => up2 _ _ e,h1.at fun o e => up _ _ e,h2.at fun o e => up _ _ e⟩ up fun c hc => ?_⟩
 ·rw [a3,a4,a2,a1]
  have e1:∀ j:Nat,l1 ≠ s.heap.objs.size + j := fun j z => Nat.ne_of_lt (Nat.lt_of_lt_of_le lt1 (Nat.le_add_right _ j)) z
  have e2:∀ j:Nat,l2 ≠ s.heap.objs.size + j := fun j z => Nat.ne_of_lt (Nat.lt_of_lt_of_le lt2 (Nat.le_add_right _ j)) z
  have ne:∀ i j:Nat,i ≠ j -> s.heap.objs.size + i ≠ s.heap.objs.size + j := fun i j h z => h (Nat.add_left_cancel z)
  have ne0:∀ j:Nat,j ≠ 0 -> s.heap.objs.size + j ≠ s.heap.objs.size := fun j h z => h (Nat.add_left_cancel (m := j) (k := 0) z)
  refine ⟨?_,?_,?_⟩
  ·simp only [List.nodup_cons,List.mem_cons,List.not_mem_nil,or_false,not_or,List.nodup_nil,and_true,not_false_eq_true]
   exact ⟨⟨ne 4 2 (by decide),ne 4 3 (by decide),ne0 4 (by decide),ne 4 1 (by decide)⟩,⟨ne 2 3 (by decide),ne0 2 (by decide),ne 2 1 (by decide)⟩,⟨ne0 3 (by decide),ne 3 1 (by decide)⟩,(ne0 1 (by decide)).symm⟩
  ·simp only [List.mem_cons,List.not_mem_nil,or_false,not_or]
   exact ⟨e1 4,e1 3,Nat.ne_of_lt lt1,e1 1⟩
  ·simp only [List.mem_cons,List.not_mem_nil,or_false,not_or]
   exact ⟨e2 4,e2 3,Nat.ne_of_lt lt2,e2 1⟩
 ·rw [a3,a4,a2,a1] at hc
  simp only [List.mem_cons,List.not_mem_nil,or_false] at hc
  rcases hc with e | e | e | e | e
  ·rw [e]; exact Nat.le_add_right _ 4
  ·rw [e]; exact Nat.le_add_right _ 2
  ·rw [e]; exact Nat.le_add_right _ 3
  ·rw [e]; exact Nat.le_refl _
  ·rw [e]; exact Nat.le_add_right _ 1
end
end Jt
namespace L2
open PySem PySem.Spec PyProof.Rows
noncomputable abbrev Key := Sum Int Str
noncomputable def keyIs:Key -> Value -> Bool
 | .inl k,v => Value.isInt k v
 | .inr x,v => Value.isStrOf x v
noncomputable def keyH (w:World):Key -> Int
 | .inl k => hashInt k
 | .inr x => hashStr w x
theorem keyIs_shape:∀ {k:Key} {v:Value},keyIs k v = true -> (∃ i t,k = Sum.inl i ∧ v = Value.int i t) ∨ (∃ x t,k = Sum.inr x ∧ v = Value.str x t)
 | .inl i,v,h => by
  obtain ⟨t,e⟩ := Value.isInt_shape (k := i) (v := v) h
  exact .inl ⟨i,t,rfl,e⟩
 | .inr x,v,h => by
  obtain ⟨t,e⟩ := Value.isStrOf_shape (x := x) (v := v) h
  exact .inr ⟨x,t,rfl,e⟩
theorem key_ll (a b:Int):decide ((Sum.inl a:Key) = Sum.inl b) = (a == b):= by
 by_cases e:a = b
 ·subst e; simp
 ·have h:¬ (Sum.inl a:Key) = Sum.inl b := fun q => e (Sum.inl.inj q)
  rw [decide_eq_false h]
  exact (beq_eq_false_iff_ne.mpr e).symm
theorem key_rr (a b:Str):decide ((Sum.inr a:Key) = Sum.inr b) = decide (a = b):= by
 by_cases e:a = b
 ·subst e; simp
 ·have h:¬ (Sum.inr a:Key) = Sum.inr b := fun q => e (Sum.inr.inj q)
  rw [decide_eq_false h,decide_eq_false e]
theorem key_lr (a:Int) (b:Str):decide ((Sum.inl a:Key) = Sum.inr b) = false := decide_eq_false (fun q => nomatch q)
theorem key_rl (a:Str) (b:Int):decide ((Sum.inr a:Key) = Sum.inl b) = false := decide_eq_false (fun q => nomatch q)
noncomputable def mixKind (prog:Program) (w:World):PySem.KeyKind prog w Key where
 is := keyIs
 hash := keyH w
 inj := fun v a b ha hb => by
  rcases keyIs_shape ha with ⟨i,t,rfl,rfl⟩ | ⟨x,t,rfl,rfl⟩
  ·rcases keyIs_shape hb with ⟨j,u,rfl,e⟩ | ⟨y,u,rfl,e⟩
   ·injection e with e1 _; rw [e1]
   ·exact nomatch e
  ·rcases keyIs_shape hb with ⟨j,u,rfl,e⟩ | ⟨y,u,rfl,e⟩
   ·exact nomatch e
   ·injection e with e1 _; rw [e1]
 byValue := fun k v h => by
  rcases keyIs_shape h with ⟨i,t,rfl,rfl⟩ | ⟨x,t,rfl,rfl⟩ <;> rfl
 pyHash := fun hv h => by
  rcases keyIs_shape hv with ⟨i,t,rfl,rfl⟩ | ⟨x,t,rfl,rfl⟩
  ·exact wpAny_pyHash_int h
  ·exact wpAny_pyHash_str h
 eqBool := fun hu hv h => by
  rcases keyIs_shape hu with ⟨i,t,rfl,rfl⟩ | ⟨x,t,rfl,rfl⟩
  ·rcases keyIs_shape hv with ⟨j,u,rfl,rfl⟩ | ⟨y,u,rfl,rfl⟩
   ·rw [key_ll] at h; exact wpAny_eqBool_int h
   ·rw [key_lr] at h; exact SeqAt.EqAt.int_str i t y u _ _ _ _ h
  ·rcases keyIs_shape hv with ⟨j,u,rfl,rfl⟩ | ⟨y,u,rfl,rfl⟩
   ·rw [key_rl] at h; exact SeqAt.EqAt.str_int x t j u _ _ _ _ h
   ·rw [key_rr] at h; exact wpAny_eqBool_str h
 «strs» := fun k x t v h => by
  rcases keyIs_shape h with ⟨i,u,rfl,e⟩ | ⟨y,u,rfl,e⟩
  ·exact nomatch e
  ·injection e with e1 _
   subst e1
   cases v <;> rfl
end L2
namespace L2
open PySem PySem.Spec PyProof.Rows
inductive V where
 | non | bl (b:Bool) | int (i:Int) | str (x:Str) | byt (b:Array UInt8) | flt (b:UInt64) | ref (a:Addr) | ty (n:String)
 deriving DecidableEq
noncomputable def RelV:V -> Value -> Prop
 | .non,u => u = Value.none
 | .bl b,u => u = Value.bool b
 | .int i,u => ∃ t,u = Value.int i t
 | .str x,u => ∃ t,u = Value.str x t
 | .byt b,u => ∃ t,u = Value.bytes b t
 | .flt b,u => ∃ t,u = Value.float b t
 | .ref a,u => u = Value.ref a
 | .ty n,u => u = Value.type n
noncomputable abbrev Vals:List V -> List Value -> Prop := Paired RelV
theorem Vals.length {xs:List V} {us:List Value} (r:Vals xs us):xs.length = us.length := Paired.length r
theorem Vals.get:∀ {xs:List V} {us:List Value} {i:Nat} {x:V},Vals xs us -> xs[i]? = some x -> ∃ u,us[i]? = some u ∧ RelV x u
 | _,_,_,_,.nil,e => by simp at e
 | _,_,0,_,.cons r _,e => by simp at e; subst e; exact ⟨_,rfl,r⟩
 | _,_,i + 1,x,.cons _ t,e => by
  obtain ⟨u,h1,h2⟩ := Vals.get (i := i) (x := x) t (by simpa using e)
  exact ⟨u,by simpa using h1,h2⟩
theorem Vals.set {x:V} {u:Value} (r:RelV x u):∀ {xs:List V} {us:List Value} (i:Nat),Vals xs us -> Vals (xs.set i x) (us.set i u)
 | _,_,_,.nil => .nil
 | _,_,0,.cons _ t => .cons r t
 | _,_,i + 1,.cons q t => .cons q (Vals.set r i t)
theorem Vals.append:∀ {xs ys:List V} {us ws:List Value},Vals xs us -> Vals ys ws -> Vals (xs ++ ys) (us ++ ws)
 | _,_,_,_,.nil,s => s
 | _,_,_,_,.cons r t,s => .cons r (Vals.append t s)
theorem Vals.take:∀ {xs:List V} {us:List Value} (n:Nat),Vals xs us -> Vals (xs.take n) (us.take n)
 | _,_,0,_ => .nil
 | _,_,_ + 1,.nil => .nil
 | _,_,n + 1,.cons r t => .cons r (Vals.take n t)
theorem Vals.drop:∀ {xs:List V} {us:List Value} (n:Nat),Vals xs us -> Vals (xs.drop n) (us.drop n)
 | _,_,0,r => r
 | _,_,_ + 1,.nil => .nil
 | _,_,n + 1,.cons _ t => Vals.drop n t
noncomputable def RelO:Option V -> Option Value -> Prop
 | some v,some u => RelV v u
 | none,none => True
 | _,_ => False
noncomputable def KV {κ:Type}:List (κ × V) -> List (κ × Value) -> Prop := Paired fun (p:κ × V) (q:κ × Value) => p.1 = q.1 ∧ RelV p.2 q.2
noncomputable def kV:Key -> V
 | .inl i => .int i
 | .inr x => .str x
inductive HO where
 /-- a list -/
 | lst (xs:List V)
 /-- a tuple (never changes) -/
 | tup (xs:List V)
 /-- a dict whose keys are ints and texts; one whose keys are tuples of ints and texts (the empty one is both) -/
 | dK (kvs:List (Key × V)) | dT (kvs:List (List Key × V))
 /-- a set of ints: its members,its size -/
 | set (S:Int -> Bool) (n:Nat)
 /-- an instance of the class at C,its dict at dx,its attributes -/
 | ins (C dx:Addr) (fs:List (Str × V))
 /-- the dict of the instance at x -/
 | own (x:Addr)
 /-- the dict of an exception -/
 | xd (fs:List (Str × V))
 /-- a bound method,f of x -/
 | met (f x:Addr)
 /-- a range object lo,lo + 1,.. below hi -/
 | rng (lo hi:Int)
 /-- a thing that is known to the object (the script; a dict while a loop walks it): read,never written while it is so -/
 | frz (o:Obj) (u:HO)
 /-- a code object's table -/
 | tbl (ps:Array Value)
 /-- any other thing,by what is true of its one object (a def of one's own: SetO a S n := HO.ext fun h => ..) -/
 | ext (φ:Heap -> Prop)
noncomputable abbrev Hp := Addr -> Option HO
noncomputable def upd (H:Hp) (a:Addr) (o:HO):Hp := fun b => if b = a then some o else H b
theorem upd_same {H:Hp} {a:Addr} {o:HO}:upd H a o a = some o := by unfold upd; rw [if_pos rfl]
theorem upd_ne {H:Hp} {a b:Addr} {o:HO} (h:b ≠ a):upd H a o b = H b := by unfold upd; rw [if_neg h]
theorem upd_upd {H:Hp} {a:Addr} {o u:HO}:upd (upd H a o) a u = upd H a u:= by
 funext b; unfold upd; split <;> rfl
theorem ne_of_none {H:Hp} {a b:Addr} {o:HO} (h:H a = some o) (h':H b = none):a ≠ b:= by
 intro e; subst e; rw [h] at h'; cases h'
section
variable (P:Program) (w:World)
noncomputable def ObjOk (H:Hp) (h:Heap) (a:Addr):HO -> Prop
 | .lst xs => xs.length ≤ sizeLine ∧ ∃ (its:List Value) (n:Nat),Vals xs its ∧ h.get? a = some { cls := .type "list",data := .seq its.toArray n }
 | .tup xs => xs.length ≤ sizeLine ∧ ∃ its:List Value,Vals xs its ∧ IsTup h a its.toArray
 | .dK kvs => kvs.length ≤ sizeLine ∧ (a == sysModules) = false ∧ ∃ vs,KV kvs vs ∧ h.DictOf (mixKind P w) a vs
 | .dT kvs => kvs.length ≤ sizeLine ∧ (a == sysModules) = false ∧ ∃ xs:List (List Key × Addr × Value),
   Paired (fun (p:List Key × V) (q:List Key × Addr × Value) => p.1 = q.1 ∧ H q.2.1 = some (.tup (p.1.map kV)) ∧ RelV p.2 q.2.2) kvs xs ∧
   ∃ o es ep,h.get? a = some o ∧ o.ExactDict ∧ o.data = .dict es ep ∧ es.toList = xs.map (entryOfKey (tupleKind (mixKind P w))) ∧ (xs.map (·.1)).Nodup
 | .set S n => h.SetOf (intKind P w) a S n
 | .ins C dx fs => H dx = some (.own a) ∧ fs.length ≤ 1000 ∧ dx ≠ a ∧ h.get? a = some (PySem.W.instObj C dx) ∧
   ∃ mA,h.Ns1 dx mA ∧ (∀ f,RelO (fs.lookup f) (mA f)) ∧ PySem.Within mA (fs.map (·.1))
 | .own _ => ∃ o,h.get? a = some o
 | .xd fs => ∃ mA,h.Ns1 a mA ∧ ∀ f,RelO (fs.lookup f) (mA f)
 | .rng lo hi => ∃ t u v,h.get? a = some { cls := .type "range",data := .fields #[.int lo t,.int hi u,.int 1 v] }
 | .frz o u => h.get? a = some o ∧ ObjOk H h a u
 | .tbl ps => h.get? a = some { cls := .none,data := .fields ps }
 | .met f x => h.get? a = some (PySem.W.methodObj (.ref f) (.ref x))
 | .ext φ => φ h ∧ (∃ o,h.get? a = some o) ∧ ∀ h1 h2:Heap,φ h1 -> (∀ o,h1.get? a = some o -> h2.get? a = some o) -> φ h2
noncomputable def HOk (H:Hp) (h:Heap):Prop := ∀ a o,H a = some o -> ObjOk P w H h a o
end
section
variable {P:Program} {w:World} {H H':Hp} {h h':Heap} {a:Addr} {o:HO}
theorem ObjOk.lt (x:ObjOk P w H h a o):a < h.objs.size:= by
 cases o with
 | lst xs => obtain ⟨_,_,_,_,e⟩ := x; exact Heap.lt_size e
 | tup xs => obtain ⟨_,_,_,p⟩ := x; exact p.lt
 | dK kvs => obtain ⟨_,_,_,_,o,_,_,e,_⟩ := x; exact Heap.lt_size e
 | dT kvs => obtain ⟨_,_,_,_,o,_,_,e,_⟩ := x; exact Heap.lt_size e
 | set S n => obtain ⟨o,_,_,_,e,_⟩ := x; exact Heap.lt_size e
 | ins C dx fs => obtain ⟨_,_,_,e,_⟩ := x; exact Heap.lt_size e
 | own y => obtain ⟨_,e⟩ := x; exact Heap.lt_size e
 | xd fs => obtain ⟨_,⟨_,_,_,e,_⟩,_⟩ := x; exact Heap.lt_size e
 | rng lo hi => obtain ⟨_,_,_,e⟩ := x; exact Heap.lt_size e
 | frz ob u => obtain ⟨e,_⟩ := x; exact Heap.lt_size e
 | tbl ps => exact Heap.lt_size (show h.get? a = some _ from x)
 | met f y => exact Heap.lt_size (show h.get? a = some _ from x)
 | ext φ => obtain ⟨_,⟨_,e⟩,_⟩ := x; exact Heap.lt_size e
theorem Paired.mapP {α β:Type} {F G:α -> β -> Prop}:∀ {l₁:List α} {l₂:List β},Paired F l₁ l₂ -> (∀ a b,F a b -> G a b) -> Paired G l₁ l₂
 | _,_,.nil,_ => .nil
 | _,_,.cons r t,f => .cons (f _ _ r) (Paired.mapP t f)
theorem ObjOk.stay (x:ObjOk P w H h a o) (k:∀ b u,(b = a ∨ H b = some (.own a)) -> h.get? b = some u -> h'.get? b = some u)
  (ho:∀ b,H b = some (.own a) -> H' b = some (.own a)) (ht:∀ b xs,H b = some (.tup xs) -> H' b = some (.tup xs)):ObjOk P w H' h' a o:= by
 induction o with
 | lst xs => obtain ⟨z,its,n,r,e⟩ := x; exact ⟨z,its,n,r,k _ _ (.inl rfl) e⟩
 | tup xs => obtain ⟨z,its,r,ob,e,c⟩ := x; exact ⟨z,its,r,ob,k _ _ (.inl rfl) e,c⟩
 | dK kvs => obtain ⟨z,y,vs,r,ob,es,ep,e,c⟩ := x; exact ⟨z,y,vs,r,ob,es,ep,k _ _ (.inl rfl) e,c⟩
 | dT kvs =>
  obtain ⟨z,y,xs,r,ob,es,ep,e,c⟩ := x
  exact ⟨z,y,xs,Paired.mapP r fun p q z => ⟨z.1,ht _ _ z.2.1,z.2.2⟩,ob,es,ep,k _ _ (.inl rfl) e,c⟩
 | set S n => obtain ⟨ob,es,ep,t,e,c⟩ := x; exact ⟨ob,es,ep,t,k _ _ (.inl rfl) e,c⟩
 | ins C dx fs =>
  obtain ⟨d,z,ne,e,mA,⟨od,es,ep,e2,c⟩,r⟩ := x
  exact ⟨ho _ d,z,ne,k _ _ (.inl rfl) e,mA,⟨od,es,ep,k _ _ (.inr d) e2,c⟩,r⟩
 | own y => obtain ⟨ob,e⟩ := x; exact ⟨ob,k _ _ (.inl rfl) e⟩
 | xd fs => obtain ⟨mA,⟨od,es,ep,e,c⟩,r⟩ := x; exact ⟨mA,⟨od,es,ep,k _ _ (.inl rfl) e,c⟩,r⟩
 | rng lo hi => obtain ⟨t,u,v,e⟩ := x; exact ⟨t,u,v,k _ _ (.inl rfl) e⟩
 | frz ob u ih => obtain ⟨e,q⟩ := x; exact ⟨k _ _ (.inl rfl) e,ih q⟩
 | tbl ps =>
  have e:h.get? a = some { cls := .none,data := .fields ps } := x
  show h'.get? a = some { cls := .none,data := .fields ps }
  exact k a _ (.inl rfl) e
 | met f y =>
  have e:h.get? a = some (PySem.W.methodObj (.ref f) (.ref y)) := x
  show h'.get? a = some (PySem.W.methodObj (.ref f) (.ref y))
  exact k a _ (.inl rfl) e
 | ext φ => obtain ⟨p,⟨o,e⟩,st⟩ := x; exact ⟨st _ _ p fun o q => k _ _ (.inl rfl) q,⟨o,k _ _ (.inl rfl) e⟩,st⟩
theorem HOk.lt (x:HOk P w H h) (e:H a = some o):a < h.objs.size := (x a o e).lt
theorem HOk.fresh (x:HOk P w H h) (e:h.objs.size ≤ a):H a = none:= by
 cases q:H a with
 | none => rfl
 | some u => exact absurd (Nat.lt_of_lt_of_le (x.lt q) e) (Nat.lt_irrefl _)
theorem HOk.kept (x:HOk P w H h) (k:∀ b u,h.get? b = some u -> h'.get? b = some u):HOk P w H h' := fun a o e =>
 (x a o e).stay (fun b u _ q => k b u q) (fun _ q => q) fun _ _ q => q
theorem HOk.laid (x:HOk P w H h) (k:∀ b u,h.get? b = some u -> h'.get? b = some u) (hp:h.objs.size ≤ a) (new:ObjOk P w (upd H a o) h' a o):HOk P w (upd H a o) h' := fun b u e => by
 have hn := x.fresh hp
 by_cases hb:b = a
 ·subst hb; rw [upd_same] at e; cases e; exact new
 ·rw [upd_ne hb] at e
  exact (x b u e).stay (fun c v _ q => k c v q) (fun c q => by rw [upd_ne (ne_of_none q hn)]; exact q) fun c xs q => by rw [upd_ne (ne_of_none q hn)]; exact q
end
noncomputable def Rd (H:Hp) (a:Addr) (u:HO):Prop := H a = some u ∨ ∃ o,H a = some (.frz o u)
theorem Rd.of {H:Hp} {a:Addr} {u:HO} (h:H a = some u):Rd H a u := .inl h
theorem Rd.ok {P:Program} {w:World} {H:Hp} {h:Heap} {a:Addr} {u:HO} (r:Rd H a u) (x:HOk P w H h):ObjOk P w H h a u:= by
 rcases r with r | ⟨o,r⟩
 ·exact x a u r
 ·obtain ⟨_,q⟩ := x a _ r
  exact q
noncomputable def Mut:Option HO -> Prop
 | some (.lst _) => True
 | some (.dK _) => True
 | some (.dT _) => True
 | some (.set _ _) => True
 | some (.ins _ _ _) => True
 | some (.ext _) => True
 | _ => False
section
variable {P:Program} {w:World} {H:Hp} {h h':Heap} {x e:Addr} {o':HO}
theorem HOk.write (ok:HOk P w H h) (mu:Mut (H x)) (he:e = x ∨ H e = some (.own x)) (k:∀ b u,b ≠ e -> h.get? b = some u -> h'.get? b = some u) (heo:∃ u,h'.get? e = some u)
  (new:ObjOk P w (upd H x o') h' x o'):HOk P w (upd H x o') h' := fun b u q => by
 have nown:∀ c y,H c = some (.own y) -> c ≠ x := fun c y r z => by subst z; rw [r] at mu; exact mu
 have ntup:∀ c xs,H c = some (.tup xs) -> c ≠ x := fun c xs r z => by subst z; rw [r] at mu; exact mu
 by_cases hb:b = x
 ·subst hb; rw [upd_same] at q; cases q; exact new
 ·rw [upd_ne hb] at q
  by_cases hbe:b = e
  ·have q':H b = some (.own x):= by
    rcases he with z | z
    ·exact absurd (hbe.trans z) hb
    ·rw [hbe]; exact z
   rw [q] at q'; cases q'
   obtain ⟨v,hv⟩ := heo
   exact ⟨v,by rw [hbe]; exact hv⟩
  ·refine (ok b u q).stay (fun c v hc r => k c v ?_ r) (fun c r => by rw [upd_ne (nown c b r)]; exact r) fun c xs r => by rw [upd_ne (ntup c xs r)]; exact r
   rcases hc with rfl | hc
   ·exact hbe
   ·rintro rfl
    rcases he with z | z
    ·exact nown c b hc z
    ·rw [hc] at z; cases z; exact hb rfl
end
structure Un (fs ex:List Addr) (H H':Hp) (h h':Heap):Prop where
 keep:∀ b o,h.get? b = some o -> H b = none -> b ∉ fs -> b ∉ ex -> h'.get? b = some o
 slot:∀ b o,h.get? b = some o -> H b = none -> b ∈ fs -> b ∉ ex -> ∃ sl,h'.get? b = some { o with slots := sl }
 free:∀ b o,h.get? b = some o -> H b = none -> b ∉ ex -> H' b = none
 there:∀ b o,h.get? b = some o -> b ∉ ex -> ∃ o',h'.get? b = some o'
 tups:∀ b xs,H b = some (.tup xs) -> H' b = some (.tup xs)
 frzs:∀ b o u,H b = some (.frz o u) -> H' b = some (.frz o u)
 tbls:∀ b ps,H b = some (.tbl ps) -> ∃ more,H' b = some (.tbl (ps ++ more))
section
variable {fs fs' ex ex':List Addr} {H H1 H2:Hp} {h h1 h2 h':Heap} {a x e:Addr} {o:HO}
theorem Un.any (u:Un fs ex H H1 h h1) {b:Addr} {ob:Obj} (q:h.get? b = some ob) (n:H b = none) (hx:b ∉ ex):∃ sl,h1.get? b = some { ob with slots := sl }:= by
 by_cases hb:b ∈ fs
 ·exact u.slot b ob q n hb hx
 ·exact ⟨ob.slots,u.keep b ob q n hb hx⟩
theorem Un.trans (a:Un fs ex H H1 h h1) (b:Un fs ex H1 H2 h1 h2):Un fs ex H H2 h h2 where
 keep := fun c ob q n hc hx => b.keep c ob (a.keep c ob q n hc hx) (a.free c ob q n hx) hc hx
 slot := fun c ob q n hc hx => by
  obtain ⟨sl,e1⟩ := a.slot c ob q n hc hx
  obtain ⟨sl',e2⟩ := b.slot c _ e1 (a.free c ob q n hx) hc hx
  exact ⟨sl',e2⟩
 free := fun c ob q n hx => by
  obtain ⟨o',e1⟩ := a.there c ob q hx
  exact b.free c o' e1 (a.free c ob q n hx) hx
 there := fun c ob q hx => by
  obtain ⟨o',e1⟩ := a.there c ob q hx
  exact b.there c o' e1 hx
 tups := fun c xs q => b.tups c xs (a.tups c xs q)
 frzs := fun c ob xs q => b.frzs c ob xs (a.frzs c ob xs q)
 tbls := fun c ps q => by
  obtain ⟨m1,e1⟩ := a.tbls c ps q
  obtain ⟨m2,e2⟩ := b.tbls c _ e1
  exact ⟨m1 ++ m2,by rw [e2,Array.append_assoc]⟩
theorem Un.kept (k:∀ b u,h.get? b = some u -> h'.get? b = some u):Un fs ex H H h h' :=
 ⟨fun b ob q _ _ _ => k b ob q,fun b ob q _ _ _ => ⟨ob.slots,k b ob q⟩,fun _ _ _ n _ => n,fun b ob q _ => ⟨ob,k b ob q⟩,fun _ _ q => q,fun _ _ _ q => q,fun _ ps q => ⟨#[],by rw [q]; simp⟩⟩
theorem Un.refl:Un fs ex H H h h := Un.kept fun _ _ q => q
theorem Un.laid (k:∀ b u,h.get? b = some u -> h'.get? b = some u) (hp:h.objs.size ≤ a) (hn:H a = none):Un fs ex H (upd H a o) h h' where
 keep := fun b u q _ _ _ => k b u q
 slot := fun b u q _ _ _ => ⟨u.slots,k b u q⟩
 free := fun b u q n _ => by rw [upd_ne (Nat.ne_of_lt (Nat.lt_of_lt_of_le (Heap.lt_size q) hp))]; exact n
 there := fun b u q _ => ⟨u,k b u q⟩
 tups := fun b xs q => by rw [upd_ne (ne_of_none q hn)]; exact q
 frzs := fun b u xs q => by rw [upd_ne (ne_of_none q hn)]; exact q
 tbls := fun b ps q => ⟨#[],by rw [upd_ne (ne_of_none q hn),q]; simp⟩
theorem Un.write (mu:Mut (H x)) (he:e = x ∨ H e = some (.own x)) (k:∀ b u,b ≠ e -> h.get? b = some u -> h'.get? b = some u) (heo:∃ u,h'.get? e = some u):Un fs ex H (upd H x o) h h':= by
 have hx:∀ b,H b = none -> b ≠ x := fun b n z => by subst z; rw [n] at mu; exact mu
 have hb:∀ b,H b = none -> b ≠ e := fun b n z => by
  subst z
  rcases he with r | r
  ·exact hx b n r
  ·rw [n] at r; cases r
 have hm:∀ b u,H b = some u -> ¬ Mut (some u) -> b ≠ x := fun b u q nm z => by subst z; rw [q] at mu; exact nm mu
 refine ⟨fun b u q n _ _ => k b u (hb b n) q,fun b u q n _ _ => ⟨u.slots,k b u (hb b n) q⟩,fun b u q n _ => by rw [upd_ne (hx b n)]; exact n,fun b u q _ => ?_,
  fun b xs q => by rw [upd_ne (hm b _ q fun z => z)]; exact q,fun b u xs q => by rw [upd_ne (hm b _ q fun z => z)]; exact q,fun b ps q => ⟨#[],by rw [upd_ne (hm b _ q fun z => z),q]; simp⟩⟩
 by_cases hbe:b = e
 ·subst hbe; exact heo
 ·exact ⟨u,k b u hbe q⟩
theorem Un.mono (u:Un fs ex H H1 h h1) (hs:∀ b ∈ fs,b ∈ fs') (hx:∀ b ∈ ex,b ∈ ex'):Un fs' ex' H H1 h h1 :=
 ⟨fun b ob q n hb he => u.keep b ob q n (fun z => hb (hs b z)) fun z => he (hx b z),fun _ _ q n _ he => u.any q n fun z => he (hx _ z),fun b ob q n he => u.free b ob q n fun z => he (hx b z),fun b ob q he => u.there b ob q fun z => he (hx b z),u.tups,u.frzs,u.tbls⟩
end
noncomputable def trk (h:Heap) (H:Hp):List Addr := (List.range h.objs.size).filter fun a => (H a).isSome
noncomputable def hidT (h:Heap) (H:Hp):Heap := PySem.W.hideAll h (trk h H)
theorem hidT_size (h:Heap) (H:Hp):(hidT h H).objs.size = h.objs.size := PySem.W.hideAll_size _ _
theorem hidT_get {h:Heap} {H:Hp} {b:Addr} {o:Obj} (e:h.get? b = some o) (n:H b = none):(hidT h H).get? b = some o :=
 PySem.W.hideAll_get _ e fun hm => by
  have q:(H b).isSome = true := (List.mem_filter.mp hm).2
  rw [n] at q; simp at q
theorem of_hidT {h:Heap} {H:Hp} {b:Addr} {o:Obj} (e:(hidT h H).get? b = some o):h.get? b = some o ∧ H b = none:= by
 have e':h.get? b = some o := PySem.W.of_hideAll (trk h H) e
 refine ⟨e',?_⟩
 cases q:H b with
 | none => rfl
 | some x =>
  have hm:b ∈ trk h H := List.mem_filter.mpr ⟨List.mem_range.mpr (Heap.lt_size e'),by simp [q]⟩
  have z:(hidT h H).get? b = none := PySem.W.hideAll_none (trk h H) hm
  rw [z] at e; cases e
noncomputable def allNews (g h:Heap) (L:Addr):List (Addr × Obj) := (List.range h.objs.size).filterMap fun a => if a = L ∨ (g.get? a).isSome = true then none else (h.get? a).map fun o => (a,o)
noncomputable def rest (g h:Heap) (L d:Addr):List (Addr × Obj) := (allNews g h L).filter fun p => decide (p.1 ≠ d)
end L2
namespace L2
open PySem PySem.Spec PyProof.Rows
structure Mod (K:PySem.W.Frag) (mg:Str -> Option Value) (base:Heap):Prop where
 kin:K.In base
 glob:base.Ns mainGlobals mg
 blt:∃ mb,base.Ns builtinsNs mb ∧ ∀ x:Str,x ≠ "__name__" -> mb x = bootBuiltins x
 nolimit:base.NoLimit
/-- the context: a def's body (or a comprehension's block) running. base: fixed through the whole law; s₀,H₀: the entry; outer: the frames whose slots others may change (a def's callers); stack: all frames that run;
   ex: iterators that were made ahead of the entry and are walked here (a comprehension's); fn: the names whose cells were made at the entry (a def: all; a comprehension's block: its own); calm: not within an except suite; pn: pins that every state bears; xe: what is wanted of an exception that leaves the code -/
structure Cx where
 prog:Program
 w:World
 K:PySem.W.Frag
 mg:Str -> Option Value
 base:Heap
 A:Around
 N:List Str
 s₀:Shared
 H₀:Hp
 env:Env
 outer:List Env
 stack:List Env
 ex:List Addr
 fn:Str -> Bool
 calm:Bool
 pn:List (Addr × Obj)
 xe:Value -> Shared -> Prop
noncomputable def frs (l:List Env):List Addr := l.filterMap (·.frame)
noncomputable abbrev Cx.fs (X:Cx):List Addr := frs X.outer
noncomputable def Vis (sc:Scope) (x:Str):Prop := sc.names.lookup x = some .local ∨ sc.names.lookup x = some .cell ∨ sc.names.lookup x = some .free
noncomputable def Loc (sc:Scope) (x:Str):Prop := sc.names.lookup x = some .local ∨ sc.names.lookup x = some .cell
noncomputable def Look (env:Env) (h:Heap) (m:Str -> Option Value) (x:Str) (u:Value):Prop :=
 (env.kindOf x = some .local ∧ m x = some u) ∨ ((env.kindOf x = some .cell ∨ env.kindOf x = some .free) ∧ ∃ c,env.cells.lookup x = some c ∧ h.IsCell c (some u))
structure Cx.Ok (X:Cx):Prop where
 mod:Mod X.K X.mg X.base
 kind:X.env.scope.kind = .function
 glob:X.env.globals = mainGlobals
 blt:X.env.builtins = builtinsNs
 above:X.s₀.heap.objs.size ≤ X.env.locals
 inj:∀ x y c,X.env.cells.lookup x = some c -> X.env.cells.lookup y = some c -> x = y
 has:∀ x,(X.env.kindOf x = some .cell ∨ X.env.kindOf x = some .free) -> ∃ c,X.env.cells.lookup x = some c
 cab:∀ x c,X.fn x = true -> X.env.cells.lookup x = some c -> X.s₀.heap.objs.size ≤ c
 hd:X.calm = true -> X.A.handled = none
 frames:X.A.frames = some X.stack
 stk:X.stack = X.outer ∨ (X.stack = X.env :: X.outer ∧ X.env.frame = some X.env.locals)
 exf:∀ b ∈ X.ex,b ≠ X.env.locals ∧ ∀ x c,X.env.cells.lookup x = some c -> c ≠ b
 bs:∀ b o,X.base.get? b = some o -> X.s₀.heap.get? b = some o ∧ X.H₀ b = none
 bsz:X.base.objs.size ≤ X.s₀.heap.objs.size
 noex:∀ b o,X.base.get? b = some o -> b ∉ X.ex
 exfs:∀ b ∈ X.ex,b ∉ X.fs
 funs:X.s₀.heap.FunFrames X.base X.outer
 frf:∀ b ∈ X.fs,X.H₀ b = none
structure Inv (X:Cx) (pins:List (Addr × Obj)) (σ:List (Option V)) (H:Hp) (s:Shared):Prop where
 ok:X.Ok
 os:s.os = X.s₀.os
 bare:AllBare s.gens
 base:Un X.fs X.ex X.H₀ H X.s₀.heap s.heap
 loc:∃ m,s.heap.Ns X.env.locals m ∧ ∀ (i:Nat) (x:Str) (v:V),X.N[i]? = some x -> σ[i]? = some (some v) -> Vis X.env.scope x -> ∃ u,RelV v u ∧ Look X.env s.heap m x u
 cell:∀ x c,X.env.cells.lookup x = some c -> ∃ v,s.heap.IsCell c v
 free:H X.env.locals = none
 freeC:∀ x c,X.env.cells.lookup x = some c -> H c = none
 pin:∀ p ∈ X.pn ++ pins,s.heap.get? p.1 = some p.2 ∧ H p.1 = none ∧ p.1 ≠ X.env.locals ∧ p.1 ∉ X.fs ∧ ∀ v,p.2.data ≠ .cell v
 hok:HOk X.prog X.w H s.heap
 len:σ.length = X.N.length
section
variable {X:Cx} {pins:List (Addr × Obj)} {σ:List (Option V)} {H H':Hp} {s:Shared} {h':Heap}
theorem Cx.Ok.nofr (ok:X.Ok) {b:Addr} {o:Obj} (e:X.base.get? b = some o):b ∉ X.fs := fun hb => by
 have := (ok.funs.mem hb).1
 rw [e] at this; cases this
theorem Inv.bs (I:Inv X pins σ H s):∀ b o,X.base.get? b = some o -> s.heap.get? b = some o ∧ H b = none := fun b o e =>
 ⟨I.base.keep b o (I.ok.bs b o e).1 (I.ok.bs b o e).2 (I.ok.nofr e) (I.ok.noex b o e),I.base.free b o (I.ok.bs b o e).1 (I.ok.bs b o e).2 (I.ok.noex b o e)⟩
theorem Inv.bk (I:Inv X pins σ H s):∀ b o,X.base.get? b = some o -> s.heap.get? b = some o := fun b o e => (I.bs b o e).1
theorem Inv.mod (I:Inv X pins σ H s):Mod X.K X.mg X.base := I.ok.mod
theorem Inv.kIn (I:Inv X pins σ H s):X.K.In s.heap := I.ok.mod.kin.keeps I.bk
theorem Inv.nolimit (I:Inv X pins σ H s):s.heap.NoLimit := I.ok.mod.nolimit.keeps I.bk
theorem Inv.fr (I:Inv X pins σ H s):∃ m,Fr X.base X.env.locals s.heap m :=
 let ⟨m,hn,_⟩ := I.loc
 ⟨m,hn,I.bk,Nat.le_trans I.ok.bsz I.ok.above⟩
theorem Inv.lt (I:Inv X pins σ H s):X.env.locals < s.heap.objs.size := let ⟨_,hn,_⟩ := I.loc; hn.lt
theorem Inv.sz (I:Inv X pins σ H s):X.s₀.heap.objs.size ≤ s.heap.objs.size := Nat.le_trans I.ok.above (Nat.le_of_lt I.lt)
theorem Inv.nofs (I:Inv X pins σ H s) {a:Addr} (h:s.heap.objs.size ≤ a):a ∉ X.fs := fun hb => by
 obtain ⟨_,o,ho,_⟩ := I.ok.funs.mem hb
 exact absurd (Nat.lt_of_lt_of_le (Heap.lt_size ho) (Nat.le_trans I.sz h)) (Nat.lt_irrefl _)
theorem Inv.cne (I:Inv X pins σ H s):∀ x c,X.env.cells.lookup x = some c -> c ≠ X.env.locals := fun x c e z => by
 obtain ⟨v,o,ho,hd⟩ := I.cell x c e
 obtain ⟨m,⟨o',es,ep,ho',hd',_⟩,_⟩ := I.loc
 rw [z,ho'] at ho; cases ho; rw [hd'] at hd; cases hd
theorem Inv.funs (I:Inv X pins σ H s):s.heap.FunFrames X.base X.outer:= by
 have all:∀ (l:List Env),(∀ b ∈ frs l,b ∈ X.fs) -> X.s₀.heap.FunFrames X.base l -> s.heap.FunFrames X.base l:= by
  intro l
  induction l with
  | nil => intro _ _; trivial
  | cons env r ih =>
   intro hs hl
   obtain ⟨hk,⟨L,o,hf,hn,ho,hd⟩,hr⟩ := hl
   have hL:L ∈ X.fs := hs L (by unfold frs; rw [List.filterMap_cons,hf]; exact List.mem_cons_self)
   obtain ⟨sl,e⟩ := I.base.slot L o ho (I.ok.frf L hL) hL fun z => I.ok.exfs L z hL
   exact ⟨hk,⟨L,_,hf,hn,e,hd⟩,ih (fun b hb => hs b (by unfold frs; rw [List.filterMap_cons,hf]; exact List.mem_cons_of_mem _ hb)) hr⟩
 exact all X.outer (fun _ hb => hb) I.ok.funs
theorem Inv.stack (I:Inv X pins σ H s):s.heap.FunFrames X.base X.stack:= by
 rcases I.ok.stk with e | ⟨e,hf⟩
 ·rw [e]; exact I.funs
 ·rw [e]
  obtain ⟨m,hn,_⟩ := I.loc
  refine .cons (by rw [I.ok.kind]; decide) hf hn ?_ I.funs
  exact Heap.get?_none_of_le (Nat.le_trans I.ok.bsz I.ok.above)
theorem Inv.stkSub (I:Inv X pins σ H s):∀ b ∈ frs X.stack,b ∈ X.env.locals :: X.fs := fun b hb => by
 rcases I.ok.stk with e | ⟨e,hf⟩
 ·rw [e] at hb; exact List.mem_cons_of_mem _ hb
 ·rw [e] at hb
  unfold frs at hb
  rw [List.filterMap_cons,hf] at hb
  exact hb
theorem Inv.stkFree (I:Inv X pins σ H s):∀ b ∈ frs X.stack,H b = none := fun b hb => by
 rcases List.mem_cons.mp (I.stkSub b hb) with e | hb
 ·rw [e]; exact I.free
 ·obtain ⟨_,o,ho,_⟩ := I.ok.funs.mem hb
  exact I.base.free b o ho (I.ok.frf b hb) fun z => I.ok.exfs b z hb
theorem Inv.step {g':Array GenState} {t':Nat} {d':Drawn} {ch:List Addr} (I:Inv X pins σ H s)
  (hch:∀ b ∈ ch,(b ∈ X.ex ∨ X.s₀.heap.objs.size ≤ b) ∧ b ≠ X.env.locals ∧ (∀ x c,X.env.cells.lookup x = some c -> c ≠ b) ∧ ∀ p ∈ X.pn ++ pins,p.1 ≠ b)
  (keep:∀ b o,b ≠ X.env.locals -> b ∉ X.fs -> b ∉ ch -> s.heap.get? b = some o -> H b = none -> h'.get? b = some o)
  (slot:∀ b o,b ≠ X.env.locals -> b ∈ X.fs -> b ∉ ch -> s.heap.get? b = some o -> H b = none -> ∃ sl,h'.get? b = some { o with slots := sl }) (free:∀ b o,b ∉ ch -> s.heap.get? b = some o -> H b = none -> H' b = none)
  (there:∀ b o,b ∉ ch -> s.heap.get? b = some o -> ∃ o',h'.get? b = some o')
  (tups:∀ b xs,H b = some (.tup xs) -> H' b = some (.tup xs)) (frzs:∀ b o u,H b = some (.frz o u) -> H' b = some (.frz o u)) (tbls:∀ b ps,H b = some (.tbl ps) -> ∃ more,H' b = some (.tbl (ps ++ more)))
  (ns:∀ m,s.heap.Ns X.env.locals m -> h'.Ns X.env.locals m) (hok:HOk X.prog X.w H' h') (hg:AllBare g') :
  Inv X pins σ H' { s with heap := h',gens := g',drawn := d',toks := t' }:= by
 have neL:∀ b o,X.s₀.heap.get? b = some o -> b ≠ X.env.locals := fun b o e => Nat.ne_of_lt (Nat.lt_of_lt_of_le (Heap.lt_size e) I.ok.above)
 have neC:∀ b o,X.s₀.heap.get? b = some o -> b ∉ X.ex -> b ∉ ch := fun b o e hx hb => by
  rcases (hch b hb).1 with z | z
  ·exact hx z
  ·exact absurd (Nat.lt_of_lt_of_le (Heap.lt_size e) z) (Nat.lt_irrefl _)
 have cellK:∀ x c,X.env.cells.lookup x = some c -> ∀ v,s.heap.IsCell c v -> h'.IsCell c v := fun x c e v ⟨o,ho,hd⟩ => by
  have nch:c ∉ ch := fun z => (hch c z).2.2.1 x c e rfl
  by_cases hc:c ∈ X.fs
  ·obtain ⟨sl,q⟩ := slot c o (I.cne x c e) hc nch ho (I.freeC x c e)
   exact ⟨_,q,hd⟩
  ·exact ⟨o,keep c o (I.cne x c e) hc nch ho (I.freeC x c e),hd⟩
 refine ⟨I.ok,I.os,hg,⟨fun b o e n hb hx => ?_,fun b o e n hb hx => ?_,fun b o e n hx => ?_,fun b o e hx => ?_,fun b xs e => tups b xs (I.base.tups b xs e),fun b o xs e => frzs b o xs (I.base.frzs b o xs e),fun b ps e => ?_⟩,?_,fun x c e => ?_,?_,fun x c e => ?_,fun p hp => ?_,hok,I.len⟩
 ·exact keep b o (neL b o e) hb (neC b o e hx) (I.base.keep b o e n hb hx) (I.base.free b o e n hx)
 ·obtain ⟨sl,e1⟩ := I.base.slot b o e n hb hx
  obtain ⟨sl',e2⟩ := slot b _ (neL b o e) hb (neC b o e hx) e1 (I.base.free b o e n hx)
  exact ⟨sl',e2⟩
 ·obtain ⟨o',e1⟩ := I.base.there b o e hx
  exact free b o' (neC b o e hx) e1 (I.base.free b o e n hx)
 ·obtain ⟨o',e1⟩ := I.base.there b o e hx
  exact there b o' (neC b o e hx) e1
 ·obtain ⟨m1,e1⟩ := I.base.tbls b ps e
  obtain ⟨m2,e2⟩ := tbls b _ e1
  exact ⟨m1 ++ m2,by rw [e2,Array.append_assoc]⟩
 ·obtain ⟨m,hn,hl⟩ := I.loc
  refine ⟨m,ns m hn,fun i x v e1 e2 e3 => ?_⟩
  obtain ⟨u,r,l⟩ := hl i x v e1 e2 e3
  refine ⟨u,r,?_⟩
  rcases l with l | ⟨k,c,e,z⟩
  ·exact .inl l
  ·exact .inr ⟨k,c,e,cellK x c e _ z⟩
 ·obtain ⟨v,z⟩ := I.cell x c e
  exact ⟨v,cellK x c e v z⟩
 ·obtain ⟨m,⟨o,_,_,ho,_⟩,_⟩ := I.loc
  exact free _ o (fun z => (hch _ z).2.1 rfl) ho I.free
 ·obtain ⟨v,o,ho,hd⟩ := I.cell x c e
  exact free c o (fun z => (hch c z).2.2.1 x c e rfl) ho (I.freeC x c e)
 ·obtain ⟨e,n,ne,nf,d⟩ := I.pin p hp
  have nch:p.1 ∉ ch := fun z => (hch p.1 z).2.2.2 p hp rfl
  exact ⟨keep p.1 p.2 ne nf nch e n,free p.1 p.2 nch e n,ne,nf,d⟩
theorem Inv.un {t':Nat} (I:Inv X pins σ H s) (u:Un X.fs [] H H' s.heap h') (hok:HOk X.prog X.w H' h'):Inv X pins σ H' { s with heap := h',toks := t' }:= by
 obtain ⟨m,⟨o,es,ep,ho,r⟩,_⟩ := id I.loc
 obtain ⟨sl,hL⟩ := u.any ho I.free (by simp)
 exact I.step (g' := s.gens) (d' := s.drawn) (ch := []) (fun _ z => nomatch z) (fun b o _ hb _ e n => u.keep b o e n hb (by simp)) (fun b o _ hb _ e n => u.slot b o e n hb (by simp)) (fun b o _ e n => u.free b o e n (by simp)) (fun b o _ e => u.there b o e (by simp)) u.tups u.frzs u.tbls (fun m' hm => by
  obtain ⟨o',es',ep',ho',r'⟩ := hm
  rw [ho] at ho'; cases ho'
  exact ⟨_,es',ep',hL,r'⟩) hok I.bare
theorem Inv.call {g':Array GenState} {t':Nat} {d':Drawn} {ch:List Addr} (I:Inv X pins σ H s) (u:Un (frs X.stack) ch H H' s.heap h') (hok:HOk X.prog X.w H' h') (hg:AllBare g')
  (hch:∀ b ∈ ch,(b ∈ X.ex ∨ X.s₀.heap.objs.size ≤ b) ∧ b ≠ X.env.locals ∧ (∀ x c,X.env.cells.lookup x = some c -> c ≠ b) ∧ ∀ p ∈ X.pn ++ pins,p.1 ≠ b) :
  Inv X pins σ H' { s with heap := h',gens := g',drawn := d',toks := t' }:= by
 obtain ⟨m,⟨o,es,ep,ho,r⟩,_⟩ := id I.loc
 obtain ⟨sl,hL⟩ := u.any ho I.free fun z => (hch _ z).2.1 rfl
 exact I.step (ch := ch) hch (fun b o hL hb hc e n => u.keep b o e n (fun z => (List.mem_cons.mp (I.stkSub b z)).elim hL hb) hc) (fun b o _ _ hc e n => u.any e n hc) (fun b o hc e n => u.free b o e n hc) (fun b o hc e => u.there b o e hc) u.tups u.frzs u.tbls (fun m' hm => by
  obtain ⟨o',es',ep',ho',r'⟩ := hm
  rw [ho] at ho'; cases ho'
  exact ⟨_,es',ep',hL,r'⟩) hok hg
theorem Inv.turned {t':Nat} {it:Addr} (I:Inv X pins σ H s) (k:∀ b o,b ≠ it -> s.heap.get? b = some o -> h'.get? b = some o) (hn:H it = none) (hL:it ≠ X.env.locals)
  (h1:it ∈ X.ex ∨ X.s₀.heap.objs.size ≤ it) (h2:∀ x c,X.env.cells.lookup x = some c -> c ≠ it) (h3:∀ p ∈ X.pn ++ pins,p.1 ≠ it):Inv X pins σ H { s with heap := h',toks := t' }:= by
 have nit:∀ b u,H b = some u -> b ≠ it := fun b u e z => by rw [z,hn] at e; cases e
 refine I.step (g' := s.gens) (d' := s.drawn) (ch := [it]) (fun b hb => ?_) (fun b o _ _ hc e _ => k b o (fun z => hc (by simp [z])) e) (fun b o _ _ hc e _ => ⟨o.slots,k b o (fun z => hc (by simp [z])) e⟩) (fun _ _ _ _ n => n)
  (fun b o hc e => ⟨o,k b o (fun z => hc (by simp [z])) e⟩) (fun _ _ e => e) (fun _ _ _ e => e) (fun b ps e => ⟨#[],by rw [e]; simp⟩) (fun m hm => ?_) (fun b u e => ?_) I.bare
 ·have e:b = it := by simpa using hb
  subst e
  exact ⟨h1,hL,h2,h3⟩
 ·obtain ⟨o,es,ep,ho,r⟩ := hm
  exact ⟨o,es,ep,k _ o (Ne.symm hL) ho,r⟩
 ·refine (I.hok b u e).stay (fun c v hc q => k c v ?_ q) (fun _ q => q) fun _ _ q => q
  rcases hc with z | z
  ·rw [z]; exact nit b u e
  ·exact nit c _ z
theorem Inv.tok (I:Inv X pins σ H s) (t:Nat):Inv X pins σ H { s with toks := t } := I.un (h' := s.heap) (t' := t) Un.refl I.hok
theorem Inv.kept {t':Nat} (I:Inv X pins σ H s) (k:∀ b u,s.heap.get? b = some u -> h'.get? b = some u):Inv X pins σ H { s with heap := h',toks := t' } := I.un (Un.kept k) (I.hok.kept k)
theorem Inv.laid {a:Addr} {o:HO} {t':Nat} (I:Inv X pins σ H s) (k:∀ b u,s.heap.get? b = some u -> h'.get? b = some u) (hp:s.heap.objs.size ≤ a) (new:ObjOk X.prog X.w (upd H a o) h' a o) :
  Inv X pins σ (upd H a o) { s with heap := h',toks := t' } := I.un (Un.laid k hp (I.hok.fresh hp)) (I.hok.laid k hp new)
theorem Inv.write {x e:Addr} {o:HO} {t':Nat} (I:Inv X pins σ H s) (mu:Mut (H x)) (he:e = x ∨ H e = some (.own x)) (k:∀ b u,b ≠ e -> s.heap.get? b = some u -> h'.get? b = some u) (heo:∃ u,h'.get? e = some u)
  (new:ObjOk X.prog X.w (upd H x o) h' x o):Inv X pins σ (upd H x o) { s with heap := h',toks := t' } := I.un (Un.write mu he k heo) (I.hok.write mu he k heo new)
theorem Inv.weak {σ':List (Option V)} (I:Inv X pins σ H s) (hl:σ'.length = σ.length) (w:∀ (i:Nat) v,σ'[i]? = some (some v) -> σ[i]? = some (some v)):Inv X pins σ' H s :=
 ⟨I.ok,I.os,I.bare,I.base,let ⟨m,hn,hl'⟩ := I.loc; ⟨m,hn,fun i x v e1 e2 e3 => hl' i x v e1 (w i v e2) e3⟩,I.cell,I.free,I.freeC,I.pin,I.hok,hl.trans I.len⟩
theorem Inv.pins_of {pins':List (Addr × Obj)} (I:Inv X pins σ H s) (h:∀ p ∈ pins',s.heap.get? p.1 = some p.2 ∧ H p.1 = none ∧ p.1 ≠ X.env.locals ∧ p.1 ∉ X.fs ∧ ∀ v,p.2.data ≠ .cell v):Inv X pins' σ H s :=
 ⟨I.ok,I.os,I.bare,I.base,I.loc,I.cell,I.free,I.freeC,fun p hp => (List.mem_append.mp hp).elim (fun z => I.pin p (List.mem_append_left _ z)) (h p),I.hok,I.len⟩
theorem nodup_ix {N:List Str} (hN:N.Nodup) {i j:Nat} {x:Str} (a:N[i]? = some x) (b:N[j]? = some x):i = j:= by
 obtain ⟨h1,e1⟩ := List.getElem?_eq_some_iff.mp a
 obtain ⟨h2,e2⟩ := List.getElem?_eq_some_iff.mp b
 exact (List.getElem_inj hN).mp (e1.trans e2.symm)
theorem store_ok2 {M:Model} {A:Around} {E:Value -> Shared -> Prop} {i:Nat} {x:Str} {v:V} {u:Value} {Q:Unit -> Shared -> Prop} (I:Inv X pins σ H s) (hN:X.N.Nodup) (hi:X.N[i]? = some x) (hx:Loc X.env.scope x) (r:RelV v u)
  (h:∀ s',Inv X pins (σ.set i (some v)) H s' -> (∃ a,Heap.SameBut a s.heap s'.heap ∧ (a = X.env.locals ∨ X.env.cells.lookup x = some a)) -> Q () s') (hf:X.fn x = true ∨ X.env.scope.names.lookup x = some .local := by first | exact .inl rfl | exact .inr rfl | assumption):wpAny M A (storeName X.env x u) Q E s:= by
 obtain ⟨m,hn,hl⟩ := id I.loc
 have hcls:(X.env.scope.kind == .class || (X.env.scope.kind == .module && X.env.locals != X.env.globals)) = false := by rw [I.ok.kind]; rfl
 have hiσ:i < σ.length := by rw [I.len]; exact (List.getElem?_eq_some_iff.mp hi).1
 have cne := I.cne
 have tracked:∀ {a:Addr} {h':Heap},(∃ o,s.heap.get? a = some o ∧ H a = none) -> Heap.SameBut a s.heap h' -> HOk X.prog X.w H h' := fun {a h'} ha hs b ob e => by
  obtain ⟨_,_,hfree⟩ := ha
  refine (I.hok b ob e).stay (fun c w' hc q => (hs.2 c ?_).trans q) (fun _ q => q) fun _ _ q => q
  rintro rfl
  rcases hc with rfl | hc
  ·rw [hfree] at e; cases e
  ·rw [hfree] at hc; cases hc
 rcases hx with hk | hk
 ·refine wpAny_storeName_local hk hn (fun h' hn' hs => ?_) hcls
  obtain ⟨oL,_,_,hoL,_⟩ := id hn
  refine h _ ⟨I.ok,I.os,I.bare,⟨fun b o e n hb hx => ?_,fun b o e n hb hx => ?_,I.base.free,fun b o e hx => ?_,I.base.tups,I.base.frzs,I.base.tbls⟩,⟨_,hn',fun j y v' e1 e2 e3 => ?_⟩,fun y c e => ?_,I.free,I.freeC,fun p hp => ?_,tracked ⟨oL,hoL,I.free⟩ hs,by simpa using I.len⟩ ⟨_,hs,.inl rfl⟩
  ·exact (hs.2 b (Nat.ne_of_lt (Nat.lt_of_lt_of_le (Heap.lt_size e) I.ok.above))).trans (I.base.keep b o e n hb hx)
  ·obtain ⟨sl,e1⟩ := I.base.slot b o e n hb hx
   exact ⟨sl,(hs.2 b (Nat.ne_of_lt (Nat.lt_of_lt_of_le (Heap.lt_size e) I.ok.above))).trans e1⟩
  ·obtain ⟨o',e1⟩ := I.base.there b o e hx
   exact ⟨o',(hs.2 b (Nat.ne_of_lt (Nat.lt_of_lt_of_le (Heap.lt_size e) I.ok.above))).trans e1⟩
  ·by_cases hj:j = i
   ·subst hj
    rw [hi] at e1; cases e1
    rw [List.getElem?_set_self hiσ] at e2
    cases e2
    exact ⟨u,r,.inl ⟨hk,by simp⟩⟩
   ·rw [List.getElem?_set_ne (Ne.symm hj)] at e2
    obtain ⟨u',r',q⟩ := hl j y v' e1 e2 e3
    refine ⟨u',r',?_⟩
    rcases q with ⟨k,e⟩ | ⟨k,c,e,z⟩
    ·refine .inl ⟨k,?_⟩
     have:y ≠ x := fun e => hj (nodup_ix hN e1 (e ▸ hi))
     simp [this,e]
    ·exact .inr ⟨k,c,e,z.sameBut hs (cne y c e)⟩
  ·obtain ⟨w',z⟩ := I.cell y c e
   exact ⟨w',z.sameBut hs (cne y c e)⟩
  ·obtain ⟨e,n,ne,nf,d⟩ := I.pin p hp
   exact ⟨(hs.2 p.1 ne).trans e,n,ne,nf,d⟩
 ·have hfn:X.fn x = true:= by
   rcases hf with z | z
   ·exact z
   ·rw [z] at hk; cases hk
  obtain ⟨c,hc⟩ := I.ok.has x (.inl hk)
  obtain ⟨w',z⟩ := I.cell x c hc
  refine wpAny_storeName_cell I.ok.kind hk hc z (fun h' hc' hs => ?_)
  obtain ⟨oc,hoc,hocd⟩ := id z
  refine h { s with heap := h' } ⟨I.ok,I.os,I.bare,⟨fun b o e n hb hx => ?_,fun b o e n hb hx => ?_,I.base.free,fun b o e hx => ?_,I.base.tups,I.base.frzs,I.base.tbls⟩,⟨m,hn.sameBut hs (Ne.symm (cne x c hc)),fun j y v' e1 e2 e3 => ?_⟩,fun y c' e => ?_,I.free,I.freeC,fun p hp => ?_,tracked ⟨oc,hoc,I.freeC x c hc⟩ hs,by simpa using I.len⟩ ⟨c,hs,.inr hc⟩
  ·exact (hs.2 b (Nat.ne_of_lt (Nat.lt_of_lt_of_le (Heap.lt_size e) (I.ok.cab x c hfn hc)))).trans (I.base.keep b o e n hb hx)
  ·obtain ⟨sl,e1⟩ := I.base.slot b o e n hb hx
   exact ⟨sl,(hs.2 b (Nat.ne_of_lt (Nat.lt_of_lt_of_le (Heap.lt_size e) (I.ok.cab x c hfn hc)))).trans e1⟩
  ·obtain ⟨o',e1⟩ := I.base.there b o e hx
   exact ⟨o',(hs.2 b (Nat.ne_of_lt (Nat.lt_of_lt_of_le (Heap.lt_size e) (I.ok.cab x c hfn hc)))).trans e1⟩
  ·by_cases hj:j = i
   ·subst hj
    rw [hi] at e1; cases e1
    rw [List.getElem?_set_self hiσ] at e2
    cases e2
    exact ⟨u,r,.inr ⟨.inl hk,c,hc,hc'⟩⟩
   ·rw [List.getElem?_set_ne (Ne.symm hj)] at e2
    obtain ⟨u',r',q⟩ := hl j y v' e1 e2 e3
    refine ⟨u',r',?_⟩
    rcases q with q | ⟨k,c',e,z'⟩
    ·exact .inl q
    ·refine .inr ⟨k,c',e,z'.sameBut hs ?_⟩
     rintro rfl
     exact hj (nodup_ix hN e1 (I.ok.inj _ _ _ e hc ▸ hi))
  ·by_cases hcc:c' = c
   ·subst hcc; exact ⟨_,hc'⟩
   ·obtain ⟨w2,z2⟩ := I.cell y c' e
    exact ⟨w2,z2.sameBut hs hcc⟩
  ·obtain ⟨e,n,ne,nf,d⟩ := I.pin p hp
   refine ⟨(hs.2 p.1 ?_).trans e,n,ne,nf,d⟩
   intro q
   rw [q,hoc] at e
   have q':oc = p.2 := Option.some.inj e
   exact d w' (by rw [<- q']; exact hocd)
theorem store_ok {M:Model} {A:Around} {E:Value -> Shared -> Prop} {i:Nat} {x:Str} {v:V} {u:Value} {Q:Unit -> Shared -> Prop} (I:Inv X pins σ H s) (hN:X.N.Nodup) (hi:X.N[i]? = some x) (hx:Loc X.env.scope x) (r:RelV v u)
  (h:∀ s',Inv X pins (σ.set i (some v)) H s' -> Q () s') (hf:X.fn x = true ∨ X.env.scope.names.lookup x = some .local := by first | exact .inl rfl | exact .inr rfl | assumption):wpAny M A (storeName X.env x u) Q E s :=
 store_ok2 I hN hi hx r (fun s' I' _ => h s' I') hf
theorem Inv.call' {s':Shared} {ch:List Addr} (I:Inv X pins σ H s) (ho:s'.os = s.os) (u:Un (frs X.stack) ch H H' s.heap s'.heap) (hok:HOk X.prog X.w H' s'.heap) (hg:AllBare s'.gens)
  (hch:∀ b ∈ ch,(b ∈ X.ex ∨ X.s₀.heap.objs.size ≤ b) ∧ b ≠ X.env.locals ∧ (∀ x c,X.env.cells.lookup x = some c -> c ≠ b) ∧ ∀ p ∈ X.pn ++ pins,p.1 ≠ b):Inv X pins σ H' s':= by
 obtain ⟨h',g',d',t',o'⟩ := s'
 have e:o' = s.os := ho
 subst e
 exact I.call (g' := g') (t' := t') (d' := d') u hok hg hch
end
noncomputable abbrev XK := Value -> Option Addr -> Hp -> Prop
noncomputable abbrev St := List (Option V)
noncomputable abbrev VK := V -> Hp -> Prop
noncomputable abbrev TE := St -> Hp -> VK -> Prop
noncomputable abbrev TT := St -> Hp -> (Bool -> Hp -> Prop) -> Prop
noncomputable abbrev TA := St -> Hp -> (List V -> Hp -> Prop) -> Prop
structure Ends where
 nx:St -> Hp -> Prop
 rt:VK
 bk:St -> Hp -> Prop := fun _ _ => False
 ct:St -> Hp -> Prop := fun _ _ => False
noncomputable abbrev TS := Ends -> St -> Hp -> Prop
noncomputable def EP (X:Cx) (pins:List (Addr × Obj)) (σ:St) (Q:VK) (u:Value) (s':Shared):Prop := ∃ v H',Inv X pins σ H' s' ∧ RelV v u ∧ Q v H'
noncomputable def TP (X:Cx) (pins:List (Addr × Obj)) (σ:St) (Q:Bool -> Hp -> Prop) (b:Bool) (s':Shared):Prop := ∃ H',Inv X pins σ H' s' ∧ Q b H'
noncomputable def AP (X:Cx) (pins:List (Addr × Obj)) (σ:St) (Q:List V -> Hp -> Prop) (us:List Value) (s':Shared):Prop := ∃ vs H',Inv X pins σ H' s' ∧ Vals vs us ∧ Q vs H'
noncomputable def SP (X:Cx) (pins:List (Addr × Obj)) (D:Ends) (f:Flow) (s':Shared):Prop :=
 match f with
 | .next => ∃ σ' H',Inv X pins σ' H' s' ∧ D.nx σ' H'
 | .brk => ∃ σ' H',Inv X pins σ' H' s' ∧ D.bk σ' H'
 | .cont => ∃ σ' H',Inv X pins σ' H' s' ∧ D.ct σ' H'
 | .ret u => ∃ v σ' H',Inv X pins σ' H' s' ∧ RelV v u ∧ D.rt v H'
noncomputable def PE (X:Cx) (e:Expr) (t:TE):Prop :=
 ∀ (pins:List (Addr × Obj)) (s:Shared) (σ:St) (H:Hp) (Q:VK),Inv X pins σ H s -> t σ H Q -> wpAny (model X.prog X.w) X.A (eval e X.env) (EP X pins σ Q) X.xe s
noncomputable def PT (X:Cx) (e:Expr) (t:TT):Prop :=
 ∀ (pins:List (Addr × Obj)) (s:Shared) (σ:St) (H:Hp) (Q:Bool -> Hp -> Prop),Inv X pins σ H s -> t σ H Q -> wpAny (model X.prog X.w) X.A (isTrue e X.env (eval e X.env)) (TP X pins σ Q) X.xe s
noncomputable def PW (X:Cx) (e:Expr) (t:TT):Prop :=
 ∀ (whole:Sem Value) (pins:List (Addr × Obj)) (s:Shared) (σ:St) (H:Hp) (Q:Bool -> Hp -> Prop),Inv X pins σ H s -> t σ H Q -> wpAny (model X.prog X.w) X.A (isTrue e X.env whole) (TP X pins σ Q) X.xe s
theorem PW.pt {X:Cx} {e:Expr} {t:TT} (h:PW X e t):PT X e t := h _
noncomputable def PA (X:Cx) (es:List Expr) (t:TA):Prop :=
 ∀ (pos:Pos) (pins:List (Addr × Obj)) (s:Shared) (σ:St) (H:Hp) (Q:List V -> Hp -> Prop),Inv X pins σ H s -> t σ H Q -> wpAny (model X.prog X.w) X.A (spliced (backTo pos (starEach es X.env))) (AP X pins σ Q) X.xe s
noncomputable def PS (X:Cx) (st:Stmt) (t:TS):Prop :=
 ∀ (pins:List (Addr × Obj)) (s:Shared) (σ:St) (H:Hp) (D:Ends),Inv X pins σ H s -> t D σ H -> wpAny (model X.prog X.w) X.A (exec st X.env) (SP X pins D) X.xe s
noncomputable def PSs (X:Cx) (st:List Stmt) (t:TS):Prop :=
 ∀ (pins:List (Addr × Obj)) (s:Shared) (σ:St) (H:Hp) (D:Ends),Inv X pins σ H s -> t D σ H -> wpAny (model X.prog X.w) X.A (execs st X.env) (SP X pins D) X.xe s
theorem thn {α:Type} {t:Sem α} {Q Q':α -> Shared -> Prop} {M:Model} {A:Around} {E:Value -> Shared -> Prop} {s:Shared} (h:wpAny M A t Q E s) (hQ:∀ a s,Q a s -> Q' a s):wpAny M A t Q' E s := wpAny_mono h hQ fun _ _ x => x
end L2
namespace L2
open PySem PySem.Spec PyProof.Rows
section
variable {X:Cx}
theorem bin {a b:Expr} {ta tb:TE} (ha:PE X a ta) (hb:PE X b tb) {pins:List (Addr × Obj)} {s:Shared} {σ:St} {H:Hp} {R:V -> V -> Hp -> Prop} (I:Inv X pins σ H s) (h:ta σ H fun x H1 => tb σ H1 fun y H2 => R x y H2)
  {α:Type} {Q:α -> Shared -> Prop} {f:Value -> Value -> Sem α}
  (hf:∀ v u s2 x y H2,Inv X pins σ H2 s2 -> RelV x v -> RelV y u -> R x y H2 -> wpAny (model X.prog X.w) X.A (f v u) Q X.xe s2) :
  wpAny (model X.prog X.w) X.A (eval a X.env) (fun v s₁ => wpAny (model X.prog X.w) X.A (eval b X.env) (fun u s₂ => wpAny (model X.prog X.w) X.A (f v u) Q X.xe s₂) X.xe s₁) X.xe s:= by
 refine thn (ha pins s σ H _ I h) fun v s1 ⟨x,H1,I1,r1,q1⟩ => ?_
 refine thn (hb pins s1 σ H1 _ I1 q1) fun u s2 ⟨y,H2,I2,r2,q2⟩ => ?_
 exact hf v u s2 x y H2 I2 r1 r2 q2
noncomputable def tVar (i:Nat):TE := fun σ H Q => ∃ v,σ[i]? = some (some v) ∧ Q v H
noncomputable def tC (v:V):TE := fun _ H Q => Q v H
theorem pe_var {i:Nat} {x:Str} {pos:Pos} (hN:X.N[i]? = some x) (hv:Vis X.env.scope x) (hd:(x == ("__debug__":Str)) = false := by decide) (hcd:(x == ("__classdict__":Str)) = false := by decide):PE X (.Name x pos) (tVar i):= by
 intro pins s σ H Q I h
 obtain ⟨v,e,h⟩ := h
 obtain ⟨m,hn,hl⟩ := I.loc
 obtain ⟨u,r,l⟩ := hl i x v hN e hv
 have fin:EP X pins σ Q u s := ⟨v,H,I,r,h⟩
 rcases l with ⟨hk,hm⟩ | ⟨hk,c,hc,hcell⟩
 ·exact wpAny_Name (wpAny_loadName_local I.ok.kind hk hn hm fin) hd
 ·rcases hk with hk | hk
  ·exact wpAny_Name (wpAny_loadName_cell I.ok.kind hk hc hcell fin) hd
  ·exact wpAny_Name (wpAny_loadName_free I.ok.kind hk hc hcell fin hcd) hd
theorem pe_int {i j pos}:PE X (.Constant (.int i) j pos) (tC (.int i)) := fun _ _ _ H _ I h => wpAny_Constant_int ⟨.int i,H,I.tok _,⟨_,rfl⟩,h⟩
theorem pe_bl {b j pos}:PE X (.Constant (.bool b) j pos) (tC (.bl b)) := fun _ _ _ H _ I h => Constant_bool ⟨.bl b,H,I,rfl,h⟩
theorem pe_str {x j pos}:PE X (.Constant (.str x) j pos) (tC (.str x)) := fun _ _ _ H _ I h => Calls.Constant_str ⟨.str x,H,I.tok _,⟨_,rfl⟩,h⟩
noncomputable def Gl (X:Cx) (x:Str):Prop := X.env.kindOf x = some .globalImplicit
theorem ld_glob {E:Value -> Shared -> Prop} {pins:List (Addr × Obj)} {s:Shared} {σ:St} {H:Hp} {x:Str} {u:Value} {pos:Pos} {Q:Value -> Shared -> Prop} (I:Inv X pins σ H s) (hg:Gl X x) (hm:X.mg x = some u) (h:Q u s)
  (hd:(x == ("__debug__":Str)) = false := by decide):wpAny (model X.prog X.w) X.A (eval (.Name x pos) X.env) Q E s :=
 Calls.Name_function_global I.ok.kind hg (Calls.loadGlobal_global (by rw [I.ok.glob]; exact I.mod.glob.keeps I.bk) hm h) hd
theorem ld_blt {E:Value -> Shared -> Prop} {pins:List (Addr × Obj)} {s:Shared} {σ:St} {H:Hp} {x:Str} {u:Value} {pos:Pos} {Q:Value -> Shared -> Prop} (I:Inv X pins σ H s) (hg:Gl X x) (hm:X.mg x = none) (hv:bootBuiltins x = some u) (h:Q u s)
  (hn:x ≠ "__name__" := by decide) (hd:(x == ("__debug__":Str)) = false := by decide):wpAny (model X.prog X.w) X.A (eval (.Name x pos) X.env) Q E s:= by
 obtain ⟨mb,h1,h2⟩ := I.mod.blt
 exact Calls.Name_function_global I.ok.kind hg (Calls.loadGlobal_builtin (by rw [I.ok.glob]; exact I.mod.glob.keeps I.bk) hm (by rw [I.ok.blt]; exact h1.keeps I.bk) ((h2 x hn).trans hv) h) hd
theorem pe_bltn {x:Str} {v:V} {u:Value} {pos:Pos} (hg:Gl X x) (hm:X.mg x = none) (hv:bootBuiltins x = some u) (r:RelV v u) (hn:x ≠ "__name__" := by decide) (hd:(x == ("__debug__":Str)) = false := by decide):PE X (.Name x pos) (tC v) :=
 fun _ _ _ H _ I h => ld_blt I hg hm hv ⟨v,H,I,r,h⟩ hn hd
variable {a b:Expr} {ta tb:TE} {pos:Pos}
variable {tA tB':TT} {rest:List Expr}
noncomputable def tAnd (t u:TT):TT := fun σ H Q => t σ H fun c H1 => if c = true then u σ H1 Q else Q false H1
noncomputable def tOr (t u:TT):TT := fun σ H Q => t σ H fun c H1 => if c = true then Q true H1 else u σ H1 Q
noncomputable def tNot (t:TT):TT := fun σ H Q => t σ H fun c H1 => Q (!c) H1
theorem pw_and1 (ha:PT X a tA):PW X (.BoolOp .And [a] pos) tA:= by
 intro wh pins s σ H Q I h
 refine isTrue_and (thn (ha pins s σ H Q I h) fun c s1 e => ?_)
 cases c with
 | true => exact isTrue_and_nil e
 | false => exact e
theorem pw_or1 (ha:PT X a tA):PW X (.BoolOp .Or [a] pos) tA:= by
 intro wh pins s σ H Q I h
 refine isTrue_or (thn (ha pins s σ H Q I h) fun c s1 e => ?_)
 cases c with
 | false => exact isTrue_or_nil e
 | true => exact e
theorem pw_and (ha:PT X a tA) (hb:PW X (.BoolOp .And (b :: rest) pos) tB'):PW X (.BoolOp .And (a :: b :: rest) pos) (tAnd tA tB'):= by
 intro wh pins s σ H Q I h
 refine isTrue_and (thn (ha pins s σ H _ I h) fun c s1 ⟨H1,I1,q1⟩ => ?_)
 cases c with
 | true => exact hb wh pins s1 σ H1 Q I1 q1
 | false => exact ⟨H1,I1,q1⟩
theorem pw_or (ha:PT X a tA) (hb:PW X (.BoolOp .Or (b :: rest) pos) tB'):PW X (.BoolOp .Or (a :: b :: rest) pos) (tOr tA tB'):= by
 intro wh pins s σ H Q I h
 refine isTrue_or (thn (ha pins s σ H _ I h) fun c s1 ⟨H1,I1,q1⟩ => ?_)
 cases c with
 | true => exact ⟨H1,I1,q1⟩
 | false => exact hb wh pins s1 σ H1 Q I1 q1
theorem pt_not (ha:PT X a tA):PT X (.UnaryOp .Not a pos) (tNot tA):= by
 intro pins s σ H Q I h
 exact isTrue_not (ha pins s σ H (fun c H1 => Q (!c) H1) I h)
noncomputable def tAndV (ta tb:TE):TE := fun σ H Q => ta σ H fun x H1 => ∃ c,x = .bl c ∧ if c = true then tb σ H1 Q else Q (.bl false) H1
theorem pe_one {op} {t:TE} (h:PE X a t):PE X (.BoolOp op [a] pos) t := fun pins s σ H Q I hw => BoolOp_one (h pins s σ H Q I hw)
theorem pe_and (ha:PE X a ta) (hb:PE X (.BoolOp .And (b :: rest) pos) tb):PE X (.BoolOp .And (a :: b :: rest) pos) (tAndV ta tb):= by
 intro pins s σ H Q I h
 refine BoolOp_and (thn (ha pins s σ H _ I h) fun v s1 ⟨x,H1,I1,r1,q1⟩ => ?_)
 obtain ⟨c,rfl,q1⟩ := q1
 cases r1
 refine wpAny_truthy_bool ?_
 cases c with
 | true => exact hb pins s1 σ H1 Q I1 q1
 | false => exact ⟨.bl false,H1,I1,rfl,q1⟩
end
end L2
namespace L2
open PySem PySem.Spec PyProof.Rows
noncomputable def SqL (K:PySem.W.Frag) (H:Hp) (a:Addr) (xs:List V):Prop :=
 Rd H a (.lst xs) ∨
  ∃ (o:Obj) (its:Array Value) (n:Nat),K.lookup a = some o ∧ o.cls = .type "list" ∧ o.dict = none ∧ o.data = .seq its n ∧ its.size ≤ sizeLine ∧ Vals xs its.toList
noncomputable def SqT (K:PySem.W.Frag) (H:Hp) (a:Addr) (xs:List V):Prop :=
 Rd H a (.tup xs) ∨
  ∃ (o:Obj) (its:Array Value) (n:Nat),K.lookup a = some o ∧ o.cls = .type "tuple" ∧ o.data = .seq its n ∧ its.size ≤ sizeLine ∧ Vals xs its.toList
noncomputable def absV:Value -> Option V
 | .none => some .non
 | .bool b => some (.bl b)
 | .int i _ => some (.int i)
 | .str x _ => some (.str x)
 | .bytes b _ => some (.byt b)
 | .float b _ => some (.flt b)
 | .ref a => some (.ref a)
 | .type n => some (.ty n)
 | _ => none
theorem RelV.abs {x:V} {u:Value} (r:RelV x u):absV u = some x:= by
 cases x with
 | non => cases r; rfl
 | bl _ => cases r; rfl
 | int _ => obtain ⟨t,rfl⟩ := r; rfl
 | str _ => obtain ⟨t,rfl⟩ := r; rfl
 | byt _ => obtain ⟨t,rfl⟩ := r; rfl
 | flt _ => obtain ⟨t,rfl⟩ := r; rfl
 | ref _ => cases r; rfl
 | ty _ => cases r; rfl
theorem RelV.inj {x y:V} {u:Value} (r:RelV x u) (q:RelV y u):x = y := Option.some.inj (r.abs.symm.trans q.abs)
theorem Vals.inj:∀ {xs ys:List V} {us:List Value},Vals xs us -> Vals ys us -> xs = ys
 | _,_,_,.nil,.nil => rfl
 | _,_,_,.cons r t,.cons r' t' => by rw [r.inj r',Vals.inj t t']
section
variable {X:Cx} {pins:List (Addr × Obj)} {σ:St} {H:Hp} {s:Shared} {a:Addr} {xs ys:List V}
theorem SqL.of {K:PySem.W.Frag} (h:H a = some (.lst xs)):SqL K H a xs := .inl (.inl h)
theorem SqT.of {K:PySem.W.Frag} (h:H a = some (.tup xs)):SqT K H a xs := .inl (.inl h)
theorem Inv.list (I:Inv X pins σ H s) (h:SqL X.K H a xs):∃ its:List Value,Vals xs its ∧ PlainL s.heap a its.toArray ∧ xs.length ≤ sizeLine:= by
 rcases h with h | ⟨o,its,n,hk,hc,hd,hs,hz,r⟩
 ·obtain ⟨z,its,n,r,e⟩ := h.ok I.hok
  exact ⟨its,r,⟨_,n,e,rfl,rfl,rfl⟩,z⟩
 ·refine ⟨its.toList,r,⟨o,n,I.kIn a o hk,hc,hd,by simpa using hs⟩,?_⟩
  have e := r.length
  simp only [Array.length_toList] at e
  omega
theorem Inv.tuple (I:Inv X pins σ H s) (h:SqT X.K H a xs):∃ its:List Value,Vals xs its ∧ IsTup s.heap a its.toArray ∧ xs.length ≤ sizeLine:= by
 rcases h with h | ⟨o,its,n,hk,hc,hs,hz,r⟩
 ·obtain ⟨z,its,r,p⟩ := h.ok I.hok
  exact ⟨its,r,p,z⟩
 ·refine ⟨its.toList,r,⟨o,I.kIn a o hk,hc,n,by simpa using hs⟩,?_⟩
  have e := r.length
  simp only [Array.length_toList] at e
  omega
theorem Inv.list_inj (I:Inv X pins σ H s) (h:SqL X.K H a xs) (h':SqL X.K H a ys):xs = ys:= by
 obtain ⟨its,r,⟨o,n,e,_,_,d⟩,_⟩ := I.list h
 obtain ⟨its',r',⟨o',n',e',_,_,d'⟩,_⟩ := I.list h'
 rw [e] at e'; cases e'
 rw [d] at d'
 injection d' with d1 _
 have:its = its' := by simpa using congrArg Array.toList d1
 subst this
 exact r.inj r'
theorem Inv.tuple_inj (I:Inv X pins σ H s) (h:SqT X.K H a xs) (h':SqT X.K H a ys):xs = ys:= by
 obtain ⟨its,r,⟨o,e,_,n,d⟩,_⟩ := I.tuple h
 obtain ⟨its',r',⟨o',e',_,n',d'⟩,_⟩ := I.tuple h'
 rw [e] at e'; cases e'
 rw [d] at d'
 injection d' with d1 _
 have:its = its' := by simpa using congrArg Array.toList d1
 subst this
 exact r.inj r'
end
noncomputable abbrev Cx.wish (X:Cx) (E:Value -> Shared -> Prop):Cx := { X with xe := E }
noncomputable abbrev Cx.nox (X:Cx):Cx := X.wish fun _ _ => False
theorem Cx.Ok.wish {X:Cx} (ok:X.Ok) (E:Value -> Shared -> Prop):(X.wish E).Ok :=
 ⟨ok.mod,ok.kind,ok.glob,ok.blt,ok.above,ok.inj,ok.has,ok.cab,ok.hd,ok.frames,ok.stk,ok.exf,ok.bs,ok.bsz,ok.noex,ok.exfs,ok.funs,ok.frf⟩
theorem Cx.Ok.unwish {X:Cx} {E:Value -> Shared -> Prop} (ok:(X.wish E).Ok):X.Ok :=
 ⟨ok.mod,ok.kind,ok.glob,ok.blt,ok.above,ok.inj,ok.has,ok.cab,ok.hd,ok.frames,ok.stk,ok.exf,ok.bs,ok.bsz,ok.noex,ok.exfs,ok.funs,ok.frf⟩
section
variable {X:Cx} {pins:List (Addr × Obj)} {σ:St} {H:Hp} {s:Shared} {E:Value -> Shared -> Prop}
theorem Inv.wish (I:Inv X pins σ H s) (E:Value -> Shared -> Prop):Inv (X.wish E) pins σ H s := ⟨I.ok.wish E,I.os,I.bare,I.base,I.loc,I.cell,I.free,I.freeC,I.pin,I.hok,I.len⟩
theorem Inv.unwish (I:Inv (X.wish E) pins σ H s):Inv X pins σ H s := ⟨I.ok.unwish,I.os,I.bare,I.base,I.loc,I.cell,I.free,I.freeC,I.pin,I.hok,I.len⟩
theorem SP.unwish {D:Ends} {f:Flow} {s':Shared} (h:SP (X.wish E) pins D f s'):SP X pins D f s':= by
 cases f with
 | next => obtain ⟨σ',H',I,q⟩ := h; exact ⟨σ',H',I.unwish,q⟩
 | brk => obtain ⟨σ',H',I,q⟩ := h; exact ⟨σ',H',I.unwish,q⟩
 | cont => obtain ⟨σ',H',I,q⟩ := h; exact ⟨σ',H',I.unwish,q⟩
 | ret u => obtain ⟨v,σ',H',I,r,q⟩ := h; exact ⟨v,σ',H',I.unwish,r,q⟩
theorem PE.nox {e:Expr} {t:TE} (h:PE X.nox e t):PE X e t := fun pins s σ H Q I hw =>
 wpAny_mono (h pins s σ H Q (I.wish _) hw) (fun _ _ ⟨v,H',I',r,q⟩ => ⟨v,H',I'.unwish,r,q⟩) fun _ _ z => False.elim z
theorem PT.nox {e:Expr} {t:TT} (h:PT X.nox e t):PT X e t := fun pins s σ H Q I hw =>
 wpAny_mono (h pins s σ H Q (I.wish _) hw) (fun _ _ ⟨H',I',q⟩ => ⟨H',I'.unwish,q⟩) fun _ _ z => False.elim z
theorem PSs.nox {st:List Stmt} {t:TS} (h:PSs X.nox st t):PSs X st t := fun pins s σ H D I hw =>
 wpAny_mono (h pins s σ H D (I.wish _) hw) (fun _ _ q => q.unwish) fun _ _ z => False.elim z
end
section
variable {X:Cx} {st:Stmt} {rest:List Stmt} {t u:TS} {e:Expr} {te:TE} {pos:Pos}
noncomputable def tNext:TS := fun D σ H => D.nx σ H
noncomputable def tSeq (t u:TS):TS := fun D σ H => t { D with nx := u D } σ H
theorem pss_nil:PSs X [] tNext := fun _ _ σ H _ I h => wpAny_execs_nil ⟨σ,H,I,h⟩
theorem pss_cons (h1:PS X st t) (h2:PSs X rest u):PSs X (st :: rest) (tSeq t u):= by
 intro pins s σ H D I h
 refine wpAny_execs_cons (thn (h1 pins s σ H { D with nx := u D } I h) fun f s1 q => ?_)
 cases f with
 | next =>
  obtain ⟨σ',H',I',q⟩ := q
  exact h2 pins s1 σ' H' D I' q
 | ret v => exact q
 | brk => exact q
 | cont => exact q
theorem pss_one (h1:PS X st t):PSs X [st] t:= by
 intro pins s σ H D I h
 refine wpAny_execs_cons (thn (h1 pins s σ H D I h) fun f s1 q => ?_)
 cases f with
 | next => exact wpAny_execs_nil q
 | ret v => exact q
 | brk => exact q
 | cont => exact q
theorem Inv.quiet {pins:List (Addr × Obj)} {σ:St} {H:Hp} {s:Shared} (I:Inv X pins σ H s):interactive X.env = false := by simp [interactive,I.ok.kind]
noncomputable def tDrop (te:TE):TS := fun D σ H => te σ H fun _ H1 => D.nx σ H1
theorem ps_expr (he:PE X e te) (hs:swapsWith e none pos.line X.env = pure false := by rfl):PS X (.Expr e pos) (tDrop te):= by
 intro pins s σ H D I h
 exact wpAny_Expr_any (thn (he pins s σ H _ I h) fun v s1 ⟨x,H1,I1,r1,q1⟩ => ⟨σ,H1,I1,q1⟩) I.quiet hs
noncomputable def tRet (te:TE):TS := fun D σ H => te σ H D.rt
theorem ps_ret (he:PE X e te):PS X (.Return (some e) pos) (tRet te):= by
 intro pins s σ H D I h
 exact wpAny_Return_some (thn (he pins s σ H _ I h) fun v s1 ⟨x,H1,I1,r1,q1⟩ => ⟨x,σ,H1,I1,r1,q1⟩)
noncomputable def tIfS (c:TT) (t u:TS):TS := fun D σ H => c σ H fun b H1 => if b = true then t D σ H1 else u D σ H1
theorem ps_if {c:Expr} {a b:List Stmt} {tc:TT} (hc:PT X c tc) (ha:PSs X a t) (hb:PSs X b u):PS X (.If c a b pos) (tIfS tc t u):= by
 intro pins s σ H D I h
 refine wpAny_If (thn (hc pins s σ H _ I h) fun d s1 ⟨H1,I1,q1⟩ => ?_)
 cases d with
 | true => exact ha pins s1 σ H1 D I1 q1
 | false => exact hb pins s1 σ H1 D I1 q1
end
noncomputable abbrev TG := V -> St -> Hp -> (St -> Hp -> Prop) -> Prop
noncomputable abbrev TGs := List V -> St -> Hp -> (St -> Hp -> Prop) -> Prop
noncomputable def PG (X:Cx) (target:Expr) (t:TG):Prop :=
 ∀ (pins:List (Addr × Obj)) (s:Shared) (σ:St) (H:Hp) (v:V) (u:Value) (Q:St -> Hp -> Prop),Inv X pins σ H s -> RelV v u -> t v σ H Q ->
  wpAny (model X.prog X.w) X.A (assign target X.env u) (fun _ s' => ∃ σ' H',Inv X pins σ' H' s' ∧ Q σ' H') X.xe s
noncomputable def PGs (X:Cx) (ts:List Expr) (t:TGs):Prop :=
 ∀ (pins:List (Addr × Obj)) (s:Shared) (σ:St) (H:Hp) (vs:List V) (us:List Value) (Q:St -> Hp -> Prop),Inv X pins σ H s -> Vals vs us -> t vs σ H Q ->
  wpAny (model X.prog X.w) X.A (assignInOrder ((assignEach ts X.env).map (·.2)) us) (fun _ s' => ∃ σ' H',Inv X pins σ' H' s' ∧ Q σ' H') X.xe s
noncomputable abbrev TSet := V -> V -> V -> Hp -> (Hp -> Prop) -> Prop
noncomputable def PSet (X:Cx) (t:TSet):Prop :=
 ∀ (pins:List (Addr × Obj)) (s:Shared) (σ:St) (H:Hp) (o i v:V) (ov iv u:Value) (Q:Hp -> Prop),Inv X pins σ H s -> RelV o ov -> RelV i iv -> RelV v u -> t o i v H Q ->
  wpAny (model X.prog X.w) X.A (setItem ov iv u) (fun _ s' => ∃ H',Inv X pins σ H' s' ∧ Q H') X.xe s
section
variable {X:Cx} {pos:Pos}
noncomputable def gName (i:Nat):TG := fun v σ H Q => Q (σ.set i (some v)) H
theorem pg_name {i:Nat} {x:Str} (hN:X.N.Nodup) (hi:X.N[i]? = some x) (hx:Loc X.env.scope x) (hf:X.fn x = true ∨ X.env.scope.names.lookup x = some .local := by first | exact .inl rfl | exact .inr rfl | assumption):PG X (.Name x pos) (gName i):= by
 intro pins s σ H v u Q I r h
 exact wpAny_assign_Name (store_ok I hN hi hx r (fun s' I' => ⟨_,H,I',h⟩) hf)
noncomputable def gNil:TGs := fun vs σ H Q => vs = [] ∧ Q σ H
noncomputable def gCons (t:TG) (u:TGs):TGs := fun vs σ H Q => ∃ v r,vs = v :: r ∧ t v σ H fun σ' H' => u r σ' H' Q
theorem pgs_nil:PGs X [] gNil:= by
 intro pins s σ H vs us Q I r h
 obtain ⟨e,h⟩ := h
 subst e
 cases r
 exact assignInOrder_nil ⟨σ,H,I,h⟩
theorem pgs_cons {e:Expr} {es:List Expr} {t:TG} {u:TGs} (h1:PG X e t) (h2:PGs X es u)
  (hs:(assignEach (e :: es) X.env).map (·.2) = assign e X.env :: (assignEach es X.env).map (·.2) := by rfl):PGs X (e :: es) (gCons t u):= by
 intro pins s σ H vs us Q I r h
 obtain ⟨v,vr,e1,h⟩ := h
 subst e1
 cases r with
 | cons r rr =>
  rw [hs]
  refine assignInOrder_cons (thn (h1 pins s σ H _ _ _ I r h) fun _ s1 ⟨σ1,H1,I1,q1⟩ => ?_)
  exact h2 pins s1 σ1 H1 _ _ Q I1 rr q1
noncomputable def gTup (K:PySem.W.Frag) (n:Nat) (t:TGs):TG := fun v σ H Q => ∃ a xs,v = .ref a ∧ SqT K H a xs ∧ xs.length = n ∧ t xs σ H Q
theorem pg_tup {es:List Expr} {k:Nat} {t:TGs} {n:Nat} (hc:X.calm = true) (h:PGs X es t)
  (hn:(assignEach es X.env).length = n := by rfl) (hst:(assignEach es X.env).findIdx? (·.1) = none := by rfl):PG X (.Tuple es k pos) (gTup X.K n t):= by
 intro pins s σ H v u Q I r hw
 obtain ⟨a,xs,e1,hq,hl,hw⟩ := hw
 subst e1
 cases r
 obtain ⟨its,rv,ht,hz⟩ := I.tuple hq
 refine assign_Tuple_tuple (I.ok.hd hc) ht (by simp [hn,<- hl,rv.length]) hst fun h' hx => ?_
 have I1:Inv X pins σ H { s with heap := h' } := I.kept (t' := s.toks) fun b o e => hx b o (Nat.ne_of_lt (Heap.lt_size e)) e
 exact h pins _ σ H xs _ Q I1 (by simpa using rv) hw
noncomputable def gSub (to ti:TE) (t:TSet):TG := fun v σ H Q => to σ H fun o H1 => ti σ H1 fun i H2 => t o i v H2 fun H3 => Q σ H3
theorem pg_sub {o i:Expr} {to ti:TE} {t:TSet} (ho:PE X o to) (hi:PE X i ti) (hs:PSet X t)
  (ha:∀ v,assign (.Subscript o i pos) X.env v = (do
   let ov <- holding [v] (eval o X.env)
   let iv <- holding [v,ov] (eval i X.env)
   standAt pos
   holding [v,ov,iv] (setItem ov iv v)
   release [v,ov,iv] []) := by intro _; rfl):PG X (.Subscript o i pos) (gSub to ti t):= by
 intro pins s σ H v u Q I r h
 rw [ha]
 refine wpAny_bind (wpAny_holding (thn (ho pins s σ H _ I h) fun ov s1 ⟨x,H1,I1,r1,q1⟩ => ?_))
 refine wpAny_bind (wpAny_holding (thn (hi pins s1 σ H1 _ I1 q1) fun iv s2 ⟨y,H2,I2,r2,q2⟩ => ?_))
 refine wpAny_bind (wpAny_standAt (wpAny_bind (wpAny_holding (thn (hs pins s2 σ H2 x y v ov iv u _ I2 r1 r2 r q2) fun _ s3 ⟨H3,I3,q3⟩ => ?_))))
 exact wpAny_release ⟨σ,H3,I3,q3⟩
noncomputable def tAsg (te:TE) (g:TG):TS := fun D σ H => te σ H fun x H1 => g x σ H1 D.nx
theorem ps_asg {tg e:Expr} {te:TE} {g:TG} (he:PE X e te) (hg:PG X tg g) (hs:swapsWithSole [tg] e pos.line X.env = pure false := by rfl) (hw:swappedStores [tg] e X.env = pure none := by rfl)
  (h1:(assignEach [tg] X.env).map (·.2) = [assign tg X.env] := by rfl):PS X (.Assign [tg] e pos) (tAsg te g):= by
 intro pins s σ H D I h
 refine wpAny_Assign_stores (thn (he pins s σ H _ I h) fun v s1 ⟨x,H1,I1,r1,q1⟩ => ?_) hs hw
 rw [h1]
 exact thn (hg pins s1 σ H1 x v _ I1 r1 q1) fun _ s2 q => q
theorem ps_set {i:Nat} {x:Str} {e:Expr} {te:TE} {pos':Pos} (hN:X.N.Nodup) (hi:X.N[i]? = some x) (hx:Loc X.env.scope x) (he:PE X e te) (hs:swapsWith e (some (.Name x pos')) pos.line X.env = pure false := by rfl) (hf:X.fn x = true ∨ X.env.scope.names.lookup x = some .local := by first | exact .inl rfl | exact .inr rfl | assumption) :
  PS X (.Assign [.Name x pos'] e pos) (tAsg te (gName i)):= by
 intro pins s σ H D I h
 refine wpAny_Assign_Name (thn (he pins s σ H _ I h) fun v s1 ⟨y,H1,I1,r1,q1⟩ => ?_) hs
 exact store_ok I1 hN hi hx r1 (fun s2 I2 => ⟨_,H1,I2,q1⟩) hf
end
section
variable {X:Cx} {pos:Pos}
noncomputable def tWhile (c:TT) (tb:TS):TS := fun D σ H => ∃ W:Nat -> St -> Hp -> Prop,(∃ m,W m σ H) ∧ ∀ m σ H,W m σ H ->
 c σ H fun b H1 => if b = true then ∃ N:St -> Hp -> Prop,(∀ σ' H',N σ' H' -> ∃ m',m' < m ∧ W m' σ' H') ∧ tb { D with nx := N,ct := N,bk := D.nx } σ H1 else D.nx σ H1
theorem ps_while {c:Expr} {body:List Stmt} {tc:TT} {tb:TS} (hp:PassesOwn (model X.prog X.w) X.A X.env X.xe) (hc:PT X c tc) (hb:PSs X body tb):PS X (.While c body [] pos) (tWhile tc tb):= by
 intro pins s σ H D I h
 obtain ⟨W,⟨m0,w0⟩,turn⟩ := h
 refine wpAny_While (codeAny_whileLoop (fun n s' => ∃ σ' H',Inv X pins σ' H' s' ∧ W n σ' H') ?_ m0 ⟨σ,H,I,w0⟩)
 rintro n s1 ⟨σ1,H1,I1,w1⟩
 refine wpAny_passesOwn hp (thn (hc pins s1 σ1 H1 _ I1 (turn n σ1 H1 w1)) fun b s2 ⟨H2,I2,q2⟩ => ?_)
 cases b with
 | true =>
  obtain ⟨N,hN,q2⟩ := q2
  rw [if_pos rfl]
  refine wpAny_passesOwn hp (thn (hb pins s2 σ1 H2 _ I2 q2) fun f s3 q3 => ?_)
  cases f with
  | next =>
   obtain ⟨σ3,H3,I3,n3⟩ := q3
   obtain ⟨m',hm,w3⟩ := hN σ3 H3 n3
   exact ⟨m',hm,σ3,H3,I3,w3⟩
  | cont =>
   obtain ⟨σ3,H3,I3,n3⟩ := q3
   obtain ⟨m',hm,w3⟩ := hN σ3 H3 n3
   exact ⟨m',hm,σ3,H3,I3,w3⟩
  | brk => exact q3
  | ret v => exact q3
 | false =>
  rw [if_neg Bool.false_ne_true]
  exact wpAny_execs_nil ⟨σ1,H2,I2,q2⟩
end
structure It where
 go:Nat -> Hp -> Prop
 yld:Nat -> Hp -> V -> Hp -> Prop
 stop:Nat -> Hp -> Prop
noncomputable def FpOk (X:Cx) (pins:List (Addr × Obj)) (H:Hp) (b:Addr):Prop :=
 H b = none ∧ b ≠ X.env.locals ∧ b ∉ X.fs ∧ (b ∈ X.ex ∨ X.s₀.heap.objs.size ≤ b) ∧ (∀ x c,X.env.cells.lookup x = some c -> c ≠ b) ∧ ∀ p ∈ X.pn ++ pins,p.1 ≠ b
theorem Inv.fpOk {X:Cx} {pins:List (Addr × Obj)} {σ:St} {H H':Hp} {s:Shared} {b:Addr} (I:Inv X pins σ H s) (hb:s.heap.objs.size ≤ b) (hn:H' b = none):FpOk X pins H' b:= by
 refine ⟨hn,Nat.ne_of_gt (Nat.lt_of_lt_of_le I.lt hb),I.nofs hb,.inr (Nat.le_trans I.sz hb),fun x c e z => ?_,fun p hp z => ?_⟩
 ·obtain ⟨v,q⟩ := I.cell x c e
  exact absurd (Nat.lt_of_lt_of_le q.lt (by rw [z]; exact hb)) (Nat.lt_irrefl _)
 ·exact absurd (Nat.lt_of_lt_of_le (Heap.lt_size (I.pin p hp).1) (by rw [z]; exact hb)) (Nat.lt_irrefl _)
structure Turn (P:Program) (w:World) (K:PySem.W.Frag) (tg:Expr) (J:It) (fp:List Addr) (it:Addr) (tn:Nat -> Heap -> Prop):Prop where
 mem:it ∈ fp
 obj:∀ i h,tn i h -> ∀ b ∈ fp,∃ o,h.get? b = some o ∧ ∀ v,o.data ≠ .cell v
 keep:∀ i h h',tn i h -> (∀ b ∈ fp,∀ o,h.get? b = some o -> h'.get? b = some o) -> tn i h'
 item:∀ (X:Cx),X.prog = P -> X.w = w -> X.K = K -> X.calm = true -> ∀ (i:Nat) (pins:List (Addr × Obj)) (s:Shared) (σ:St) (H:Hp) (E:Value -> Shared -> Prop),Inv X pins σ H s -> (∀ b ∈ fp,FpOk X pins H b) -> tn i s.heap -> J.go i H ->
  wpAny (model P w) X.A (pyNext (.ref it)) (fun r s1 => ∃ u,r = some u ∧
   wpAny (model P w) X.A (letOwnedTupleGo tg (.ref it) u) (fun _ s2 => ∃ x H',Inv X pins σ H' s2 ∧ RelV x u ∧ J.yld i H x H' ∧ tn (i + 1) s2.heap ∧ ∀ b ∈ fp,H' b = none) E s1) E s
 done:∀ (X:Cx),X.prog = P -> X.w = w -> X.K = K -> X.calm = true -> ∀ (i:Nat) (pins:List (Addr × Obj)) (s:Shared) (σ:St) (H:Hp) (E:Value -> Shared -> Prop),Inv X pins σ H s -> (∀ b ∈ fp,FpOk X pins H b) -> tn i s.heap -> J.stop i H ->
  wpAny (model P w) X.A (pyNext (.ref it)) (fun r s1 => r = none ∧ Inv X pins σ H s1) E s
 self:∀ (A:Around) (i:Nat) (s:Shared) (Q:Value -> Shared -> Prop) (E:Value -> Shared -> Prop),tn i s.heap -> Q (.ref it) s -> wpAny (model P w) A (pyIter (.ref it)) Q E s
noncomputable abbrev TI := St -> Hp -> (It -> Hp -> Prop) -> Prop
noncomputable def PIE (X:Cx) (pins:List (Addr × Obj)) (σ:St) (tg:Expr) (R:It -> Hp -> Prop) (itv:Value) (s2:Shared):Prop :=
 ∃ (it:Addr) (fp:List Addr) (tn:Nat -> Heap -> Prop) (J:It) (H':Hp),itv = .ref it ∧ Inv X pins σ H' s2 ∧ Turn X.prog X.w X.K tg J fp it tn ∧ tn 0 s2.heap ∧ (∀ b ∈ fp,FpOk X pins H' b) ∧ R J H'
noncomputable def PI (X:Cx) (tg iter:Expr) (wi:TI):Prop :=
 ∀ (pins:List (Addr × Obj)) (s:Shared) (σ:St) (H:Hp) (R:It -> Hp -> Prop),Inv X pins σ H s -> wi σ H R ->
  wpAny (model X.prog X.w) X.A (eval iter X.env) (fun v s1 => wpAny (model X.prog X.w) X.A (pyIter v) (PIE X pins σ tg R) X.xe s1) X.xe s
theorem go_of {M:Model} {A:Around} {E:Value -> Shared -> Prop} {s:Shared} {tg:Expr} {it:Addr} {u:Value} {o:Obj} {n:String} {vs:Array Value} {Q:Unit -> Shared -> Prop} (ho:s.heap.get? it = some o) (hc:o.cls = .type n) (hd:o.data = .fields vs)
  (hn:["enumerate","zip","dict_itemiterator","dict_reverseitemiterator","odict_iterator","itertools.zip_longest","itertools.pairwise"].contains n = false) (hQ:Q () s):wpAny M A (letOwnedTupleGo tg (.ref it) u) Q E s:= by
 unfold letOwnedTupleGo
 cases tg <;> first
  | exact wpAny_pure hQ
  | (cases u <;> first
    | exact wpAny_pure hQ
    | (refine wpAny_bind (wpAny_load ho ?_)
       rw [hc,hd]
       show wpAny M A (if (["enumerate","zip","dict_itemiterator","dict_reverseitemiterator","odict_iterator","itertools.zip_longest","itertools.pairwise"].contains n && vs[0]? == some (rawInt _)) = true then _ else _) Q E s
       rw [if_neg (by intro h; rw [hn,Bool.false_and] at h; cases h)]
       exact wpAny_pure hQ))
noncomputable def Itl (K:PySem.W.Frag) (a:Addr):It :=
 ⟨fun i H => ∃ xs x,SqL K H a xs ∧ xs[i]? = some x,fun i H x H' => H' = H ∧ ∀ xs,SqL K H a xs -> xs[i]? = some x,fun i H => ∃ xs,SqL K H a xs ∧ xs.length ≤ i⟩
noncomputable def Itt (K:PySem.W.Frag) (a:Addr):It :=
 ⟨fun i H => ∃ xs x,SqT K H a xs ∧ xs[i]? = some x,fun i H x H' => H' = H ∧ ∀ xs,SqT K H a xs -> xs[i]? = some x,fun i H => ∃ xs,SqT K H a xs ∧ xs.length ≤ i⟩
noncomputable def Itr (lo:Int) (n:Nat):It := ⟨fun i _ => i < n,fun i H x H' => H' = H ∧ x = .int (lo + i),fun i _ => n ≤ i⟩
theorem turn_list {P:Program} {w:World} {K:PySem.W.Frag} {tg:Expr} (a it:Addr):Turn P w K tg (Itl K a) [it] it (fun i h => h.IsListIter it a i) where
 mem := by simp
 obj := fun i h st b hb => by
  have e:b = it := by simpa using hb
  subst e
  obtain ⟨o,e,c,d⟩ := st
  exact ⟨o,e,fun v z => by rw [d] at z; cases z⟩
 keep := fun i h h' st k => st.at fun o e => k it (by simp) o e
 item:= by
  intro X hP hw hK hc i pins s σ H E I hf st hg
  subst hP hw hK
  obtain ⟨xs,x,hq,hx⟩ := hg
  obtain ⟨its,rv,p,hz⟩ := I.list hq
  obtain ⟨u,hu,ru⟩ := rv.get hx
  obtain ⟨f0,f1,f2,f3,f4,f5⟩ := hf it (by simp)
  refine wpAny_pyNext_list_item st p.isList (x := u) (by simpa using hu) fun h' st' sb => ?_
  have I1:Inv X pins σ H { s with heap := h' } := I.turned (t' := s.toks) (fun b o hb e => (sb.2 b hb).trans e) f0 f1 f3 f4 f5
  obtain ⟨o,e,c,d⟩ := id st'
  exact ⟨u,rfl,go_of (s := { s with heap := h' }) e c d (by decide) ⟨x,H,I1,ru,⟨rfl,fun ys hy => by rw [I.list_inj hy hq]; exact hx⟩,st',fun b hb => (hf b hb).1⟩⟩
 done:= by
  intro X hP hw hK hc i pins s σ H E I hf st hg
  subst hP hw hK
  obtain ⟨xs,hq,hx⟩ := hg
  obtain ⟨its,rv,p,hz⟩ := I.list hq
  obtain ⟨f0,f1,f2,f3,f4,f5⟩ := hf it (by simp)
  have hl := rv.length
  exact wpAny_pyNext_list_end (I.ok.hd hc) st p.isList (by simp; omega) fun h' eb => ⟨rfl,I.turned (t' := s.toks) (fun b o hb e => eb b o hb e) f0 f1 f3 f4 f5⟩
 self := fun _ _ _ _ _ st h => wpAny_pyIter_listiter st h
theorem turn_tuple {P:Program} {w:World} {K:PySem.W.Frag} {tg:Expr} (a it:Addr):Turn P w K tg (Itt K a) [it] it (fun i h => h.IsTupleIter it a i) where
 mem := by simp
 obj := fun i h st b hb => by
  have e:b = it := by simpa using hb
  subst e
  obtain ⟨o,e,c,d⟩ := st
  exact ⟨o,e,fun v z => by rw [d] at z; cases z⟩
 keep := fun i h h' st k => st.at fun o e => k it (by simp) o e
 item:= by
  intro X hP hw hK hc i pins s σ H E I hf st hg
  subst hP hw hK
  obtain ⟨xs,x,hq,hx⟩ := hg
  obtain ⟨its,rv,p,hz⟩ := I.tuple hq
  obtain ⟨u,hu,ru⟩ := rv.get hx
  obtain ⟨f0,f1,f2,f3,f4,f5⟩ := hf it (by simp)
  refine wpAny_pyNext_tuple_item st (show s.heap.IsTuple a its.toArray from p) (x := u) (by simpa using hu) fun h' st' sb => ?_
  have I1:Inv X pins σ H { s with heap := h' } := I.turned (t' := s.toks) (fun b o hb e => (sb.2 b hb).trans e) f0 f1 f3 f4 f5
  obtain ⟨o,e,c,d⟩ := id st'
  exact ⟨u,rfl,go_of (s := { s with heap := h' }) e c d (by decide) ⟨x,H,I1,ru,⟨rfl,fun ys hy => by rw [I.tuple_inj hy hq]; exact hx⟩,st',fun b hb => (hf b hb).1⟩⟩
 done:= by
  intro X hP hw hK hc i pins s σ H E I hf st hg
  subst hP hw hK
  obtain ⟨xs,hq,hx⟩ := hg
  obtain ⟨its,rv,p,hz⟩ := I.tuple hq
  obtain ⟨f0,f1,f2,f3,f4,f5⟩ := hf it (by simp)
  have hl := rv.length
  exact wpAny_pyNext_tuple_end (I.ok.hd hc) st (show s.heap.IsTuple a its.toArray from p) (by simp; omega) fun h' eb => ⟨rfl,I.turned (t' := s.toks) (fun b o hb e => eb b o hb e) f0 f1 f3 f4 f5⟩
 self := fun _ _ _ _ _ st h => wpAny_pyIter_tupleiter st h
theorem turn_range {P:Program} {w:World} {K:PySem.W.Frag} {tg:Expr} (it:Addr) (lo:Int) (n:Nat):Turn P w K tg (Itr lo n) [it] it (fun i h => IsRangeIter h it (lo + (i:Nat) * 1) ((n:Int) - (i:Nat)) 1) where
 mem := by simp
 obj := fun i h st b hb => by
  have e:b = it := by simpa using hb
  subst e
  exact ⟨_,st,fun v z => by
   have z':Data.fields _ = Data.cell v := z
   cases z'⟩
 keep := fun i h h' st k => k it (by simp) _ st
 item:= by
  intro X hP hw hK hc i pins s σ H E I hf st hg
  subst hP hw hK
  obtain ⟨f0,f1,f2,f3,f4,f5⟩ := hf it (by simp)
  have W := Walks.range (prog := X.prog) (w := X.w) (I.ok.hd hc) it lo 1 n
  refine W.item i s _ _ hg st fun v h' tk hv st' kk => ?_
  obtain ⟨t,rfl⟩ := hv
  have I1:Inv X pins σ H { s with heap := h',toks := tk } := I.turned (fun b o hb e => kk b o (by simpa using hb) e) f0 f1 f3 f4 f5
  refine ⟨_,rfl,go_of (s := { s with heap := h',toks := tk }) (n := "range_iterator") st' rfl rfl (by decide) ⟨.int (lo + i),H,I1,⟨t,?_⟩,⟨rfl,rfl⟩,st',fun b hb => (hf b hb).1⟩⟩
  rw [Int.mul_one]
 done:= by
  intro X hP hw hK hc i pins s σ H E I hf st hg
  subst hP hw hK
  obtain ⟨f0,f1,f2,f3,f4,f5⟩ := hf it (by simp)
  exact wpAny_pyNext_range_end (I.ok.hd hc) st (by have:n ≤ i := hg; omega) fun h' eb => ⟨rfl,I.turned (t' := s.toks) (fun b o hb e => eb b o hb e) f0 f1 f3 f4 f5⟩
 self := fun _ _ _ _ _ st h => wpAny_pyIter_rangeiter st h
end L2
namespace L2
open PySem PySem.Spec PyProof.Rows
section
variable {X:Cx} {tg:Expr}
noncomputable def iList (K:PySem.W.Frag) (tl:TE):TI := fun σ H R => tl σ H fun x H1 => ∃ a,x = .ref a ∧ (∃ xs,SqL K H1 a xs) ∧ R (Itl K a) H1
theorem pi_list {l:Expr} {tl:TE} (hl:PE X l tl):PI X tg l (iList X.K tl):= by
 intro pins s σ H R I h
 refine thn (hl pins s σ H _ I h) fun v s1 ⟨x,H1,I1,r1,q1⟩ => ?_
 obtain ⟨a,e,⟨xs,hq⟩,q⟩ := q1
 subst e
 cases r1
 obtain ⟨its,rv,p,hz⟩ := I1.list hq
 refine wpAny_pyIter_list p.isList ?_
 refine ⟨s1.heap.objs.size,[s1.heap.objs.size],_,_,H1,rfl,I1.kept (t' := s1.toks) fun b o e => Heap.get?_push_of_some _ e,turn_list a _,⟨_,Heap.get?_push_size _ rfl,rfl,rfl⟩,fun b hb => ?_,q⟩
 have e:b = s1.heap.objs.size := by simpa using hb
 subst e
 exact I1.fpOk (Nat.le_refl _) (I1.hok.fresh (Nat.le_refl _))
theorem range_it {pins:List (Addr × Obj)} {σ:St} {H:Hp} {s:Shared} {R:It -> Hp -> Prop} {E:Value -> Shared -> Prop} {lo hi:Int} {t u v:Tok} {tk:Nat} (I:Inv X pins σ H s) (h1:-(2 ^ 62) ≤ lo) (h2:lo < 2 ^ 62) (h3:-(2 ^ 62) ≤ hi) (h4:hi < 2 ^ 62)
  (q:R (Itr lo (hi - lo).toNat) H):wpAny (model X.prog X.w) X.A (pyIter (.ref s.heap.objs.size)) (PIE X pins σ tg R) E { s with heap := s.heap.push { cls := .type "range",data := .fields #[.int lo t,.int hi u,.int 1 v] },toks := tk }:= by
 refine wpAny_pyIter_range (IsRange.new ..) (small_one h1 h2 h3 h4) ?_
 have I1:Inv X pins σ H { s with heap := s.heap.push { cls := .type "range",data := .fields #[.int lo t,.int hi u,.int 1 v] },toks := tk } := I.kept fun b o e => Heap.get?_push_of_some _ e
 refine ⟨(s.heap.push { cls := .type "range",data := .fields #[.int lo t,.int hi u,.int 1 v] }).objs.size,[(s.heap.push { cls := .type "range",data := .fields #[.int lo t,.int hi u,.int 1 v] }).objs.size],_,_,H,rfl,
  I1.kept (t' := tk) fun b o e => Heap.get?_push_of_some _ e,turn_range _ lo (hi - lo).toNat,?_,fun b hb => ?_,q⟩
 ·have e1:lo + ((0:Nat):Int) * 1 = lo := by simp
  have e2:(((hi - lo).toNat:Nat):Int) - ((0:Nat):Int) = Builtin.Range.rangeSize lo hi 1 := by rw [rangeSize_one]; split <;> omega
  show IsRangeIter _ _ (lo + ((0:Nat):Int) * 1) ((((hi - lo).toNat:Nat):Int) - ((0:Nat):Int)) 1
  rw [e1,e2]
  exact Heap.get?_push_size _ rfl
 ·have e:b = (s.heap.push { cls := .type "range",data := .fields #[.int lo t,.int hi u,.int 1 v] }).objs.size := by simpa using hb
  subst e
  exact I1.fpOk (Nat.le_refl _) (I1.hok.fresh (Nat.le_refl _))
noncomputable def iRng1 (ta:TA):TI := fun σ H R => ta σ H fun vs H1 => ∃ j:Int,vs = [.int j] ∧ -(2 ^ 62) ≤ j ∧ j < 2 ^ 62 ∧ R (Itr 0 j.toNat) H1
theorem pi_range1 {a:Expr} {ta:TA} {p pos:Pos} (hg:Gl X "range") (hm:X.mg "range" = none) (ha:PA X [a] ta) (hs:starEach [a] X.env = [(false,eval a X.env)] := by rfl):PI X tg (.Call (.Name "range" p) [a] [] pos) (iRng1 ta):= by
 intro pins s σ H R I h
 refine Call_ (ld_blt I hg hm boot_range (PyProof.Rows.callWith_type1 (thn (ha pos pins s σ H _ I h) fun us s1 ⟨vs,H1,I1,r1,q1⟩ => ?_) hs rfl))
 obtain ⟨j,e,q1,q2,q⟩ := q1
 subst e
 cases r1 with
 | cons r rr =>
  cases rr
  obtain ⟨t,rfl⟩ := r
  exact call_range_1 (range_it I1 (by omega) (by omega) q1 q2 (by simpa using q))
noncomputable def tFor (wi:TI) (g:TG) (tb:TS):TS := fun D σ H => wi σ H fun J H1 => ∃ W:Nat -> Nat -> St -> Hp -> Prop,(∃ m,W 0 m σ H1) ∧ ∀ i m σ H,W i m σ H ->
 (J.stop i H ∧ D.nx σ H) ∨ (J.go i H ∧ ∃ N:St -> Hp -> Prop,(∀ σ' H',N σ' H' -> ∃ m',m' < m ∧ W (i + 1) m' σ' H') ∧ ∀ x H',J.yld i H x H' -> g x σ H' fun σ2 H2 => tb { D with nx := N,ct := N,bk := D.nx } σ2 H2)
noncomputable def pinsAt (fp:List Addr) (h:Heap):List (Addr × Obj) := fp.filterMap fun b => (h.get? b).map fun o => (b,o)
theorem mem_pinsAt {fp:List Addr} {h:Heap} {b:Addr} {o:Obj} (hb:b ∈ fp) (e:h.get? b = some o):(b,o) ∈ pinsAt fp h := List.mem_filterMap.mpr ⟨b,hb,by rw [e]; rfl⟩
theorem of_pinsAt {fp:List Addr} {h:Heap} {p:Addr × Obj} (hp:p ∈ pinsAt fp h):p.1 ∈ fp ∧ h.get? p.1 = some p.2:= by
 obtain ⟨b,hb,e⟩ := List.mem_filterMap.mp hp
 cases q:h.get? b with
 | none => rw [q] at e; cases e
 | some o =>
  rw [q] at e
  have e':(b,o) = p := Option.some.inj e
  subst e'
  exact ⟨hb,q⟩
theorem Inv.pinned {pins:List (Addr × Obj)} {σ:St} {H:Hp} {s:Shared} {fp:List Addr} (I:Inv X pins σ H s) (hf:∀ b ∈ fp,FpOk X pins H b) (ho:∀ b ∈ fp,∃ o,s.heap.get? b = some o ∧ ∀ v,o.data ≠ .cell v):Inv X (pins ++ pinsAt fp s.heap) σ H s :=
 I.pins_of fun p hp => (List.mem_append.mp hp).elim (fun z => I.pin p (List.mem_append_right _ z)) fun z => by
  obtain ⟨hb,e⟩ := of_pinsAt z
  obtain ⟨f0,f1,f2,_⟩ := hf p.1 hb
  obtain ⟨o,e',d⟩ := ho p.1 hb
  rw [e] at e'; cases e'
  exact ⟨e,f0,f1,f2,d⟩
theorem Inv.unpinned {pins pl:List (Addr × Obj)} {σ:St} {H:Hp} {s:Shared} (I:Inv X (pins ++ pl) σ H s):Inv X pins σ H s := I.pins_of fun p hp => I.pin p (List.mem_append_right _ (List.mem_append_left _ hp))
theorem ps_for {iter:Expr} {body:List Stmt} {wi:TI} {g:TG} {tb:TS} {pos:Pos} (hp:PassesOwn (model X.prog X.w) X.A X.env X.xe) (hc:X.calm = true) (hi:PI X tg iter wi) (hg:PG X tg g) (hb:PSs X body tb)
  (hs:∀ x,foldedSetIterable iter X.env x = pure x := by intro _; rfl):PS X (.For tg iter body [] pos) (tFor wi g tb):= by
 intro pins s σ H D I h
 refine wpAny_For (thn (hi pins s σ H _ I h) fun v s1 h1 => thn h1 fun itv s2 h2 => ?_) hs
 obtain ⟨it,fp,tn,J,H2,e,I2,T,st2,f2,W,⟨m0,w0⟩,turn⟩ := h2
 subst e
 -- what stays true of the iterator's objects through the loop
 have stat:∀ {H':Hp},(∀ b ∈ fp,H' b = none) -> ∀ b ∈ fp,FpOk X pins H' b := fun hn b hb => ⟨hn b hb,(f2 b hb).2⟩
 refine codeAny_forLoop_any (fun n s' => ∃ i σ' H',Inv X pins σ' H' s' ∧ tn i s'.heap ∧ (∀ b ∈ fp,H' b = none) ∧ W i n σ' H') ?_ m0 ⟨0,σ,H2,I2,st2,fun b hb => (f2 b hb).1,w0⟩
 rintro n s3 ⟨i,σ3,H3,I3,st3,fr3,w3⟩
 rcases turn i n σ3 H3 w3 with ⟨stop,qn⟩ | ⟨go,N,hN,step⟩
 ·refine wpAny_passesOwn hp (thn (T.done X rfl rfl rfl hc i pins s3 σ3 H3 X.xe I3 (stat fr3) st3 stop) fun r s4 ⟨hr,I4⟩ => ?_)
  subst hr
  exact wpAny_execs_nil ⟨σ3,H3,I4,qn⟩
 ·refine wpAny_passesOwn hp (thn (T.item X rfl rfl rfl hc i pins s3 σ3 H3 X.xe I3 (stat fr3) st3 go) fun r s4 ⟨u,hr,h4⟩ => ?_)
  subst hr
  refine wpAny_passesOwn hp (thn h4 fun _ s5 ⟨x,H5,I5,r5,y5,st5,fr5⟩ => ?_)
  have I5' := I5.pinned (stat fr5) (T.obj _ _ st5)
  refine wpAny_passesOwn hp (thn (hg _ s5 σ3 H5 x u _ I5' r5 (step x H5 y5)) fun _ s6 ⟨σ6,H6,I6,q6⟩ => ?_)
  refine wpAny_passesOwn hp (thn (hb _ s6 σ6 H6 _ I6 q6) fun f s7 q7 => ?_)
  have again:∀ {σ7:St} {H7:Hp},Inv X (pins ++ pinsAt fp s5.heap) σ7 H7 s7 -> N σ7 H7 -> ∃ m,m < n ∧ ∃ i σ' H',Inv X pins σ' H' s7 ∧ tn i s7.heap ∧ (∀ b ∈ fp,H' b = none) ∧ W i m σ' H' := fun {σ7 H7} I7 n7 => by
   obtain ⟨m',hm,w7⟩ := hN σ7 H7 n7
   refine ⟨m',hm,i + 1,σ7,H7,I7.unpinned,T.keep _ _ _ st5 fun b hb o e => (I7.pin (b,o) (List.mem_append_right _ (List.mem_append_right _ (mem_pinsAt hb e)))).1,fun b hb => ?_,w7⟩
   obtain ⟨o,e,d⟩ := T.obj _ _ st5 b hb
   exact (I7.pin (b,o) (List.mem_append_right _ (List.mem_append_right _ (mem_pinsAt hb e)))).2.1
  cases f with
  | next => obtain ⟨σ7,H7,I7,n7⟩ := q7; exact again I7 n7
  | cont => obtain ⟨σ7,H7,I7,n7⟩ := q7; exact again I7 n7
  | brk => obtain ⟨σ7,H7,I7,q7⟩ := q7; exact ⟨σ7,H7,I7.unpinned,q7⟩
  | ret v => obtain ⟨x7,σ7,H7,I7,r7,q7⟩ := q7; exact ⟨x7,σ7,H7,I7.unpinned,r7,q7⟩
end
end L2
namespace L2
open PySem PySem.Spec PyProof.Rows
noncomputable abbrev R2 := V -> V -> Hp -> VK -> Prop
noncomputable def OpR (X:Cx) (f:Value -> Value -> Sem Value) (r:R2):Prop :=
 ∀ (pins:List (Addr × Obj)) (s:Shared) (σ:St) (H:Hp) (x y:V) (v u:Value) (Q:VK),Inv X pins σ H s -> RelV x v -> RelV y u -> r x y H Q ->
  wpAny (model X.prog X.w) X.A (f v u) (EP X pins σ Q) X.xe s
noncomputable def UnR (X:Cx) (f:Value -> Sem Value) (r:V -> Hp -> VK -> Prop):Prop :=
 ∀ (pins:List (Addr × Obj)) (s:Shared) (σ:St) (H:Hp) (x:V) (v:Value) (Q:VK),Inv X pins σ H s -> RelV x v -> r x H Q ->
  wpAny (model X.prog X.w) X.A (f v) (EP X pins σ Q) X.xe s
noncomputable def CallR (X:Cx) (f:Value) (r:List V -> Hp -> VK -> Prop):Prop :=
 ∀ (pins:List (Addr × Obj)) (s:Shared) (σ:St) (H:Hp) (xs:List V) (us:List Value) (Q:VK),Inv X pins σ H s -> Vals xs us -> r xs H Q ->
  wpAny (model X.prog X.w) X.A (call f us) (EP X pins σ Q) X.xe s
noncomputable def TruR (X:Cx) (r:V -> Hp -> (Bool -> Hp -> Prop) -> Prop):Prop :=
 ∀ (pins:List (Addr × Obj)) (s:Shared) (σ:St) (H:Hp) (x:V) (v:Value) (Q:Bool -> Hp -> Prop),Inv X pins σ H s -> RelV x v -> r x H Q ->
  wpAny (model X.prog X.w) X.A (truthy v) (TP X pins σ Q) X.xe s
noncomputable def tOp (r:R2) (ta tb:TE):TE := fun σ H Q => ta σ H fun x H1 => tb σ H1 fun y H2 => r x y H2 Q
noncomputable def tUn (r:V -> Hp -> VK -> Prop) (ta:TE):TE := fun σ H Q => ta σ H fun x H1 => r x H1 Q
noncomputable def rI (C:Int -> Int -> Prop) (g:Int -> Int -> V):R2 := fun x y H Q => ∃ i j,x = .int i ∧ y = .int j ∧ C i j ∧ Q (g i j) H
noncomputable def rI0 (g:Int -> Int -> V):R2 := fun x y H Q => ∃ i j,x = .int i ∧ y = .int j ∧ Q (g i j) H
noncomputable def rU (g:Int -> V):V -> Hp -> VK -> Prop := fun x H Q => ∃ i,x = .int i ∧ Q (g i) H
section
variable {X:Cx} {a b c:Expr} {ta tb tc:TE} {pos:Pos}
theorem binT (ha:PE X a ta) (hb:PE X b tb) {pins:List (Addr × Obj)} {s:Shared} {σ:St} {H:Hp} {R:V -> V -> Hp -> Prop} (I:Inv X pins σ H s)
  (h:ta σ H fun x H1 => tb σ H1 fun y H2 => R x y H2) {Q:Value -> Shared -> Prop} {f:Value -> Value -> Sem Value}
  (hf:∀ v u s2 x y H2,Inv X pins σ H2 s2 -> RelV x v -> RelV y u -> R x y H2 -> wpAny (model X.prog X.w) X.A (f v u) Q X.xe s2) :
  wpAny (model X.prog X.w) X.A (eval a X.env) (fun v s₁ => wpAny (model X.prog X.w) X.A (eval b X.env) (fun u s₂ => wpAny (model X.prog X.w) X.A (f v u) Q X.xe s₂) X.xe s₁) X.xe s:= by
 refine thn (ha pins s σ H _ I h) fun v s1 ⟨x,H1,I1,r1,q1⟩ => ?_
 refine thn (hb pins s1 σ H1 _ I1 q1) fun u s2 ⟨y,H2,I2,r2,q2⟩ => ?_
 exact hf v u s2 x y H2 I2 r1 r2 q2
theorem pe_op {op:Operator} {r:R2} (ho:OpR X (binaryOp op) r) (ha:PE X a ta) (hb:PE X b tb):PE X (.BinOp a op b pos) (tOp r ta tb):= by
 intro pins s σ H Q I h
 exact wpAny_BinOp (binT ha hb I h fun v u s2 x y H2 I2 rx ry q => ho pins s2 σ H2 x y v u Q I2 rx ry q)
theorem pe_un {op:UnaryOp} {r:V -> Hp -> VK -> Prop} (ho:UnR X (unaryOp op) r) (ha:PE X a ta):PE X (.UnaryOp op a pos) (tUn r ta):= by
 intro pins s σ H Q I h
 exact UnaryOp_ (thn (ha pins s σ H _ I h) fun v s1 ⟨x,H1,I1,r1,q1⟩ => ho pins s1 σ H1 x v Q I1 r1 q1)
theorem opI {f:Value -> Value -> Sem Value} {C:Int -> Int -> Prop} {g:Int -> Int -> Int}
  (rule:∀ (i j:Int) (t u:Tok) (s:Shared) (Q:Value -> Shared -> Prop) (E:Value -> Shared -> Prop),C i j -> Q (.int (g i j) s.toks) { s with toks := s.toks + 1 } -> wpAny (model X.prog X.w) X.A (f (.int i t) (.int j u)) Q E s) :
  OpR X f (rI C fun i j => .int (g i j)):= by
 intro pins s σ H x y v u Q I rx ry h
 obtain ⟨i,j,rfl,rfl,hc,q⟩ := h
 obtain ⟨t,rfl⟩ := rx
 obtain ⟨t',rfl⟩ := ry
 exact rule i j t t' s _ _ hc ⟨.int (g i j),H,I.tok _,⟨_,rfl⟩,q⟩
theorem opI0 {f:Value -> Value -> Sem Value} {g:Int -> Int -> Int}
  (rule:∀ (i j:Int) (t u:Tok) (s:Shared) (Q:Value -> Shared -> Prop) (E:Value -> Shared -> Prop),Q (.int (g i j) s.toks) { s with toks := s.toks + 1 } -> wpAny (model X.prog X.w) X.A (f (.int i t) (.int j u)) Q E s) :
  OpR X f (rI0 fun i j => .int (g i j)):= by
 intro pins s σ H x y v u Q I rx ry h
 obtain ⟨i,j,rfl,rfl,q⟩ := h
 obtain ⟨t,rfl⟩ := rx
 obtain ⟨t',rfl⟩ := ry
 exact rule i j t t' s _ _ ⟨.int (g i j),H,I.tok _,⟨_,rfl⟩,q⟩
theorem opB0 {f:Value -> Value -> Sem Value} {g:Int -> Int -> Bool}
  (rule:∀ (i j:Int) (t u:Tok) (s:Shared) (Q:Value -> Shared -> Prop) (E:Value -> Shared -> Prop),Q (.bool (g i j)) s -> wpAny (model X.prog X.w) X.A (f (.int i t) (.int j u)) Q E s) :
  OpR X f (rI0 fun i j => .bl (g i j)):= by
 intro pins s σ H x y v u Q I rx ry h
 obtain ⟨i,j,rfl,rfl,q⟩ := h
 obtain ⟨t,rfl⟩ := rx
 obtain ⟨t',rfl⟩ := ry
 exact rule i j t t' s _ _ ⟨.bl (g i j),H,I,rfl,q⟩
noncomputable def CDiv (i j:Int):Prop := 0 < j ∧ j < 1073741824
noncomputable def CMul (i j:Int):Prop := (-(2 ^ 64) < i ∧ i < 2 ^ 64) ∨ (-(2 ^ 64) < j ∧ j < 2 ^ 64)
theorem CMul.ok {i j:Int} (h:CMul i j):IntMulOk i j:= by
 rcases h with ⟨h1,h2⟩ | ⟨h1,h2⟩
 ·exact .of_left (intBits_le_64 h1 h2)
 ·exact .of_right (intBits_le_64 h1 h2)
theorem op_add:OpR X (binaryOp .Add) (rI0 fun i j => .int (i + j)) := opI0 fun _ _ _ _ _ _ _ q => add_int q
theorem op_sub:OpR X (binaryOp .Sub) (rI0 fun i j => .int (i - j)) := opI0 fun _ _ _ _ _ _ _ q => sub_int q
theorem op_mul:OpR X (binaryOp .Mult) (rI CMul fun i j => .int (i * j)) := opI fun _ _ _ _ _ _ _ hc q => mul_int q hc.ok
theorem op_fdiv:OpR X (binaryOp .FloorDiv) (rI CDiv fun i j => .int (i / j)) := opI fun i j _ _ _ _ _ hc q => by
 have h1:(0:Int) < j := hc.1
 have h2:j < 1073741824 := hc.2
 exact floordiv_int (by omega) (by rw [Int.fdiv_eq_ediv_of_nonneg i (by omega)]; exact q) (.inl (PyProof.noPylong_small (by omega)))
theorem op_mod:OpR X (binaryOp .Mod) (rI (fun _ j => 0 < j) fun i j => .int (i % j)) := opI fun i j _ _ _ _ _ hc q => by
 have h1:(0:Int) < j := hc
 exact mod_int' (by omega) (by rw [Int.fmod_eq_emod_of_nonneg i (by omega)]; exact q)
theorem unI {f:Value -> Sem Value} {g:Int -> Int}
  (rule:∀ (i:Int) (t:Tok) (s:Shared) (Q:Value -> Shared -> Prop) (E:Value -> Shared -> Prop),Q (.int (g i) s.toks) { s with toks := s.toks + 1 } -> wpAny (model X.prog X.w) X.A (f (.int i t)) Q E s) :
  UnR X f (rU fun i => .int (g i)):= by
 intro pins s σ H x v Q I rx h
 obtain ⟨i,rfl,q⟩ := h
 obtain ⟨t,rfl⟩ := rx
 exact rule i t s _ _ ⟨.int (g i),H,I.tok _,⟨_,rfl⟩,q⟩
theorem un_neg:UnR X (unaryOp .USub) (rU fun i => .int (-i)) := unI fun _ _ _ _ _ q => neg_int q
end
noncomputable def scal:V -> V -> Bool
 | .non,.non => true | .non,.int _ => true | .int _,.non => true | .non,.bl _ => true | .bl _,.non => true | .non,.str _ => true | .str _,.non => true
 | .int _,.int _ => true | .bl _,.bl _ => true | .str _,.str _ => true | .byt _,.byt _ => true
 | .int _,.str _ => true | .str _,.int _ => true | .bl _,.str _ => true | .str _,.bl _ => true
 | _,_ => false
noncomputable def rEq:R2 := fun x y H Q => scal x y = true ∧ Q (.bl (decide (x = y))) H
noncomputable def rNe:R2 := fun x y H Q => scal x y = true ∧ Q (.bl (!decide (x = y))) H
theorem dec_int {i j:Int}:decide (V.int i = V.int j) = (i == j):= by
 rw [Bool.eq_iff_iff]
 simp
theorem dec_bl {i j:Bool}:decide (V.bl i = V.bl j) = (i == j):= by
 rw [Bool.eq_iff_iff]
 simp
theorem dec_str {i j:Str}:decide (V.str i = V.str j) = (i == j):= by
 rw [Bool.eq_iff_iff]
 simp
theorem dec_byt {i j:Array UInt8}:decide (V.byt i = V.byt j) = (i.toList == j.toList):= by
 rw [Bool.eq_iff_iff]
 cases i
 cases j
 simp
section
variable {X:Cx} {a b c:Expr} {ta tb tc:TE} {pos:Pos}
theorem fin_bl {pins:List (Addr × Obj)} {σ:St} {H:Hp} {s:Shared} {Q:VK} {k k':Bool} (I:Inv X pins σ H s) (q:Q (.bl k) H) (e:k = k'):EP X pins σ Q (.bool k') s:= by
 subst e
 exact ⟨.bl k,H,I,rfl,q⟩
theorem op_eq:OpR X (compareOp .Eq) rEq:= by
 intro pins s σ H x y v u Q I rx ry h
 obtain ⟨hs,q⟩ := h
 cases x with
 | non =>
  cases rx
  cases y with
  | non => cases ry; exact PySem.EqNone.eq_none_none (fin_bl I q (by simp))
  | bl j => cases ry; exact PySem.EqNone.eq_none_bool (fin_bl I q (by simp))
  | int j => obtain ⟨t',rfl⟩ := ry; exact PySem.EqNone.eq_none_int (fin_bl I q (by simp))
  | str j => obtain ⟨t',rfl⟩ := ry; exact PySem.EqNone.eq_none_str (fin_bl I q (by simp))
  | _ => exact absurd (show false = true from hs) Bool.false_ne_true
 | bl i =>
  cases rx
  cases y with
  | non => cases ry; exact PySem.EqNone.eq_bool_none (fin_bl I q (by simp))
  | bl j => cases ry; exact eq_bool (fin_bl I q dec_bl)
  | str j => obtain ⟨t',rfl⟩ := ry; exact PySem.EqMixed.eq_bool_str (fin_bl I q (by simp))
  | _ => exact absurd (show false = true from hs) Bool.false_ne_true
 | int i =>
  obtain ⟨t,rfl⟩ := rx
  cases y with
  | non => cases ry; exact PySem.EqNone.eq_int_none (fin_bl I q (by simp))
  | int j => obtain ⟨t',rfl⟩ := ry; exact eq_int (fin_bl I q dec_int)
  | str j => obtain ⟨t',rfl⟩ := ry; exact PySem.EqMixed.eq_int_str (fin_bl I q (by simp))
  | _ => exact absurd (show false = true from hs) Bool.false_ne_true
 | str i =>
  obtain ⟨t,rfl⟩ := rx
  cases y with
  | non => cases ry; exact PySem.EqNone.eq_str_none (fin_bl I q (by simp))
  | bl j => cases ry; exact PySem.EqMixed.eq_str_bool (fin_bl I q (by simp))
  | int j => obtain ⟨t',rfl⟩ := ry; exact PySem.EqMixed.eq_str_int (fin_bl I q (by simp))
  | str j => obtain ⟨t',rfl⟩ := ry; exact eq_str (fin_bl I q dec_str)
  | _ => exact absurd (show false = true from hs) Bool.false_ne_true
 | byt i =>
  obtain ⟨t,rfl⟩ := rx
  cases y with
  | byt j => obtain ⟨t',rfl⟩ := ry; exact PySem.W.eq_bytes (fin_bl I q dec_byt)
  | _ => exact absurd (show false = true from hs) Bool.false_ne_true
 | _ => cases y <;> exact absurd (show false = true from hs) Bool.false_ne_true
theorem op_ne:OpR X (compareOp .NotEq) rNe:= by
 intro pins s σ H x y v u Q I rx ry h
 obtain ⟨hs,q⟩ := h
 cases x with
 | non =>
  cases rx
  cases y with
  | non => cases ry; exact PySem.EqNone.ne_none_none (fin_bl I q (by simp))
  | bl j => cases ry; exact PySem.EqNone.ne_none_bool (fin_bl I q (by simp))
  | int j => obtain ⟨t',rfl⟩ := ry; exact PySem.EqNone.ne_none_int (fin_bl I q (by simp))
  | str j => obtain ⟨t',rfl⟩ := ry; exact PySem.EqNone.ne_none_str (fin_bl I q (by simp))
  | _ => exact absurd (show false = true from hs) Bool.false_ne_true
 | bl i =>
  cases rx
  cases y with
  | non => cases ry; exact PySem.EqNone.ne_bool_none (fin_bl I q (by simp))
  | bl j => cases ry; exact ne_bool (fin_bl I q (congrArg not dec_bl))
  | str j => obtain ⟨t',rfl⟩ := ry; exact PySem.EqMixed.ne_bool_str (fin_bl I q (by simp))
  | _ => exact absurd (show false = true from hs) Bool.false_ne_true
 | int i =>
  obtain ⟨t,rfl⟩ := rx
  cases y with
  | non => cases ry; exact PySem.EqNone.ne_int_none (fin_bl I q (by simp))
  | int j => obtain ⟨t',rfl⟩ := ry; exact ne_int (fin_bl I q (congrArg not dec_int))
  | str j => obtain ⟨t',rfl⟩ := ry; exact PySem.EqMixed.ne_int_str (fin_bl I q (by simp))
  | _ => exact absurd (show false = true from hs) Bool.false_ne_true
 | str i =>
  obtain ⟨t,rfl⟩ := rx
  cases y with
  | non => cases ry; exact PySem.EqNone.ne_str_none (fin_bl I q (by simp))
  | bl j => cases ry; exact PySem.EqMixed.ne_str_bool (fin_bl I q (by simp))
  | int j => obtain ⟨t',rfl⟩ := ry; exact PySem.EqMixed.ne_str_int (fin_bl I q (by simp))
  | str j => obtain ⟨t',rfl⟩ := ry; exact ne_str (fin_bl I q (congrArg not dec_str))
  | _ => exact absurd (show false = true from hs) Bool.false_ne_true
 | byt i =>
  obtain ⟨t,rfl⟩ := rx
  cases y with
  | byt j => obtain ⟨t',rfl⟩ := ry; exact PySem.W.ne_bytes (fin_bl I q (congrArg not dec_byt))
  | _ => exact absurd (show false = true from hs) Bool.false_ne_true
 | _ => cases y <;> exact absurd (show false = true from hs) Bool.false_ne_true
theorem op_lt:OpR X (compareOp .Lt) (rI0 fun i j => .bl (decide (i < j))) := opB0 fun _ _ _ _ _ _ _ q => lt_int q
theorem op_gt:OpR X (compareOp .Gt) (rI0 fun i j => .bl (decide (j < i))) := opB0 fun _ _ _ _ _ _ _ q => gt_int q
theorem OpR.or {f:Value -> Value -> Sem Value} {r r':R2} (h:OpR X f r) (h':OpR X f r'):OpR X f (fun x y H Q => r x y H Q ∨ r' x y H Q):= by
 intro pins s σ H x y v u Q I rx ry q
 rcases q with q | q
 ·exact h pins s σ H x y v u Q I rx ry q
 ·exact h' pins s σ H x y v u Q I rx ry q
theorem nomark (b:Expr) {op:CmpOp} (h:op ≠ .In := by decide) (h2:op ≠ .NotIn := by decide):behindInMarks op b = false:= by
 have e1:(op == CmpOp.In) = false := by cases op <;> first | rfl | exact absurd rfl h
 have e2:(op == CmpOp.NotIn) = false := by cases op <;> first | rfl | exact absurd rfl h2
 cases b <;> simp [behindInMarks,e1,e2]
theorem pe_cmpR {op:CmpOp} {r:R2} (ho:OpR X (compareOp op) r) (ha:PE X a ta) (hb:PE X b tb) (hm:behindInMarks op b = false):PE X (.Compare a [op] [b] pos) (tOp r ta tb):= by
 intro pins s σ H Q I h
 exact wpAny_Compare1 (binT ha hb I h fun v u s2 x y H2 I2 rx ry q => ho pins s2 σ H2 x y v u Q I2 rx ry q) hm
noncomputable def tTest (t:TE):TT := fun σ H Q => t σ H fun x H' => ∃ k,x = .bl k ∧ Q k H'
theorem pt_cmpR {op:CmpOp} {r:R2} (ho:OpR X (compareOp op) r) (ha:PE X a ta) (hb:PE X b tb) (hm:behindInMarks op b = false):PT X (.Compare a [op] [b] pos) (tTest (tOp r ta tb)):= by
 intro pins s σ H Q I h
 refine wpAny_isTrue_Compare1 (thn (ha pins s σ H _ I h) fun v s1 ⟨x,H1,I1,r1,q1⟩ => thn (hb pins s1 σ H1 _ I1 q1) fun u s2 ⟨y,H2,I2,r2,q2⟩ =>
  thn (ho pins s2 σ H2 x y v u _ I2 r1 r2 q2) fun c s3 ⟨z,H3,I3,r3,k,e,q3⟩ => ?_) hm
 subst e
 cases r3
 exact wpAny_truthy_bool ⟨H3,I3,q3⟩
noncomputable def TruV (K:PySem.W.Frag) (x:V) (H:Hp) (k:Bool):Prop :=
 match x with
 | .non => k = false
 | .bl b => k = b
 | .int i => k = (i != 0)
 | .str y => y.length ≤ sizeLine ∧ k = ((y.length:Int) != 0)
 | .byt y => y.size ≤ sizeLine ∧ k = ((y.size:Int) != 0)
 | .ref p => (∃ xs,SqL K H p xs ∧ k = !xs.isEmpty) ∨ (∃ xs,SqT K H p xs ∧ k = !xs.isEmpty) ∨ ∃ kvs,H p = some (.dK kvs) ∧ k = !kvs.isEmpty
 | _ => False
theorem isEmpty_kv {κ:Type} {kvs:List (κ × V)} {vs:List (κ × Value)} (r:KV kvs vs):(!vs.isEmpty) = !kvs.isEmpty:= by
 cases r <;> rfl
theorem isEmpty_of {xs:List V} {its:List Value} (r:Vals xs its):(!its.toArray.isEmpty) = !xs.isEmpty:= by
 cases r <;> simp
theorem line63:(sizeLine:Nat) < 2 ^ 63 := by rw [sizeLine_eq]; decide
theorem tru_ok:TruR X (fun x H Q => ∃ k,TruV X.K x H k ∧ Q k H):= by
 intro pins s σ H x v Q I rx h
 obtain ⟨k,e,q⟩ := h
 have hl := line63
 have hs:sizeLine = 16777216 := sizeLine_eq
 cases x with
 | non =>
  cases rx
  have e':k = false := e
  subst e'
  exact truthy_none ⟨H,I,q⟩
 | bl b =>
  cases rx
  have e':k = b := e
  subst e'
  exact wpAny_truthy_bool ⟨H,I,q⟩
 | int i =>
  obtain ⟨t,rfl⟩ := rx
  have e':k = (i != 0) := e
  subst e'
  exact PySem.P.truthy_int ⟨H,I,q⟩
 | str y =>
  obtain ⟨t,rfl⟩ := rx
  obtain ⟨hy,e'⟩:y.length ≤ sizeLine ∧ k = ((y.length:Int) != 0) := e
  subst e'
  exact PySem.P.truthy_str (by omega) ⟨H,I.tok _,q⟩
 | byt y =>
  obtain ⟨t,rfl⟩ := rx
  obtain ⟨hy,e'⟩:y.size ≤ sizeLine ∧ k = ((y.size:Int) != 0) := e
  subst e'
  exact PySem.W.truthy_bytes (by omega) ⟨H,I.tok _,q⟩
 | ref p =>
  cases rx
  have e':(∃ xs,SqL X.K H p xs ∧ k = !xs.isEmpty) ∨ (∃ xs,SqT X.K H p xs ∧ k = !xs.isEmpty) ∨ ∃ kvs,H p = some (.dK kvs) ∧ k = !kvs.isEmpty := e
  rcases e' with ⟨xs,hx,e'⟩ | ⟨xs,hx,e'⟩ | ⟨kvs,hx,e'⟩
  ·subst e'
   obtain ⟨its,r,pl,hz⟩ := I.list hx
   have hlen := r.length
   exact wpAny_truthy_list pl.isList (by simp only [List.size_toArray]; omega) ⟨H,I.tok _,by rw [isEmpty_of r]; exact q⟩
  ·subst e'
   obtain ⟨its,r,pl,hz⟩ := I.tuple hx
   have hlen := r.length
   exact truthy_tuple pl (by simp only [List.size_toArray]; omega) ⟨H,I.tok _,by rw [isEmpty_of r]; exact q⟩
  ·subst e'
   obtain ⟨hz,hS,vs,r,m⟩:kvs.length ≤ sizeLine ∧ (p == sysModules) = false ∧ ∃ vs,KV kvs vs ∧ s.heap.DictOf (mixKind X.prog X.w) p vs := I.hok p _ hx
   have hlen:kvs.length = vs.length := Paired.length r
   exact wpAny_truthy_dict hS m (by omega) ⟨H,I.tok _,by rw [isEmpty_kv r]; exact q⟩
 | _ => exact (show False from e).elim
theorem pt_truth (ha:PE X a ta) (he:∀ whole,isTrue a X.env whole = (do let v <- whole; standAt a.pos; holding [v] (truthy v))) :
  PT X a (fun σ H Q => ta σ H fun x H' => ∃ k,TruV X.K x H' k ∧ Q k H'):= by
 intro pins s σ H Q I h
 exact isTrue_plain (thn (ha pins s σ H _ I h) fun v s1 ⟨x,H1,I1,r1,q1⟩ => tru_ok pins s1 σ H1 x v Q I1 r1 q1) (he _)
theorem op_add_str:OpR X (binaryOp .Add) (fun x y H Q => ∃ i j,x = .str i ∧ y = .str j ∧ i.length + j.length ≤ sizeLine ∧ Q (.str (i ++ j)) H):= by
 intro pins s σ H x y v u Q I rx ry h
 obtain ⟨i,j,rfl,rfl,hz,q⟩ := h
 obtain ⟨t,rfl⟩ := rx
 obtain ⟨t',rfl⟩ := ry
 exact add_str (fun t' tk => ⟨.str (i ++ j),H,I.tok _,⟨_,rfl⟩,q⟩) hz
theorem vals1 {x:V} {us:List Value} (r:Vals [x] us):∃ u,us = [u] ∧ RelV x u:= by
 cases r with
 | cons r1 r2 => cases r2; exact ⟨_,rfl,r1⟩
theorem vals2 {x y:V} {us:List Value} (r:Vals [x,y] us):∃ u w',us = [u,w'] ∧ RelV x u ∧ RelV y w':= by
 cases r with
 | cons r1 r2 =>
  cases r2 with
  | cons r3 r4 => cases r4; exact ⟨_,_,rfl,r1,r3⟩
theorem call_max2 (hc:X.calm = true):CallR X (.builtin "max") (fun xs H Q => ∃ i j,xs = [.int i,.int j] ∧ Q (.int (if j > i then j else i)) H):= by
 intro pins s σ H xs us Q I r h
 obtain ⟨i,j,rfl,q⟩ := h
 obtain ⟨u,w',rfl,⟨t,rfl⟩,⟨t',rfl⟩⟩ := vals2 r
 refine max_two_ints (I.ok.hd hc) fun h' tk k => ⟨_,H,I.kept k,?_,q⟩
 by_cases hj:j > i
 ·rw [if_pos hj,if_pos hj]; exact ⟨_,rfl⟩
 ·rw [if_neg hj,if_neg hj]; exact ⟨_,rfl⟩
theorem call_min2 (hc:X.calm = true):CallR X (.builtin "min") (fun xs H Q => ∃ i j,xs = [.int i,.int j] ∧ Q (.int (if j < i then j else i)) H):= by
 intro pins s σ H xs us Q I r h
 obtain ⟨i,j,rfl,q⟩ := h
 obtain ⟨u,w',rfl,⟨t,rfl⟩,⟨t',rfl⟩⟩ := vals2 r
 refine min_two_ints (I.ok.hd hc) fun h' tk k => ⟨_,H,I.kept k,?_,q⟩
 by_cases hj:j < i
 ·rw [if_pos hj,if_pos hj]; exact ⟨_,rfl⟩
 ·rw [if_neg hj,if_neg hj]; exact ⟨_,rfl⟩
theorem call_int1:CallR X (.type "int") (fun xs H Q => (∃ i,xs = [.int i] ∧ Q (.int i) H) ∨ ∃ k,xs = [.bl k] ∧ Q (.int (if k then 1 else 0)) H):= by
 intro pins s σ H xs us Q I r h
 rcases h with ⟨i,rfl,q⟩ | ⟨k,rfl,q⟩
 ·obtain ⟨u,rfl,t,rfl⟩ := vals1 r
  exact call_int_int ⟨.int i,H,I,⟨_,rfl⟩,q⟩
 ·obtain ⟨u,rfl,r1⟩ := vals1 r
  cases r1
  exact call_int_bool ⟨.int (if k then 1 else 0),H,I.tok _,⟨_,rfl⟩,q⟩
end
end L2
namespace L2
open PySem PySem.Spec PyProof.Rows
structure ObjM (h:Heap) (x dx C:Addr) (mA:Str -> Option Value):Prop where
 obj:h.get? x = some (PySem.W.instObj C dx)
 ns:h.Ns1 dx mA
 ne:dx ≠ x
section
variable {prog:Program} {w:World} {A:Around} {E:Value -> Shared -> Prop} {s:Shared} {K:PySem.W.Frag} {x dx C f:Addr} {mA:Str -> Option Value} {name:Str} {v:Value}
end
section
variable {P:Program} {w:World} {H H':Hp} {h h':Heap} {a C dx:Addr} {fs fs':List (Str × V)}
end
structure Cls (K:PySem.W.Frag) (C:Addr):Prop where
 pg:PySem.W.plainGet K C Str.empty = true
 hd:PySem.W.hasDictIn K C = true
 po:PySem.W.plainOver K C = true
 sa:PySem.W.findIn K (.ref C) "__setattr__" = some (some (.builtin "object.__setattr__"))
theorem Cls.get {K:PySem.W.Frag} {C:Addr} (c:Cls K C) (f:Str):PySem.W.plainGet K C f = true := c.pg
structure Con (K:PySem.W.Frag) (C:Addr) (f:Str) (v:V) (u:Value):Prop where
 at_:PySem.W.findIn K (.ref C) f = some (some u)
 rel:RelV v u
 get:PySem.W.specialIn K u "__get__" = some none
 cp:PySem.W.copiedNames.contains f = false
structure Meth (K:PySem.W.Frag) (C:Addr) (m:Str) (f:Addr):Prop where
 at_:PySem.W.findIn K (.ref C) m = some (some (.ref f))
 fn:PySem.W.isFn K (.ref f) = true
 kp:PySem.W.keepIn K (.ref f) = true
section
variable {X:Cx} {pins:List (Addr × Obj)} {σ:St} {H:Hp} {s:Shared} {a C dx:Addr} {fs:List (Str × V)} {f:Str} {v:V} {A:Around} {E:Value -> Shared -> Prop}
theorem Inv.made (I:Inv X pins σ H s):Inv X pins σ (upd (upd H s.heap.objs.size (.own (s.heap.objs.size + 1))) (s.heap.objs.size + 1) (.ins C s.heap.objs.size []))
  { s with heap := (s.heap.push PySem.W.emptyDict).push (PySem.W.instObj C s.heap.objs.size) }:= by
 have e1:(s.heap.push PySem.W.emptyDict).get? s.heap.objs.size = some PySem.W.emptyDict := Heap.get?_push_size s.heap rfl
 have e2:((s.heap.push PySem.W.emptyDict).push (PySem.W.instObj C s.heap.objs.size)).get? (s.heap.objs.size + 1) = some (PySem.W.instObj C s.heap.objs.size):= by
  have := Heap.get?_push_size (s.heap.push PySem.W.emptyDict) (o := PySem.W.instObj C s.heap.objs.size) rfl
  rwa [Heap.size_push] at this
 have e3:(s.heap.push PySem.W.emptyDict).Ns s.heap.objs.size (fun _ => none) := ⟨PySem.W.emptyDict,#[],_,e1,rfl,(fun e he => absurd he (by simp)),fun _ => rfl⟩
 have I1 := I.laid (a := s.heap.objs.size) (o := .own (s.heap.objs.size + 1)) (h' := s.heap.push PySem.W.emptyDict) (t' := s.toks) (fun b u q => Heap.get?_push_of_some _ q) (Nat.le_refl _) ⟨_,e1⟩
 refine I1.laid (a := s.heap.objs.size + 1) (o := .ins C s.heap.objs.size []) (t' := s.toks) (fun b u q => Heap.get?_push_of_some _ q) (Nat.le_of_eq (Heap.size_push _ _)) ?_
 have ne:s.heap.objs.size ≠ s.heap.objs.size + 1 := Nat.ne_of_lt (Nat.lt_succ_self _)
 refine ⟨by rw [upd_ne ne,upd_same],Nat.zero_le _,ne,e2,fun _ => none,(Heap.Ns1.of_empty e3).at fun o q => Heap.get?_push_of_some _ q,fun _ => True.intro,fun y hy => absurd rfl hy⟩
end
section
variable {X:Cx} {o e value:Expr} {f:Str} {pos pos' tpos:Pos} {ta tv:TE}
end
section
variable {X:Cx} {pins:List (Addr × Obj)} {σ:St} {H:Hp} {s:Shared} {A:Around} {E:Value -> Shared -> Prop} {Q:Value -> Shared -> Prop} {c:Value} {b:Bool}
inductive TyOf (K:PySem.W.Frag) (H:Hp):V -> Value -> Prop where
 | non:TyOf K H .non (.type "NoneType")
 | bl (x:Bool):TyOf K H (.bl x) (.type "bool")
 | int (i:Int):TyOf K H (.int i) (.type "int")
 | str (x:Str):TyOf K H (.str x) (.type "str")
 | flt (x:UInt64):TyOf K H (.flt x) (.type "float")
 | lst {a:Addr} {xs:List V} (e:H a = some (.lst xs)):TyOf K H (.ref a) (.type "list")
 | frz {a:Addr} {o:Obj} {xs:List V} (e:H a = some (.frz o (.lst xs))):TyOf K H (.ref a) (.type "list")
 | tup {a:Addr} {xs:List V} (e:H a = some (.tup xs)):TyOf K H (.ref a) (.type "tuple")
 | dK {a:Addr} {kvs:List (Key × V)} (e:H a = some (.dK kvs)):TyOf K H (.ref a) (.type "dict")
 | dT {a:Addr} {kvs:List (List Key × V)} (e:H a = some (.dT kvs)):TyOf K H (.ref a) (.type "dict")
 | ins {a C dx:Addr} {fs:List (Str × V)} (e:H a = some (.ins C dx fs)) (cl:Cls K C) (ha:PySem.W.findIn K (.ref C) "__class__" = some (some (.builtin "object.__class__")))
   (hn:PySem.W.specialIn K (.builtin "object.__class__") "__get__" = some (some (.builtin "getset_descriptor.__get__"))) (htk:PySem.W.takesIn K (.builtin "object.__class__") = some true)
   (hm:PySem.W.mroIn K C (.type "object") = some true):TyOf K H (.ref a) (.ref C)
end
end L2
namespace L2
open PySem PySem.Spec PyProof.Rows
structure Room (k:Nat) (A:Around):Prop where
 hd:A.handled = none
 dp:A.depth + 3 * k + 5 < recursionLimit
 un:A.units + 16 * k + 200 < cLine
 gd:A.guards = some []
theorem Room.mono {j k:Nat} {A:Around} (r:Room k A) (h:j ≤ k):Room j A := ⟨r.hd,by have := r.dp; omega,by have := r.un; omega,r.gd⟩
theorem Room.deeper {k:Nat} {A:Around} (r:Room (k + 1) A) (env:Env):Room k (A.deeper env) :=
 ⟨r.hd,by have := r.dp; show A.depth + 1 + 3 * k + 5 < _; omega,by have := r.un; show A.units + 3 + 16 * k + 200 < _; omega,r.gd⟩
theorem Room.in1 {k:Nat} {A:Around} (r:Room (k + 1) A):Room k A.in1 :=
 ⟨r.hd,by have := r.dp; show A.depth + 3 * k + 5 < _; omega,by have := r.un; show A.units + 1 + 16 * k + 200 < _; omega,r.gd⟩
theorem Room.depth {k:Nat} {A:Around} (r:Room k A):A.depth < recursionLimit := by have := r.dp; omega
theorem Room.units {k:Nat} {A:Around} (r:Room k A):A.units + 64 < cLine := by have := r.un; omega
noncomputable def tNil:TA := fun _ H Q => Q [] H
noncomputable def tCons (ta:TE) (tr:TA):TA := fun σ H Q => ta σ H fun x H1 => tr σ H1 fun xs H2 => Q (x :: xs) H2
section
variable {X:Cx} {e:Expr} {es:List Expr} {te:TE} {t:TA} {pos:Pos}
theorem pa_nil:PA X [] tNil := fun _ _ _ _ H Q I h => Calls.spliced_nil ⟨[],H,I,.nil,h⟩
theorem pa_cons (ha:PE X e te) (hr:PA X es t) (hs:starEach (e :: es) X.env = (false,eval e X.env) :: starEach es X.env := by rfl):PA X (e :: es) (tCons te t):= by
 intro pos pins s σ H Q I h
 rw [hs]
 show wpAny _ _ (spliced ((false,eval e X.env) :: backTo pos (starEach es X.env))) _ _ s
 refine Calls.spliced_cons (thn (ha pins s σ H _ I h) fun u s1 ⟨x,H1,I1,r1,q1⟩ => ?_)
 exact thn (hr pos pins s1 σ H1 _ I1 q1) fun us s2 ⟨xs,H2,I2,r2,q2⟩ => ⟨x :: xs,H2,I2,.cons r1 r2,q2⟩
noncomputable def tTup (t:TA):TE := fun σ H Q => t σ H fun xs H1 => xs.length ≤ sizeLine ∧ ∀ p,H1 p = none -> Q (.ref p) (upd H1 p (.tup xs))
noncomputable def tLst (t:TA):TE := fun σ H Q => t σ H fun xs H1 => xs.length ≤ sizeLine ∧ ∀ p,H1 p = none -> Q (.ref p) (upd H1 p (.lst xs))
theorem pe_tup {x1} (h:PA X es t):PE X (.Tuple es x1 pos) (tTup t):= by
 intro pins s σ H Q I hq
 refine wpAny_Tuple_spliced (thn (h pos pins s σ H _ I hq) fun us s1 ⟨xs,H1,I1,r,z,q⟩ => ⟨by rw [<- r.length]; exact z,?_⟩)
 have hf:H1 s1.heap.objs.size = none := I1.hok.fresh (Nat.le_refl _)
 refine ⟨.ref s1.heap.objs.size,upd H1 s1.heap.objs.size (.tup xs),I1.laid (t' := s1.toks) (fun b u e => Heap.get?_push_of_some _ e) (Nat.le_refl _) ?_,rfl,q _ hf⟩
 exact ⟨z,us,r,⟨_,Heap.get?_push_size _ rfl,rfl,_,rfl⟩⟩
theorem pe_lst (h:PA X es t):PE X (.List es pos) (tLst t):= by
 intro pins s σ H Q I hq
 refine wpAny_List_spliced (thn (h pos pins s σ H _ I hq) fun us s1 ⟨xs,H1,I1,r,z,q⟩ => ⟨by rw [<- r.length]; exact z,?_⟩)
 have hf:H1 s1.heap.objs.size = none := I1.hok.fresh (Nat.le_refl _)
 refine ⟨.ref s1.heap.objs.size,upd H1 s1.heap.objs.size (.lst xs),I1.laid (t' := s1.toks) (fun b u e => Heap.get?_push_of_some _ e) (Nat.le_refl _) ?_,rfl,q _ hf⟩
 exact ⟨z,us,0,r,Heap.get?_push_size _ rfl⟩
end
noncomputable abbrev Sp := List V -> Hp -> VK -> XK -> Prop
noncomputable abbrev CXT := List Env -> Hp -> Shared -> XK -> Value -> Shared -> Prop
structure Env0 (P:Program) (w:World) (K:PySem.W.Frag) (mg:Str -> Option Value) (base:Heap) (A:Around) (outer:List Env) (s:Shared) (H:Hp):Prop where
 frames:A.frames = some outer
 mod:Mod K mg base
 bs:∀ b o,base.get? b = some o -> s.heap.get? b = some o ∧ H b = none
 bsz:base.objs.size ≤ s.heap.objs.size
 funs:s.heap.FunFrames base outer
 frf:∀ b ∈ frs outer,H b = none
 hok:HOk P w H s.heap
 bare:AllBare s.gens
noncomputable def CE (outer:List Env) (P:Program) (w:World) (H:Hp) (s:Shared) (Q:VK) (u:Value) (s':Shared):Prop :=
 ∃ v H',s'.os = s.os ∧ AllBare s'.gens ∧ Un (frs outer) [] H H' s.heap s'.heap ∧ HOk P w H' s'.heap ∧ RelV v u ∧ Q v H'
noncomputable def CR (CX:CXT) (outer:List Env) (P:Program) (w:World) (H:Hp) (s:Shared) (Q:VK) (E:XK) (r:Result) (s':Shared):Prop :=
 match r with
 | .ok (.ret u) => CE outer P w H s Q u s'
 | .ok _ => False
 | .error e => CX outer H s E e s'
structure FnOk (P:Program) (w:World) (K:PySem.W.Frag) (mg:Str -> Option Value) (base:Heap) (CX:CXT) (k:Nat) (f:Addr) (fd:FuncData) (ps:List Str) (sp:Sp):Prop where
 len:∀ vs H Q E,sp vs H Q E -> vs.length = ps.length
 run:∀ (A:Around) (outer:List Env) (s:Shared) (H:Hp) (args:Args) (us:List Value) (vs:List V) (Q:VK) (E:XK),Room k A -> Env0 P w K mg base A outer s H -> BindsTo s fd args (ps.zip us) -> Vals vs us -> sp vs H Q E ->
  codeAny (model P w) A (.call (.ref f) args) (CR CX outer P w H s Q E) s
theorem FnOk.mono {P:Program} {w:World} {K:PySem.W.Frag} {mg:Str -> Option Value} {base:Heap} {CX:CXT} {j k:Nat} {f:Addr} {fd:FuncData} {ps:List Str} {sp:Sp} (F:FnOk P w K mg base CX j f fd ps sp) (h:j ≤ k) :
  FnOk P w K mg base CX k f fd ps sp := ⟨F.len,fun A outer s H args us vs Q E hr => F.run A outer s H args us vs Q E (hr.mono h)⟩
theorem FnOk.imp {P:Program} {w:World} {K:PySem.W.Frag} {mg:Str -> Option Value} {base:Heap} {CX:CXT} {k:Nat} {f:Addr} {fd:FuncData} {ps:List Str} {sp sp':Sp} (F:FnOk P w K mg base CX k f fd ps sp)
  (h:∀ vs H Q E,sp' vs H Q E -> sp vs H Q E):FnOk P w K mg base CX k f fd ps sp' :=
 ⟨fun vs H Q E q => F.len vs H Q E (h _ _ _ _ q),fun A outer s H args us vs Q E hr he hb hv hs => F.run A outer s H args us vs Q E hr he hb hv (h _ _ _ _ hs)⟩
theorem Env0.in1 {P:Program} {w:World} {K:PySem.W.Frag} {mg:Str -> Option Value} {base:Heap} {A:Around} {outer:List Env} {s:Shared} {H:Hp} (e:Env0 P w K mg base A outer s H) :
  Env0 P w K mg base A.in1 outer s H := ⟨e.frames,e.mod,e.bs,e.bsz,e.funs,e.frf,e.hok,e.bare⟩
section
variable {X:Cx} {pins:List (Addr × Obj)} {σ:St} {H:Hp} {s s':Shared}
theorem Inv.env0 (I:Inv X pins σ H s):Env0 X.prog X.w X.K X.mg X.base X.A X.stack s H :=
 ⟨I.ok.frames,I.ok.mod,I.bs,Nat.le_trans I.ok.bsz I.sz,I.stack,I.stkFree,I.hok,I.bare⟩
theorem Inv.after {Q:VK} {u:Value} (I:Inv X pins σ H s) (h:CE X.stack X.prog X.w H s Q u s'):EP X pins σ Q u s':= by
 obtain ⟨v,H',os,bare,un,hok,r,q⟩ := h
 obtain ⟨hh,g,d,t,os'⟩ := s'
 obtain rfl:os' = s.os := os
 exact ⟨v,H',I.call (h' := hh) (g' := g) (d' := d) (t' := t) (ch := []) un hok bare (fun b z => absurd z (by simp)),r,q⟩
end
noncomputable def tCall (sp:Sp) (dvs:List V) (E:XK) (t:TA):TE := fun σ H Q => t σ H fun vs H1 => sp (vs ++ dvs) H1 Q E
noncomputable def Binds (K:PySem.W.Frag) (fd:FuncData) (ps:List Str) (ds:List Value):Prop :=
 ∀ (s:Shared) (us:List Value),K.In s.heap -> (us ++ ds).length = ps.length -> BindsTo s fd ⟨us,[]⟩ (ps.zip (us ++ ds))
theorem Binds.all {K:PySem.W.Frag} {fd:FuncData} {ps:List Str} (h:∀ us:List Value,us.length = ps.length -> bindArgs fd ⟨us,[]⟩ = pure (ps.zip us)):Binds K fd ps [] := fun s us _ hl => by
 rw [List.append_nil] at hl ⊢
 exact .of_eq (h us hl)
noncomputable def Passes (CX:CXT) (X:Cx) (E:XK):Prop := ∀ (pins:List (Addr × Obj)) (σ:St) (H:Hp) (s:Shared) (e:Value) (s':Shared),Inv X pins σ H s -> CX X.stack H s E e s' -> X.xe e s'
section
variable {X:Cx} {CX:CXT} {k:Nat} {f C:Addr} {fd:FuncData} {ps:List Str} {sp:Sp} {dvs:List V} {ds:List Value} {E:XK} {x m:Str} {p pos apos:Pos} {e o:Expr} {es:List Expr} {ta:TE} {t:TA}
theorem run_fn {pins:List (Addr × Obj)} {σ:St} {H:Hp} {s:Shared} {Q:VK} {us:List Value} {vs:List V} (F:FnOk X.prog X.w X.K X.mg X.base CX k f fd ps sp) (hr:Room k X.A) (hb:Binds X.K fd ps ds) (hd:Vals dvs ds) (hx:Passes CX X E)
  (I:Inv X pins σ H s) (r:Vals vs us) (h:sp (vs ++ dvs) H Q E):wpAny (model X.prog X.w) X.A (call (.ref f) us) (EP X pins σ Q) X.xe s:= by
 have r2:Vals (vs ++ dvs) (us ++ ds) := r.append hd
 have hl:(us ++ ds).length = ps.length := by rw [<- r2.length]; exact F.len _ _ _ _ h
 refine wpAny_call (codeAny_mono (F.run X.A X.stack s H ⟨us,[]⟩ (us ++ ds) (vs ++ dvs) Q E hr I.env0 (hb s us I.kIn hl) r2 h) fun r s' hq => ?_)
 cases r with
 | error e => exact hx pins σ H s e s' I hq
 | ok fl =>
  cases fl with
  | ret u => exact I.after hq
  | next => exact False.elim hq
  | brk => exact False.elim hq
  | cont => exact False.elim hq
theorem pe_call (F:FnOk X.prog X.w X.K X.mg X.base CX k f fd ps sp) (hr:Room k X.A) (hg:Gl X x) (hm:X.mg x = some (.ref f)) (hk:PySem.W.keepIn X.K (.ref f) = true) (hb:Binds X.K fd ps ds) (hd:Vals dvs ds) (hx:Passes CX X E)
  (ha:PA X (e :: es) t) (hdb:(x == ("__debug__":Str)) = false := by decide) (he:starEach (e :: es) X.env = (false,eval e X.env) :: starEach es X.env := by rfl) (hpl:(backTo pos (starEach es X.env)).any (·.1) = false := by rfl) :
  PE X (.Call (.Name x p) (e :: es) [] pos) (tCall sp dvs E t):= by
 intro pins s σ H Q I h
 refine wpAny_Call_Name_kw (ld_glob I hg hm ?_ hdb)
 refine PySem.W.callWith_K (h₀ := X.base) I.ok.mod.kin hk (thn (ha pos pins s σ H _ I h) fun us s1 ⟨vs,H1,I1,r,q⟩ => ⟨I1.kIn,?_⟩) he hpl
 exact run_fn F hr hb hd hx I1 r q
structure Mk (K:PySem.W.Frag) (C f:Addr):Prop where
 makes:PySem.W.makesIn K C = true
 init:PySem.W.findIn K (.ref C) "__init__" = some (some (.ref f))
 fn:PySem.W.isFn K (.ref f) = true
 kp:PySem.W.keepIn K (.ref C) = true
end
section
variable {X:Cx} {CX:CXT} {k:Nat} {f C:Addr} {fd:FuncData} {ps ks:List Str} {sp:Sp} {E:XK} {x m:Str} {p pos apos kpos:Pos} {e o:Expr} {es:List Expr} {kws:List Keyword} {te ta:TE} {t tk:TA} {nm:Option Str}
structure KBinds (K:PySem.W.Frag) (fd:FuncData) (ps ks:List Str) (g:List Value -> List Value -> List Value) (gV:List V -> List V -> List V):Prop where
 to:∀ (s:Shared) (us ws:List Value),K.In s.heap -> (g us ws).length = ps.length -> BindsTo s fd ⟨us,ks.zip ws⟩ (ps.zip (g us ws))
 rel:∀ {vs:List V} {us:List Value} {zs:List V} {ws:List Value},Vals vs us -> Vals zs ws -> Vals (gV vs zs) (g us ws)
variable {g:List Value -> List Value -> List Value} {gV:List V -> List V -> List V}
end
structure FnScope (N P:List Str) (sc:Scope):Prop where
 kind:sc.kind = .function
 co:sc.isCoroutine = false
 gen:sc.isGenerator = false
 nd:N.Nodup
 pre:N.take P.length = P
 par:∀ x ∈ P,sc.names.lookup x = some .local ∨ sc.names.lookup x = some .cell
 nofree:∀ y ∈ sc.names,y.2 ≠ .free
theorem bindL_out {kindOf:Str -> Option NameKind} {x:Str}:∀ {binds:List (Str × Value)} {m:Str -> Option Value},(∀ v,(x,v) ∉ binds) -> bindL kindOf binds m x = m x
 | [],_,_ => rfl
 | (n,v) :: r,m,h => by
  unfold bindL
  rw [bindL_out fun w hw => h w (List.mem_cons_of_mem _ hw)]
  split
  ·have:x ≠ n := by rintro rfl; exact h v List.mem_cons_self
   simp [this]
  ·rfl
theorem bindC_out {kindOf:Str -> Option NameKind} {x:Str}:∀ {binds:List (Str × Value)} {m:Str -> Option Value},(∀ v,(x,v) ∉ binds) -> bindC kindOf binds m x = m x
 | [],_,_ => rfl
 | (n,v) :: r,m,h => by
  unfold bindC
  rw [bindC_out fun w hw => h w (List.mem_cons_of_mem _ hw)]
  split
  ·rfl
  ·have:x ≠ n := by rintro rfl; exact h v List.mem_cons_self
   simp [this]
theorem bindL_get {kindOf:Str -> Option NameKind} {x:Str} {v:Value}:∀ {P:List Str} {vs:List Value} {i:Nat} {m:Str -> Option Value},P.Nodup -> P[i]? = some x -> vs[i]? = some v -> kindOf x = some .local ->
  bindL kindOf (P.zip vs) m x = some v
 | [],_,_,_,_,h,_,_ => by simp at h
 | _ :: _,[],_,_,_,_,h,_ => by simp at h
 | p :: P,w :: vs,0,m,nd,h1,h2,hk => by
  simp at h1 h2; subst h1; subst h2
  show bindL kindOf ((p,w) :: P.zip vs) m p = _
  unfold bindL
  rw [bindL_out fun v hv => (List.nodup_cons.mp nd).1 (List.of_mem_zip hv).1,if_pos hk]
  simp
 | p :: P,w :: vs,i + 1,m,nd,h1,h2,hk => by
  show bindL kindOf ((p,w) :: P.zip vs) m x = _
  unfold bindL
  exact bindL_get (i := i) (List.nodup_cons.mp nd).2 (by simpa using h1) (by simpa using h2) hk
theorem bindC_get {kindOf:Str -> Option NameKind} {x:Str} {v:Value}:∀ {P:List Str} {vs:List Value} {i:Nat} {m:Str -> Option Value},P.Nodup -> P[i]? = some x -> vs[i]? = some v -> kindOf x ≠ some .local ->
  bindC kindOf (P.zip vs) m x = some v
 | [],_,_,_,_,h,_,_ => by simp at h
 | _ :: _,[],_,_,_,_,h,_ => by simp at h
 | p :: P,w :: vs,0,m,nd,h1,h2,hk => by
  simp at h1 h2; subst h1; subst h2
  show bindC kindOf ((p,w) :: P.zip vs) m p = _
  unfold bindC
  rw [bindC_out fun v hv => (List.nodup_cons.mp nd).1 (List.of_mem_zip hv).1,if_neg hk]
  simp
 | p :: P,w :: vs,i + 1,m,nd,h1,h2,hk => by
  show bindC kindOf ((p,w) :: P.zip vs) m x = _
  unfold bindC
  exact bindC_get (i := i) (List.nodup_cons.mp nd).2 (by simpa using h1) (by simpa using h2) hk
noncomputable def start (N:List Str) (vs:List V):St := vs.map some ++ List.replicate (N.length - vs.length) none
noncomputable def cxOf (CX:CXT) (P:Program) (w:World) (K:PySem.W.Frag) (mg:Str -> Option Value) (base:Heap) (N:List Str) (qual:Str) (scope:Scope) (f:Addr) (cd:Value) (A:Around) (outer:List Env) (s:Shared) (H:Hp) (E:XK):Cx where
 prog := P
 w := w
 K := K
 mg := mg
 base := base
 A := A.deeper (envOfC qual scope s.heap.objs.size f cd)
 N := N
 s₀ := s
 H₀ := H
 env := envOfC qual scope s.heap.objs.size f cd
 outer := outer
 stack := envOfC qual scope s.heap.objs.size f cd :: outer
 ex := []
 calm := true
 fn := fun _ => true
 pn := []
 xe := fun e s' => wpAny (model P w) (A.deeper (envOfC qual scope s.heap.objs.size f cd)) (leaving (envOfC qual scope s.heap.objs.size f cd) e) (fun _ s'' => CX outer H s E e s'') (fun e' s'' => CX outer H s E e' s'') s'
theorem cell_has {sc:Scope} {n:Nat} {x:Str} (h:sc.names.lookup x = some .cell):∃ c,(cellsFrom n sc.names []).lookup x = some c:= by
 have q := PySem.W.cellsFrom_some sc.names n [] (.inl h)
 exact Option.isSome_iff_exists.mp q
theorem inv_start {CX:CXT} {P:Program} {w:World} {K:PySem.W.Frag} {mg:Str -> Option Value} {base:Heap} {N ps:List Str} {qual:Str} {scope:Scope} {f:Addr} {cd:Value} {A:Around} {outer:List Env} {s s1:Shared} {H:Hp} {E:XK} {us:List Value} {vs:List V}
  (S:FnScope N ps scope) (hd:A.handled = none) (e0:Env0 P w K mg base A outer s H) (hl:vs.length = ps.length) (r:Vals vs us)
  (x:InCallC s s.heap.objs.size (bindL (envOfC qual scope s.heap.objs.size f cd).kindOf (ps.zip us) fun _ => none) (cellsFrom (s.heap.objs.size + 1) scope.names []) (bindC (envOfC qual scope s.heap.objs.size f cd).kindOf (ps.zip us) fun _ => none) s1) :
  Inv (cxOf CX P w K mg base N qual scope f cd A outer s H E) [] (start N vs) H s1:= by
 have hpl:ps.length ≤ N.length := by have := congrArg List.length S.pre; rw [List.length_take] at this; omega
 obtain ⟨h1,tk,rfl,hk⟩ := x.done
 have noA:∀ b:Addr,b ∉ (cxOf CX P w K mg base N qual scope f cd A outer s H E).ex := fun b z => absurd (show b ∈ ([]:List Addr) from z) (by simp)
 refine ⟨⟨e0.mod,S.kind,rfl,rfl,Nat.le_refl _,fun y z c h1 h2 => ?_,fun y hy => ?_,fun y c _ h => ?_,fun _ => hd,Around.frames_deeper e0.frames,.inr ⟨rfl,rfl⟩,fun b z => absurd z (noA b),e0.bs,e0.bsz,fun b _ _ => noA b,fun b z => absurd z (noA b),e0.funs,e0.frf⟩,
  rfl,e0.bare,Un.kept hk,⟨_,x.toInCall.ns,fun i y v h1 h2 h3 => ?_⟩,fun y c h => ⟨_,x.cell y c h⟩,e0.hok.fresh (Nat.le_refl _),fun y c h => ?_,fun p hp => absurd (show p ∈ ([]:List (Addr × Obj)) from hp) (by simp),e0.hok.kept hk,?_⟩
 ·exact name_of_addr x.apart (PySem.mem_of_lookup h1) (PySem.mem_of_lookup h2)
 ·have hy:scope.names.lookup y = some .cell ∨ scope.names.lookup y = some .free := hy
  rcases hy with hy | hy
  ·exact cell_has hy
  ·exact absurd rfl (S.nofree _ (PySem.mem_of_lookup hy))
 ·exact Nat.le_of_lt (x.above y c (PySem.mem_of_lookup h))
 ·have hi:i < vs.length:= by
   unfold start at h2
   by_cases hi:i < vs.length
   ·exact hi
   ·rw [List.getElem?_append_right (by simpa using hi)] at h2
    rw [List.getElem?_replicate] at h2
    split at h2 <;> cases h2
  have ha:vs[i]? = some v:= by
   unfold start at h2
   rw [List.getElem?_append_left (by simpa using hi),List.getElem?_map] at h2
   cases e:vs[i]? with
   | none => rw [e] at h2; cases h2
   | some a => rw [e] at h2; cases h2; rfl
  obtain ⟨u,hu,rv⟩ := r.get ha
  have hp:ps[i]? = some y:= by
   rw [<- S.pre,List.getElem?_take_of_lt (by omega)]; exact h1
  have ndP:ps.Nodup := by rw [<- S.pre]; exact S.nd.sublist (List.take_sublist _ _)
  refine ⟨u,rv,?_⟩
  rcases S.par y (List.mem_of_getElem? hp) with k | k
  ·exact .inl ⟨k,bindL_get ndP hp hu k⟩
  ·obtain ⟨c,e⟩ := cell_has (n := s.heap.objs.size + 1) k
   refine .inr ⟨.inl k,c,e,?_⟩
   have q := x.cell y c e
   rw [bindC_get ndP hp hu (by show scope.names.lookup y ≠ _; rw [k]; decide)] at q
   exact q
 ·exact e0.hok.fresh (Nat.le_of_lt (x.above y c (PySem.mem_of_lookup h)))
 ·unfold start
  show _ = N.length
  rw [List.length_append,List.length_map,List.length_replicate]
  omega
theorem fn_of {CX:CXT} {P:Program} {w:World} {K:PySem.W.Frag} {mg:Str -> Option Value} {base:Heap} {k:Nat} {f:Addr} {name qual:Str} {params:Arguments} {body:List Stmt} {scope:Scope} {dV kV doc pm cdv ct oc:Value} {an od:Option Addr}
  {osl:Array (Option Value)} {N ps:List Str} {sp:Sp} (lk:K.lookup f = some ⟨oc,od,.func (PySem.W.fnOf name qual params body scope dV kV doc pm an cdv ct),osl⟩) (hcd:PySem.W.codeIn K cdv qual = true) (S:FnScope N ps scope)
  (len:∀ vs H Q E,sp vs H Q E -> vs.length = ps.length)
  (hbody:∀ (A:Around) (outer:List Env) (s:Shared) (H:Hp) (vs:List V) (Q:VK) (E:XK),Room k (A.deeper (envOfC qual scope s.heap.objs.size f cdv)) -> sp vs H Q E ->
   ∃ t,PSs (cxOf CX P w K mg base N qual scope f cdv A outer s H E) body t ∧ t { nx := fun _ H' => Q .non H',rt := Q } (start N vs) H) :
  FnOk P w K mg base CX (k + 1) f (PySem.W.fnOf name qual params body scope dV kV doc pm an cdv ct) ps sp:= by
 refine ⟨len,fun A outer s H args us vs Q E hr e0 hb r hsp => ?_⟩
 have hl := len _ _ _ _ hsp
 have KX:K.In s.heap := e0.mod.kin.keeps fun b o e => (e0.bs b o e).1
 have lim:s.heap.NoLimit := e0.mod.nolimit.keeps fun b o e => (e0.bs b o e).1
 have hkind:∀ y ∈ ps.zip us,scope.names.lookup y.1 = some .local ∨ (scope.names.lookup y.1 = some .cell ∧ ((cellsFrom (s.heap.objs.size + 1) scope.names []).lookup y.1).isSome = true) := fun ⟨n,v⟩ hy => by
  rcases S.par n (List.of_mem_zip hy).1 with q | q
  ·exact .inl q
  ·exact .inr ⟨q,PySem.W.cellsFrom_some _ _ _ (.inl q)⟩
 refine codeAny_call_function hr.depth (KX _ _ lk) rfl S.co S.gen rfl (PySem.W.codeRec_of KX hcd) (hb _ _ _ _ ?_)
 refine wpAny_newFunctionEnv_cells S.kind hkind fun env he s1 x => ?_
 subst he
 refine ⟨lim.keeps x.toInCall.keep,codeAny_func ?_⟩
 obtain ⟨t,ht,hq⟩ := hbody A outer s H vs Q E (hr.deeper _) hsp
 have I:Inv (cxOf CX P w K mg base N qual scope f cdv A outer s H E) [] (start N vs) H s1 := inv_start S hr.hd e0 hl r x
 refine wpAny_mono (ht [] s1 (start N vs) H _ I hq) (fun fl s' hs => ?_) fun e s' hs => hs
 have fin:∀ {σ':St} {H':Hp} {v:V} {u:Value},Inv (cxOf CX P w K mg base N qual scope f cdv A outer s H E) [] σ' H' s' -> RelV v u -> Q v H' -> CE outer P w H s Q u s' :=
  fun {σ' H' v u} J rv q => ⟨v,H',J.os,J.bare,J.base,J.hok,rv,q⟩
 cases fl with
 | ret u =>
  obtain ⟨v,σ',H',J,rv,q⟩ := hs
  exact fin J rv q
 | next =>
  obtain ⟨σ',H',J,q⟩ := hs
  exact fin (v := V.non) (u := Value.none) J rfl q
 | brk =>
  obtain ⟨_,_,_,q⟩ := hs
  exact False.elim q
 | cont =>
  obtain ⟨_,_,_,q⟩ := hs
  exact False.elim q
end L2
namespace L2
open PySem PySem.Spec PyProof.Rows
section
variable {X:Cx} {x:Str} {p pos:Pos} {e:Expr} {es:List Expr} {t:TA} {id T:String} {r:List V -> Hp -> VK -> Prop}
noncomputable def tCB (r:List V -> Hp -> VK -> Prop) (t:TA):TE := fun σ H Q => t σ H fun vs H1 => r vs H1 Q
theorem pe_callB (hc:CallR X (.builtin id) r) (hg:Gl X x) (hm:X.mg x = none) (hv:bootBuiltins x = some (.builtin id)) (ha:PA X (e :: es) t) (hn:x ≠ "__name__" := by decide) (hdb:(x == ("__debug__":Str)) = false := by decide)
  (he:starEach (e :: es) X.env = (false,eval e X.env) :: starEach es X.env := by rfl) (hpl:(backTo pos (starEach es X.env)).any (·.1) = false := by rfl):PE X (.Call (.Name x p) (e :: es) [] pos) (tCB r t):= by
 intro pins s σ H Q I h
 refine wpAny_Call_Name_kw (ld_blt I hg hm hv ?_ hn hdb)
 exact PyProof.Rows.callWith_builtin1 (thn (ha pos pins s σ H _ I h) fun us s1 ⟨vs,H1,I1,r1,q1⟩ => hc pins s1 σ H1 vs us Q I1 r1 q1) he hpl
theorem pe_callTy (hc:CallR X (.type T) r) (hg:Gl X x) (hm:X.mg x = none) (hv:bootBuiltins x = some (.type T)) (ha:PA X (e :: es) t) (hn:x ≠ "__name__" := by decide) (hdb:(x == ("__debug__":Str)) = false := by decide)
  (he:starEach (e :: es) X.env = (false,eval e X.env) :: starEach es X.env := by rfl) (hpl:(backTo pos (starEach es X.env)).any (·.1) = false := by rfl):PE X (.Call (.Name x p) (e :: es) [] pos) (tCB r t):= by
 intro pins s σ H Q I h
 refine wpAny_Call_Name_kw (ld_blt I hg hm hv ?_ hn hdb)
 exact PyProof.Rows.callWith_type1 (thn (ha pos pins s σ H _ I h) fun us s1 ⟨vs,H1,I1,r1,q1⟩ => hc pins s1 σ H1 vs us Q I1 r1 q1) he hpl
end
end L2
namespace HT
open PySem PyProof.Rows
section
open PySem.SeqAt
open PySem.AutoSeq1 (wpAny_loadPart')
open PySem.MeetsSeq PySem.MeetsSeq2 PySem.MeetsSeq3
end
section
variable {prog:Program} {w:World} {A:Around} {E:Value -> Shared -> Prop} {s:Shared}
noncomputable def sIx (n d:Nat):Option Int -> Nat
 | none => d
 | some v => if v < 0 then (v + (n:Int)).toNat else min v.toNat n
end
end HT
namespace L2
open PySem PySem.Spec PyProof.Rows
noncomputable abbrev TO := St -> Hp -> (Option Int -> Hp -> Prop) -> Prop
theorem intsAre_of {ns:List Int}:∀ {us:List Value},Vals (ns.map V.int) us -> IntsAre us ns:= by
 induction ns with
 | nil => intro us r; rw [List.map_nil] at r; cases r; exact .nil
 | cons n ns ih =>
  intro us r
  rw [List.map_cons] at r
  cases r with
  | cons r1 r2 =>
   obtain ⟨t,e⟩ := r1
   subst e
   exact .cons n t (ih r2)
section
variable {X:Cx} {e:Expr} {te:TE} {lo hi:Option Expr} {tl th:TO} {pos p2:Pos}
noncomputable def SlR (X:Cx) (r:V -> Option Int -> Option Int -> Hp -> VK -> Prop):Prop :=
 ∀ (pins:List (Addr × Obj)) (s:Shared) (σ:St) (H:Hp) (x:V) (v vl vu:Value) (lo hi:Option Int) (sl:Addr) (Q:VK),Inv X pins σ H s -> RelV x v -> s.heap.IsSliceOf sl vl vu .none -> IsPart vl lo -> IsPart vu hi -> r x lo hi H Q ->
  ∃ T id,typeLookup (.type T) "__getitem__" = pure (some (.builtin id)) ∧ s.TypeIs v T ∧ wpAny (model X.prog X.w) X.A (getItem v (.ref sl)) (EP X pins σ Q) X.xe s
theorem SlR.or {r r':V -> Option Int -> Option Int -> Hp -> VK -> Prop} (h:SlR X r) (h':SlR X r'):SlR X (fun x lo hi H Q => r x lo hi H Q ∨ r' x lo hi H Q):= by
 intro pins s σ H x v vl vu lo hi sl Q I rx hs pl pu q
 rcases q with q | q
 ·exact h pins s σ H x v vl vu lo hi sl Q I rx hs pl pu q
 ·exact h' pins s σ H x v vl vu lo hi sl Q I rx hs pl pu q
noncomputable def cutV (xs:List V) (lo hi:Option Int):List V := (xs.drop (HT.sIx xs.length 0 lo)).take (HT.sIx xs.length xs.length hi - HT.sIx xs.length 0 lo)
theorem cutV_length (xs:List V) (lo hi:Option Int):(cutV xs lo hi).length ≤ xs.length:= by
 unfold cutV
 rw [List.length_take,List.length_drop]
 omega
end
end L2
namespace L2
open PySem PySem.Spec PyProof.Rows
noncomputable def ixN (n:Nat) (i:Int):Option Nat := if 0 ≤ i then (if i < n then some i.toNat else none) else if -(n:Int) ≤ i then some (i + n).toNat else none
noncomputable def atI {α:Type} (xs:List α) (i:Int):Option α := (ixN xs.length i).bind fun j => xs[j]?
theorem ixN_seq {n:Nat} {i:Int} {j:Nat} (h:ixN n i = some j):seqIndex? i n = some j ∧ j < n ∧ -(n:Int) ≤ i ∧ i < n:= by
 unfold ixN at h
 by_cases h0:0 ≤ i
 ·rw [if_pos h0] at h
  by_cases h1:i < n
  ·rw [if_pos h1] at h
   have e:i.toNat = j := Option.some.inj h
   exact ⟨by rw [seqIndex_of h0 h1,e],by omega,by omega,h1⟩
  ·rw [if_neg h1] at h; cases h
 ·rw [if_neg h0] at h
  by_cases h1:-(n:Int) ≤ i
  ·rw [if_pos h1] at h
   have e:(i + n).toNat = j := Option.some.inj h
   exact ⟨by rw [seqIndex_neg (by omega) h1,e],by omega,h1,by omega⟩
  ·rw [if_neg h1] at h; cases h
theorem atI_get {α:Type} {xs:List α} {i:Int} {v:α} (h:atI xs i = some v):∃ j,seqIndex? i xs.length = some j ∧ xs[j]? = some v ∧ j < xs.length ∧ -(xs.length:Int) ≤ i ∧ i < xs.length:= by
 unfold atI at h
 cases e:ixN xs.length i with
 | none => rw [e] at h; cases h
 | some j =>
  rw [e] at h
  obtain ⟨h1,h2,h3,h4⟩ := ixN_seq e
  exact ⟨j,h1,h,h2,h3,h4⟩
theorem atI_nat {α:Type} {xs:List α} {j:Nat} {v:α} (h:xs[j]? = some v):atI xs (j:Int) = some v:= by
 have hj:j < xs.length := (List.getElem?_eq_some_iff.mp h).1
 have e:ixN xs.length (j:Int) = some j:= by
  unfold ixN
  rw [if_pos (by omega),if_pos (by omega)]; simp
 unfold atI; rw [e]; exact h
noncomputable def PlainIx (b:Expr):Prop := ∀ o i,subscripted b false o i = operate [o,i] (getItem o i)
noncomputable def IxR (X:Cx) (r:R2):Prop :=
 ∀ (value slice:Expr) (pins:List (Addr × Obj)) (s:Shared) (σ:St) (H:Hp) (x y:V) (v u:Value) (Q:VK),Inv X pins σ H s -> RelV x v -> RelV y u -> r x y H Q ->
  subscripted slice false v u = operate [v,u] (getItem v u) -> wpAny (model X.prog X.w) X.A (subscriptTail value slice v u) (EP X pins σ Q) X.xe s
noncomputable def MtR (X:Cx) (id:String) (r:V -> List V -> Hp -> VK -> Prop):Prop :=
 ∀ (pins:List (Addr × Obj)) (s:Shared) (σ:St) (H:Hp) (x:V) (xs:List V) (v:Value) (us:List Value) (Q:VK),Inv X pins σ H s -> RelV x v -> Vals xs us -> r x xs H Q ->
  wpAny (model X.prog X.w) X.A (call (.builtin id) (v :: us)) (EP X pins σ Q) X.xe s
section
variable {X:Cx} {a b:Expr} {ta tb:TE} {pos:Pos}
theorem IxR.or {r r':R2} (h:IxR X r) (h':IxR X r'):IxR X (fun x y H Q => r x y H Q ∨ r' x y H Q):= by
 intro value slice pins s σ H x y v u Q I rx ry q hs
 rcases q with q | q
 ·exact h value slice pins s σ H x y v u Q I rx ry q hs
 ·exact h' value slice pins s σ H x y v u Q I rx ry q hs
theorem MtR.or {id:String} {r r':V -> List V -> Hp -> VK -> Prop} (h:MtR X id r) (h':MtR X id r'):MtR X id (fun x xs H Q => r x xs H Q ∨ r' x xs H Q):= by
 intro pins s σ H x xs v us Q I rx rs q
 rcases q with q | q
 ·exact h pins s σ H x xs v us Q I rx rs q
 ·exact h' pins s σ H x xs v us Q I rx rs q
theorem pe_ix {r:R2} (hr:IxR X r) (ha:PE X a ta) (hb:PE X b tb) (hs:PlainIx b):PE X (.Subscript a b pos) (tOp r ta tb):= by
 intro pins s σ H Q I h
 exact Subscript_ (binT ha hb I h fun v u s2 x y H2 I2 rx ry q => hr a b pins s2 σ H2 x y v u Q I2 rx ry q (hs _ _))
noncomputable def rIxL (K:PySem.W.Frag):R2 := fun x y H Q => ∃ p xs i v,x = .ref p ∧ y = .int i ∧ SqL K H p xs ∧ atI xs i = some v ∧ Q v H
noncomputable def rIxT (K:PySem.W.Frag):R2 := fun x y H Q => ∃ p xs i v,x = .ref p ∧ y = .int i ∧ SqT K H p xs ∧ atI xs i = some v ∧ Q v H
noncomputable def rIxS:R2 := fun x y H Q => ∃ z i c,x = .str z ∧ y = .int i ∧ z.length ≤ sizeLine ∧ atI z.cps.toList i = some c ∧ Q (.str ⟨#[c]⟩) H
theorem ix_list:IxR X (rIxL X.K):= by
 intro value slice pins s σ H x y v u Q I rx ry h hs
 obtain ⟨p,xs,i,z,rfl,rfl,hq,he,q⟩ := h
 cases rx
 obtain ⟨t,rfl⟩ := ry
 obtain ⟨its,r,pl,hz⟩ := I.list hq
 obtain ⟨j,h1,h2,h3,h4,h5⟩ := atI_get he
 obtain ⟨w,ew,rw'⟩ := r.get h2
 have hl := r.length
 have hn := line63
 have fin:EP X pins σ Q w s := ⟨z,H,I,rw',q⟩
 by_cases h0:0 ≤ i
 ·have hj:i.toNat = j:= by
   rw [seqIndex_of h0 h5] at h1
   exact Option.some.inj h1
  exact item_listR pl.isList h0 (by omega) (by rw [hj]; simpa using ew) fin hs
 ·have hj:(i + (its.toArray.size:Int)).toNat = j:= by
   rw [seqIndex_neg (by omega) h4] at h1
   rw [List.size_toArray,<- hl]
   exact Option.some.inj h1
  exact subscriptTail_builtinR (x := w) pl.isList.typeIs slot_list_getitem.lookup
   (wpAny_getItem_list_neg (Q := fun r s' => r = w ∧ EP X pins σ Q r s') pl.isList (by omega) (by rw [List.size_toArray] <;> omega) (by omega) (by rw [hj]; simpa using ew) ⟨rfl,fin⟩) hs
theorem ix_tup:IxR X (rIxT X.K):= by
 intro value slice pins s σ H x y v u Q I rx ry h hs
 obtain ⟨p,xs,i,z,rfl,rfl,hq,he,q⟩ := h
 cases rx
 obtain ⟨t,rfl⟩ := ry
 obtain ⟨its,r,pl,hz⟩ := I.tuple hq
 obtain ⟨j,h1,h2,h3,h4,h5⟩ := atI_get he
 obtain ⟨w,ew,rw'⟩ := r.get h2
 have hl := r.length
 have hn := line63
 have fin:EP X pins σ Q w s := ⟨z,H,I,rw',q⟩
 exact subscriptTail_builtinR (x := w) pl.typeIs slot_tuple_getitem.lookup
  (getItem_tuple (j := j) (Q := fun r s' => r = w ∧ EP X pins σ Q r s') pl (by omega) (by omega) (by rw [List.size_toArray,<- hl]; exact h1) (by simpa using ew) ⟨rfl,fin⟩) hs
theorem ix_str:IxR X rIxS:= by
 intro value slice pins s σ H x y v u Q I rx ry h hs
 obtain ⟨z,i,c,rfl,rfl,hz,he,q⟩ := h
 obtain ⟨t,rfl⟩ := rx
 obtain ⟨t',rfl⟩ := ry
 obtain ⟨j,h1,h2,h3,h4,h5⟩ := atI_get he
 have hl:z.cps.toList.length = z.length := by simp [Str.length]
 rw [hl] at h1 h4 h5
 have hn := line63
 exact tail_any (typeIs_str s z t) slot_str_getitem.lookup (getItem_str (c := c) (by
  have e1:decide (i < -(2 ^ 63:Int)) = false := decide_eq_false (by omega)
  have e2:decide (i ≥ 2 ^ 63) = false := decide_eq_false (by omega)
  rw [e1,e2,Bool.or_false]) (by rw [h1]; simpa using h2) ⟨.str ⟨#[c]⟩,H,I.tok _,⟨_,rfl⟩,q⟩) hs
noncomputable def rIx (K:PySem.W.Frag):R2 := fun x y H Q => rIxL K x y H Q ∨ rIxT K x y H Q ∨ rIxS x y H Q
theorem ix_seq:IxR X (rIx X.K) := ix_list.or (ix_tup.or ix_str)
theorem mapSeq_set (its:List Value) (n j:Nat) (u:Value):Obj.mapSeq (·.setIfInBounds j u) { cls := .type "list",data := .seq its.toArray n } = { cls := .type "list",data := .seq (its.set j u).toArray n }:= by
 simp [Obj.mapSeq]
theorem Inv.lst {pins:List (Addr × Obj)} {σ:St} {H:Hp} {s:Shared} {p:Addr} {xs:List V} (I:Inv X pins σ H s) (h:H p = some (.lst xs)) :
  ∃ (its:List Value) (n:Nat),Vals xs its ∧ s.heap.get? p = some { cls := .type "list",data := .seq its.toArray n } ∧ xs.length ≤ sizeLine:= by
 obtain ⟨z,its,n,r,e⟩ := I.hok p _ h
 exact ⟨its,n,r,e,z⟩
theorem Inv.lstUpd {pins:List (Addr × Obj)} {σ:St} {H:Hp} {s:Shared} {p:Addr} {xs ys:List V} {its its':List Value} {n n':Nat} {f:Obj -> Obj} (I:Inv X pins σ H s) (h:H p = some (.lst xs))
  (ho:s.heap.get? p = some { cls := .type "list",data := .seq its.toArray n }) (hf:f { cls := .type "list",data := .seq its.toArray n } = { cls := .type "list",data := .seq its'.toArray n' }) (r:Vals ys its') (hz:ys.length ≤ sizeLine) (t:Nat) :
  Inv X pins σ (upd H p (.lst ys)) { s with heap := s.heap.update p f,toks := t }:= by
 have e:(s.heap.update p f).get? p = some { cls := .type "list",data := .seq its'.toArray n' }:= by
  rw [Heap.get?_update_self f ho (by rw [hf] <;> rfl),hf]
 refine I.write (x := p) (e := p) (by rw [h]; trivial) (.inl rfl) (fun b u hb q => (Heap.get?_update_other _ _ (Ne.symm hb)).trans q) ⟨_,e⟩ ?_
 exact ⟨hz,its',n',r,e⟩
noncomputable def rSetL:V -> V -> V -> Hp -> (Hp -> Prop) -> Prop := fun o i v H Q => ∃ p xs k j,o = .ref p ∧ i = .int k ∧ H p = some (.lst xs) ∧ ixN xs.length k = some j ∧ Q (upd H p (.lst (xs.set j v)))
theorem set_list:PSet X rSetL:= by
 intro pins s σ H o i v ov iv u Q I ro ri rv h
 obtain ⟨p,xs,k,j,rfl,rfl,hp,hj,q⟩ := h
 cases ro
 obtain ⟨t,rfl⟩ := ri
 obtain ⟨its,n,r,ho,hz⟩ := I.lst hp
 obtain ⟨h1,h2,h3,h4⟩ := ixN_seq hj
 have hl := r.length
 have hn := line63
 have I':Inv X pins σ (upd H p (.lst (xs.set j v))) { s with heap := s.heap.update p (Obj.mapSeq (·.setIfInBounds j u)) } :=
  I.lstUpd hp ho (mapSeq_set its n j u) (r.set rv j) (by rw [List.length_set]; exact hz) s.toks
 by_cases h0:0 ≤ k
 ·have hk:k.toNat = j:= by
   rw [seqIndex_of h0 h4] at h1
   exact Option.some.inj h1
  exact PySem.W.ki_setAt ho h0 (by omega) (by rw [List.size_toArray,<- hl]; exact h4) (by rw [hk]; exact ⟨_,I',q⟩)
 ·have hk:(k + (its.toArray.size:Int)).toNat = j:= by
   rw [seqIndex_neg (by omega) h3] at h1
   rw [List.size_toArray,<- hl]
   exact Option.some.inj h1
  exact PySem.W.ki_setBack ho (by omega) (by rw [List.size_toArray,<- hl]; exact h3) (by omega) (by rw [hk]; exact ⟨_,I',q⟩)
theorem slice_bounds (lo hi:Option Int) (n:Nat):(sliceBounds lo hi none n).1 = ((HT.sIx n 0 lo:Nat):Int) ∧ (sliceBounds lo hi none n).2.1 = ((HT.sIx n n hi:Nat):Int) ∧ (sliceBounds lo hi none n).2.2 = 1:= by
 refine ⟨?_,?_,rfl⟩
 ·cases lo with
  | none => simp [sliceBounds,HT.sIx]
  | some i =>
   simp only [sliceBounds,HT.sIx,Option.getD_none,show (1:Int) > 0 by decide,if_true]
   by_cases h:i < 0
   ·simp only [h,if_true] <;> omega
   ·simp only [h,if_false] <;> omega
 ·cases hi with
  | none => simp [sliceBounds,HT.sIx]
  | some i =>
   simp only [sliceBounds,HT.sIx,Option.getD_none,show (1:Int) > 0 by decide,if_true]
   by_cases h:i < 0
   ·simp only [h,if_true] <;> omega
   ·simp only [h,if_false] <;> omega
theorem slicePick_cut (its:List Value) (lo hi:Option Int):slicePick its.toArray lo hi none = ((its.drop (HT.sIx its.length 0 lo)).take (HT.sIx its.length its.length hi - HT.sIx its.length 0 lo)).toArray:= by
 obtain ⟨h1,h2,h3⟩ := slice_bounds lo hi its.toArray.size
 unfold slicePick
 rw [h1,h2,h3]
 simp only [sliceRange_one,pick_run,List.size_toArray] <;> rfl
noncomputable def rSlL (K:PySem.W.Frag):V -> Option Int -> Option Int -> Hp -> VK -> Prop := fun x lo hi H Q => ∃ a xs,x = .ref a ∧ SqL K H a xs ∧ ∀ p,H p = none -> Q (.ref p) (upd H p (.lst (cutV xs lo hi)))
theorem sl_list:SlR X (rSlL X.K):= by
 intro pins s σ H x v vl vu lo hi sl Q I rx hs pl pu h
 obtain ⟨a,xs,rfl,hx,q⟩ := h
 cases rx
 obtain ⟨its,r,ht,hz⟩ := I.list hx
 have hlen := r.length
 refine ⟨"list",_,slot_list_getitem.lookup,ht.isList.typeIs,?_⟩
 refine wpAny_getItem_list_slice ht.isList hs pl pu .none (by simp) ?_ (by rw [List.size_toArray] <;> omega)
 rw [slicePick_cut,<- hlen]
 refine ⟨.ref s.heap.objs.size,_,I.laid (t' := s.toks) (o := .lst (cutV xs lo hi)) (fun b ob q => Heap.get?_push_of_some _ q) (Nat.le_refl _) ?_,rfl,q _ (I.hok.fresh (Nat.le_refl _))⟩
 exact ⟨Nat.le_trans (cutV_length xs lo hi) hz,_,0,(r.drop (HT.sIx xs.length 0 lo)).take (HT.sIx xs.length xs.length hi - HT.sIx xs.length 0 lo),Heap.get?_push_size _ rfl⟩
noncomputable def flatV:V -> Bool
 | .non => true
 | .bl _ => true
 | .int _ => true
 | .str _ => true
 | _ => false
noncomputable def eqV:V -> V -> Bool
 | .non,.non => true
 | .bl a,.bl b => a == b
 | .bl a,.int b => (if a then 1 else 0) == b
 | .int a,.bl b => a == (if b then 1 else 0)
 | .int a,.int b => a == b
 | .str a,.str b => a == b
 | _,_ => false
theorem eqAt_V {A:Around} {s:Shared} {y x:V} {u v:Value} (ry:RelV y u) (rx:RelV x v) (fy:flatV y = true) (fx:flatV x = true):SeqAt.EqAt A s u v (eqV y x):= by
 cases y with
 | non =>
  cases ry
  cases x with
  | non => cases rx; exact SeqAt.EqAt.same _
  | bl b => cases rx; exact SeqAt.EqAt.none_bool b
  | int b => obtain ⟨t,rfl⟩ := rx; exact SeqAt.EqAt.none_int b t
  | str b => obtain ⟨t,rfl⟩ := rx; exact SeqAt.EqAt.none_str b t
  | _ => exact absurd (show false = true from fx) Bool.false_ne_true
 | bl a =>
  cases ry
  cases x with
  | non => cases rx; exact SeqAt.EqAt.bool_none a
  | bl b => cases rx; exact SeqAt.EqAt.bool_bool a b
  | int b => obtain ⟨t,rfl⟩ := rx; exact SeqAt.EqAt.bool_int a b t
  | str b => obtain ⟨t,rfl⟩ := rx; exact SeqAt.EqAt.bool_str a b t
  | _ => exact absurd (show false = true from fx) Bool.false_ne_true
 | int a =>
  obtain ⟨t',rfl⟩ := ry
  cases x with
  | non => cases rx; exact SeqAt.EqAt.int_none a t'
  | bl b => cases rx; exact SeqAt.EqAt.int_bool a t' b
  | int b => obtain ⟨t,rfl⟩ := rx; exact SeqAt.EqAt.int_int a t' b t
  | str b => obtain ⟨t,rfl⟩ := rx; exact SeqAt.EqAt.int_str a t' b t
  | _ => exact absurd (show false = true from fx) Bool.false_ne_true
 | str a =>
  obtain ⟨t',rfl⟩ := ry
  cases x with
  | non => cases rx; exact SeqAt.EqAt.str_none a t'
  | bl b => cases rx; exact SeqAt.EqAt.str_bool a t' b
  | int b => obtain ⟨t,rfl⟩ := rx; exact SeqAt.EqAt.str_int a t' b t
  | str b => obtain ⟨t,rfl⟩ := rx; exact SeqAt.EqAt.str_str a t' b t
  | _ => exact absurd (show false = true from fx) Bool.false_ne_true
 | _ => exact absurd (show false = true from fy) Bool.false_ne_true
noncomputable def eqU (x:V) (u:Value):Bool := match u with
 | .none => eqV .non x
 | .bool b => eqV (.bl b) x
 | .int i _ => eqV (.int i) x
 | .str z _ => eqV (.str z) x
 | _ => false
theorem eqU_of {x y:V} {u:Value} (r:RelV y u) (f:flatV y = true):eqU x u = eqV y x:= by
 cases y with
 | non => cases r; rfl
 | bl b => cases r; rfl
 | int i => obtain ⟨t,rfl⟩ := r; rfl
 | str z => obtain ⟨t,rfl⟩ := r; rfl
 | _ => exact absurd (show false = true from f) Bool.false_ne_true
theorem any_eqU {x:V}:∀ {xs:List V} {us:List Value},Vals xs us -> xs.all flatV = true -> us.any (eqU x) = xs.any fun y => eqV y x
 | _,_,.nil,_ => rfl
 | y :: xs,u :: us,.cons r t,f => by
  rw [List.all_cons,Bool.and_eq_true] at f
  rw [List.any_cons,List.any_cons,eqU_of r f.1,any_eqU t f.2]
theorem mem_eqAt {A:Around} {s:Shared} {x:V} {v:Value} (rx:RelV x v) (fx:flatV x = true):∀ {xs:List V} {us:List Value},Vals xs us -> xs.all flatV = true -> ∀ u ∈ us,SeqAt.EqAt A s u v (eqU x u)
 | _,_,.nil,_ => fun u hu => by cases hu
 | y :: xs,u :: us,.cons r t,f => fun u' hu => by
  rw [List.all_cons,Bool.and_eq_true] at f
  rcases List.mem_cons.mp hu with rfl | hu
  ·rw [eqU_of r f.1]; exact eqAt_V r rx f.1 fx
  ·exact mem_eqAt rx fx t f.2 u' hu
noncomputable def inV (x:V) (xs:List V):Bool := xs.any fun y => eqV y x
noncomputable def rIn (K:PySem.W.Frag) (neg:Bool):R2 := fun x y H Q => ∃ p xs,y = .ref p ∧ (SqL K H p xs ∨ SqT K H p xs) ∧ flatV x = true ∧ xs.all flatV = true ∧ Q (.bl (if neg then !inV x xs else inV x xs)) H
theorem op_in_seq:OpR X (compareOp .In) (rIn X.K false):= by
 intro pins s σ H x y v u Q I rx ry h
 obtain ⟨p,xs,rfl,hq,fx,fs,q⟩ := h
 cases ry
 rcases hq with hq | hq
 ·obtain ⟨its,r,pl,hz⟩ := I.list hq
  refine SeqAt.in_listAt (eqU x) pl.isList (fun w hw => mem_eqAt rx fx r fs w (by simpa using hw)) ⟨.bl _,H,I,rfl,?_⟩
  rw [show its.toArray.any (eqU x) = its.any (eqU x) by simp,any_eqU r fs]
  exact q
 ·obtain ⟨its,r,pl,hz⟩ := I.tuple hq
  refine SeqAt.in_tupleAt (eqU x) pl (fun w hw => mem_eqAt rx fx r fs w (by simpa using hw)) ⟨.bl _,H,I,rfl,?_⟩
  rw [show its.toArray.any (eqU x) = its.any (eqU x) by simp,any_eqU r fs]
  exact q
theorem op_notIn_seq:OpR X (compareOp .NotIn) (rIn X.K true):= by
 intro pins s σ H x y v u Q I rx ry h
 obtain ⟨p,xs,rfl,hq,fx,fs,q⟩ := h
 cases ry
 rcases hq with hq | hq
 ·obtain ⟨its,r,pl,hz⟩ := I.list hq
  refine SeqAt.notIn_listAt (eqU x) pl.isList (fun w hw => mem_eqAt rx fx r fs w (by simpa using hw)) ⟨.bl _,H,I,rfl,?_⟩
  rw [show its.toArray.any (eqU x) = its.any (eqU x) by simp,any_eqU r fs]
  exact q
 ·obtain ⟨its,r,pl,hz⟩ := I.tuple hq
  refine SeqAt.notIn_tupleAt (eqU x) pl (fun w hw => mem_eqAt rx fx r fs w (by simpa using hw)) ⟨.bl _,H,I,rfl,?_⟩
  rw [show its.toArray.any (eqU x) = its.any (eqU x) by simp,any_eqU r fs]
  exact q
theorem call_len_seq:CallR X (.builtin "len") (fun xs H Q => ∃ p ys,xs = [.ref p] ∧ (SqL X.K H p ys ∨ SqT X.K H p ys) ∧ Q (.int ys.length) H):= by
 intro pins s σ H xs us Q I r h
 obtain ⟨p,ys,rfl,hq,q⟩ := h
 obtain ⟨u,rfl,rx⟩ := vals1 r
 cases rx
 have hn := line63
 rcases hq with hq | hq
 ·obtain ⟨its,r',pl,hz⟩ := I.list hq
  have hlen := r'.length
  exact Calls.call_len_list pl.isList (by simp only [List.size_toArray] <;> omega) ⟨.int ys.length,H,I.tok _,⟨s.toks + 1,by rw [List.size_toArray,hlen]⟩,q⟩
 ·obtain ⟨its,r',pl,hz⟩ := I.tuple hq
  have hlen := r'.length
  exact len_tuple pl (by simp only [List.size_toArray] <;> omega) ⟨.int ys.length,H,I.tok _,⟨s.toks + 1,by rw [List.size_toArray,hlen]⟩,q⟩
theorem CallR.or {f:Value} {r r':List V -> Hp -> VK -> Prop} (h:CallR X f r) (h':CallR X f r'):CallR X f (fun xs H Q => r xs H Q ∨ r' xs H Q):= by
 intro pins s σ H xs us Q I rs q
 rcases q with q | q
 ·exact h pins s σ H xs us Q I rs q
 ·exact h' pins s σ H xs us Q I rs q
theorem call_tuple_of:CallR X (.type "tuple") (fun xs H Q => ∃ p ys,xs = [.ref p] ∧ ((SqL X.K H p ys ∧ ∀ l,H l = none -> Q (.ref l) (upd H l (.tup ys))) ∨ (SqT X.K H p ys ∧ Q (.ref p) H))):= by
 intro pins s σ H xs us Q I r h
 obtain ⟨p,ys,rfl,h⟩ := h
 obtain ⟨u,rfl,rx⟩ := vals1 r
 cases rx
 rcases h with ⟨hq,q⟩ | ⟨hq,q⟩
 ·obtain ⟨its,r',pl,hz⟩ := I.list hq
  have hlen := r'.length
  refine call_tuple_list pl.isList (fun h' kp => ?_) (by simp only [List.size_toArray] <;> omega)
  have I1:Inv X pins σ H { s with heap := h' } := I.kept (t' := s.toks) kp
  have I2:Inv X pins σ (upd H h'.objs.size (.tup ys)) { s with heap := h'.push { cls := .type "tuple",data := .seq its.toArray } } :=
   I1.laid (t' := s.toks) (fun b o e => Heap.get?_push_of_some _ e) (Nat.le_refl _) (show ObjOk X.prog X.w _ _ _ (.tup ys) from ⟨hz,its,r',IsTup.new _ _⟩)
  exact ⟨.ref h'.objs.size,_,I2,rfl,q _ (I1.hok.fresh (Nat.le_refl _))⟩
 ·obtain ⟨its,r',pl,hz⟩ := I.tuple hq
  exact call_tuple_same pl ⟨.ref p,H,I,rfl,q⟩
noncomputable def tyV (K:PySem.W.Frag) (T:String) (x:V) (H:Hp):Prop := match x with
 | .str _ => T = "str"
 | .int _ => T = "int"
 | .ref p => (T = "list" ∧ ∃ xs,SqL K H p xs) ∨ (T = "tuple" ∧ ∃ o,K.lookup p = some o ∧ o.cls = .type "tuple" ∧ o.dict = none) ∨
   (T = "dict" ∧ ((∃ kvs,H p = some (.dK kvs)) ∨ ∃ kvs,H p = some (.dT kvs))) ∨ (T = "set" ∧ ∃ S n,H p = some (.set S n))
 | _ => False
theorem tyV_is {pins:List (Addr × Obj)} {σ:St} {H:Hp} {s:Shared} {T:String} {x:V} {v:Value} (I:Inv X pins σ H s) (r:RelV x v) (ty:tyV X.K T x H) :
  s.TypeIs v T ∧ ∀ a,v = .ref a -> ∃ ob,s.heap.get? a = some ob ∧ ob.dict = none:= by
 cases x with
 | str z =>
  obtain ⟨t,rfl⟩ := r
  cases (show T = "str" from ty)
  exact ⟨typeIs_str s z t,fun _ e => nomatch e⟩
 | int i =>
  obtain ⟨t,rfl⟩ := r
  cases (show T = "int" from ty)
  exact ⟨typeIs_int s i t,fun _ e => nomatch e⟩
 | ref p =>
  cases r
  rcases ty with ⟨rfl,xs,hq⟩ | ⟨rfl,o,hk,hc,hd⟩ | ⟨rfl,hk⟩ | ⟨rfl,S,n,hk⟩
  ·obtain ⟨its,_,pl,_⟩ := I.list hq
   refine ⟨pl.isList.typeIs,fun a e => ?_⟩
   cases e
   obtain ⟨o,n,e,c,hd,_⟩ := pl
   exact ⟨o,e,hd⟩
  ·refine ⟨⟨o,I.kIn p o hk,hc⟩,fun a e => ?_⟩
   cases e
   exact ⟨o,I.kIn _ o hk,hd⟩
  ·have z:∃ o,s.heap.get? p = some o ∧ o.ExactDict:= by
    rcases hk with ⟨kvs,hk⟩ | ⟨kvs,hk⟩
    ·obtain ⟨_,_,_,_,o,_,_,e,ex,_⟩ := I.hok p _ hk
     exact ⟨o,e,ex⟩
    ·obtain ⟨_,_,_,_,o,_,_,e,ex,_⟩ := I.hok p _ hk
     exact ⟨o,e,ex⟩
   obtain ⟨o,e,ex⟩ := z
   refine ⟨⟨o,e,ex.1⟩,fun a e2 => ?_⟩
   cases e2
   exact ⟨o,e,ex.2.1⟩
  ·obtain ⟨o,_,_,_,e,ex,_⟩ := I.hok p _ hk
   refine ⟨⟨o,e,ex.1⟩,fun a e2 => ?_⟩
   cases e2
   exact ⟨o,e,ex.2.1⟩
 | _ => exact False.elim ty
noncomputable def tBM (K:PySem.W.Frag) (T:String) (r:V -> List V -> Hp -> VK -> Prop) (to:TE) (t:TA):TE := fun σ H Q => to σ H fun x H1 => tyV K T x H1 ∧ t σ H1 fun xs H2 => r x xs H2 Q
variable {o e:Expr} {es:List Expr} {to:TE} {t:TA} {name:Str} {apos cpos:Pos} {T id:String} {r:V -> List V -> Hp -> VK -> Prop}
theorem pe_bm (pa:PlainAttrs T) (slot:Slot T name id) (hty:typeOf (.builtin id) = pure (.type "method_descriptor")) (hm:MtR X id r) (ho:PE X o to) (ha:PA X (e :: es) t)
  (hbase:attributeBase o name X.env (eval o X.env) = eval o X.env := by rfl)
  (hfew:((backTo cpos (starEach (e :: es) X.env)).all (fun x => !x.1) && (backToKw cpos (keywordEach [] X.env)).all (fun x => x.1.isSome)
   && decide ((e :: es).length + ([]:List Keyword).length + (if ([]:List Keyword).isEmpty then 0 else 1) < 30)) = true := by rfl)
  (hline:(apos.endLine == cpos.line) = true := by rfl) (hs:starEach (e :: es) X.env = (false,eval e X.env) :: starEach es X.env := by rfl) (hplain:(backTo cpos (starEach es X.env)).any (·.1) = false := by rfl) :
  PE X (.Call (.Attribute o name apos) (e :: es) [] cpos) (tBM X.K T r to t):= by
 intro pins s σ H Q I h
 refine wpAny_Call_method_late hbase hfew hline rfl (thn (ho pins s σ H _ I h) fun v s1 ⟨x,H1,I1,r1,ty,q1⟩ => ?_)
 obtain ⟨h1,h2⟩ := tyV_is I1 r1 ty
 refine ⟨T,id,pa,slot,hty,h1,h2,?_⟩
 have hA := ha cpos pins s1 σ H1 _ I1 q1
 rw [hs] at hA ⊢
 refine Calls.callWith_builtin (by show (false || (backTo cpos (starEach es X.env)).any (·.1)) = false; rw [hplain] <;> rfl) (Calls.evalArgs_plain ?_)
 exact thn hA fun us s2 ⟨vs,H2,I2,r2,q2⟩ => hm pins s2 σ H2 x vs v us Q I2 r1 r2 q2
/- xs.append(e),list.index on a module's tuple .. are MtR facts of 06m -/
end
end L2
namespace L2
open PySem PySem.Spec PyProof.Rows
noncomputable def MtM (X:Cx) (id:String) (r:V -> List V -> Hp -> VK -> Prop):Prop :=
 ∀ (pins:List (Addr × Obj)) (s:Shared) (σ:St) (H:Hp) (x:V) (xs:List V) (v:Value) (us:List Value) (Q:VK),Inv X pins σ H s -> RelV x v -> Vals xs us -> r x xs H Q ->
  wpAny (model X.prog X.w) X.A (call (.builtin id) (v :: us)) (EP X pins σ Q) X.xe s
theorem Vals.one:∀ {x:V} {us:List Value},Vals [x] us -> ∃ u,us = [u] ∧ RelV x u
 | _,_,.cons r .nil => ⟨_,rfl,r⟩
theorem Vals.two:∀ {x y:V} {us:List Value},Vals [x,y] us -> ∃ u v,us = [u,v] ∧ RelV x u ∧ RelV y v
 | _,_,_,.cons r (.cons q .nil) => ⟨_,_,rfl,r,q⟩
theorem Vals.zero:∀ {us:List Value},Vals [] us -> us = []
 | _,.nil => rfl
theorem Vals.eraseIdx:∀ {xs:List V} {us:List Value} (i:Nat),Vals xs us -> Vals (xs.eraseIdx i) (us.eraseIdx i)
 | _,_,_,.nil => .nil
 | _,_,0,.cons _ t => t
 | _,_,i + 1,.cons r t => .cons r (Vals.eraseIdx i t)
theorem Vals.reverse {xs:List V} {us:List Value} (h:Vals xs us):Vals xs.reverse us.reverse:= by
 induction h with
 | nil => exact .nil
 | cons r t ih => rw [List.reverse_cons,List.reverse_cons]; exact Vals.append ih (.cons r .nil)
theorem len_erase {α:Type}:∀ (l:List α) (i:Nat),(l.eraseIdx i).length ≤ l.length
 | [],_ => Nat.le_refl _
 | _ :: _,0 => Nat.le_succ _
 | _ :: r,i + 1 => Nat.succ_le_succ (len_erase r i)
section
variable {X:Cx} {pins:List (Addr × Obj)} {σ:St} {H:Hp} {s:Shared} {l b:Addr} {xs ys zs:List V}
theorem Inv.lset {its its':List Value} {n:Nat} {f:Array Value -> Array Value} {t':Nat} (I:Inv X pins σ H s) (hH:H l = some (.lst xs))
  (e:s.heap.get? l = some { cls := .type "list",data := .seq its.toArray n }) (hf:f its.toArray = its'.toArray) (hv:Vals ys its') (hz:ys.length ≤ sizeLine) :
  Inv X pins σ (upd H l (.lst ys)) { s with heap := s.heap.update l (Obj.mapSeq f),toks := t' }:= by
 have q := PySem.IsL.update e f
 rw [hf] at q
 refine I.write (x := l) (e := l) (by rw [hH]; exact trivial) (.inl rfl) (fun b' u hb hu => (Heap.get?_update_other s.heap (Obj.mapSeq f) (Ne.symm hb)).trans hu) ⟨_,q⟩ ?_
 exact ⟨hz,its',_,hv,q⟩
theorem Inv.lnew {its:List Value} {t':Nat} (I:Inv X pins σ H s) (hv:Vals ys its) (hz:ys.length ≤ sizeLine) :
  Inv X pins σ (upd H s.heap.objs.size (.lst ys)) { s with heap := s.heap.push { cls := .type "list",data := .seq its.toArray },toks := t' } :=
 I.laid (fun _ _ q => Heap.get?_push_of_some _ q) (Nat.le_refl _) ⟨hz,its,0,hv,Heap.get?_push_size _ rfl⟩
theorem Inv.fresh (I:Inv X pins σ H s):H s.heap.objs.size = none := I.hok.fresh (Nat.le_refl _)
theorem Inv.lstM (I:Inv X pins σ H s) (hH:H l = some (.lst xs)):xs.length ≤ sizeLine ∧ ∃ (its:List Value) (n:Nat),Vals xs its ∧ xs.length = its.length ∧ s.heap.get? l = some { cls := .type "list",data := .seq its.toArray n }:= by
 obtain ⟨z,its,n,r,e⟩ := I.hok l _ hH
 exact ⟨z,its,n,r,r.length,e⟩
end
section
variable {X:Cx}
noncomputable def rAppend:V -> List V -> Hp -> VK -> Prop := fun x vs H Q => ∃ l xs y,x = .ref l ∧ vs = [y] ∧ H l = some (.lst xs) ∧ xs.length < sizeLine ∧ Q .non (upd H l (.lst (xs ++ [y])))
theorem mt_append:MtM X "list.append" rAppend:= by
 intro pins s σ H x vs v us Q I rx rv h
 obtain ⟨l,xs,y,rfl,rfl,hH,hz,q⟩ := h
 cases rx
 obtain ⟨u,rfl,ru⟩ := rv.one
 obtain ⟨z,its,n,r,hl,e⟩ := I.lstM hH
 refine call_meets F.slot_list_append ⟨_,e,rfl⟩ F.entry_list_append (F.args_list_append_2 _ _) (PySem.list_append l its.toArray n u (by rw [List.size_toArray]; omega)) ⟨e,?_⟩
 refine ⟨.non,_,I.lset (its' := its ++ [u]) hH e (by simp) (r.append (.cons ru .nil)) ?_,rfl,q⟩
 rw [List.length_append,List.length_singleton]
 omega
noncomputable def rPopAt:V -> List V -> Hp -> VK -> Prop := fun x vs H Q => ∃ l xs i k y,x = .ref l ∧ vs = [.int i] ∧ H l = some (.lst xs) ∧ -(2 ^ 63) ≤ i ∧ i < 2 ^ 63 ∧ seqIndex? i xs.length = some k ∧ xs[k]? = some y ∧ Q y (upd H l (.lst (xs.eraseIdx k)))
theorem mt_popAt:MtM X "list.pop" rPopAt:= by
 intro pins s σ H x vs v us Q I rx rv h
 obtain ⟨l,xs,i,k,y,rfl,rfl,hH,h1,h2,hk,hy,q⟩ := h
 cases rx
 obtain ⟨u,rfl,ru⟩ := rv.one
 obtain ⟨t,rfl⟩ := ru
 obtain ⟨z,its,n,r,hl,e⟩ := I.lstM hH
 obtain ⟨w,hw,rw'⟩ := r.get hy
 refine call_meets F.slot_list_pop ⟨_,e,rfl⟩ F.entry_list_pop (F.args_list_pop_2 _ _)
  (MeetsSeq.list_pop_at l its.toArray n i t k w (fitsIndex_both h1 h2) (by rw [List.size_toArray,<- hl]; exact hk) (by rw [<- Array.getElem?_toList]; exact hw) (by rw [List.size_toArray]; omega)) ⟨e,?_⟩
 refine ⟨y,_,I.lset (its' := its.eraseIdx k) hH e ?_ (r.eraseIdx k) ?_,rw',q⟩
 ·show its.toArray.eraseIdxIfInBounds k = (its.eraseIdx k).toArray
  rw [List.eraseIdxIfInBounds_toArray]
 ·have := len_erase xs k
  omega
end
section
variable {prog:Program} {w:World} {A:Around} {E:Value -> Shared -> Prop} {s:Shared}
set_option maxRecDepth 100000 in
end
section
variable {X:Cx}
end
end L2
namespace Att
open PySem PySem.W PySem.Calls PyProof.Rows
theorem ints_of_wellAll {P:Params} {h:Heap}:∀ (ns:List Int) (vs:List Value),WellAll P h vs (ns.map WData.int) -> IntsAre vs ns:= by
 intro ns
 induction ns with
 | nil =>
  intro vs w
  rw [List.map_nil] at w
  cases w
  exact .nil
 | cons n ns ih =>
  intro vs w
  rw [List.map_cons] at w
  cases w with
  | cons a b =>
   cases a
   exact .cons _ _ (ih _ b)
theorem script_of {l:OpenLaw} {n:Nat} (hn:l.most = some n) {P:Params} {h:Heap} {args:List WData} {vals:List Value}
  (hpre:l.row.toRowW.claim.pre args = true) (hwl:WellAll P h vals args) :
  ∃ a vs ns,vals = [Value.ref a] ∧ args = [WData.list (ns.map WData.int)] ∧ h.get? a = some { cls := .type "list",data := .seq vs.toArray } ∧ IntsAre vs ns ∧ ns.length ≤ n:= by
 have hsh:WShape.hasAll [] args [.list .int] = true := (pre_splitW hpre).1
 have hc:l.pre.holds [] { args := args } = true := (pre_splitW hpre).2
 obtain ⟨d,r,rfl,h1,h2⟩ := hasAllW_cons hsh
 obtain rfl := hasAllW_nil h2
 obtain ⟨xs,rfl,h3⟩ := hasW_list h1
 obtain ⟨ns,rfl⟩ := items_int h3
 have hlen:ns.length ≤ n:= by
  unfold OpenLaw.pre at hc
  have h4:(WTm.not (.lt (.lit (.int (n:Int))) (.len (.arg 0)))).holds [] { args := [.list (ns.map .int)] } = true:= by
   have h4 := (holds_andW hc).1
   rw [hn] at h4
   exact h4
  have h5 := condW_of h4 (w_not (w_lt w_lit (w_len_list (w_arg rfl))))
  rw [List.length_map] at h5
  refine Nat.le_of_not_lt fun q => ?_
  have q':(n:Int) < ((ns.length:Nat):Int) := by omega
  first
   | (rw [decide_eq_true q'] at h5; exact absurd h5 (by decide))
   | (simp at h5; omega)
 cases hwl with
 | cons w1 w2 =>
  cases w2
  cases w1 with
  | list ho hall => exact ⟨_,_,ns,rfl,rfl,ho,ints_of_wellAll ns _ hall,hlen⟩
theorem post_true (l:OpenLaw) (args:List WData):l.row.toRowW.claim.post args (.bool true) args = true :=
 postW_of (r := l.row.toRowW) (X := (true == true))
  (show WShape.has [] (.bool true) .bool = true by first | rfl | decide | simp [WShape.has,WShape.arms,WShape.armsAll])
  (show (WTm.eq .res (.lit (.bool true))).value [] { args := args,res := some (.bool true),after := args } = some (.bool (true == true)) from w_eq_bool (w_res rfl) w_lit) rfl
theorem attach_call {l:OpenLaw} {n:Nat} {q:Program} {loose:List Str} {XP:(Str -> Option Value) -> Heap -> Prop} {YP:World -> Heap -> Prop} {d:DefRec}
  (hn:l.most = some n) (hdf:d.params.defaults = [])
  (call:∀ (w:World) (s₀ s₁:Shared) (mg mb:Str -> Option Value) (fa:Addr) (o:Obj) (pm cd doc:Value) (a:Addr) (vs:List Value) (ns:List Int),
   Ground q loose [] XP w s₀ mg mb s₁.heap -> YP w s₁.heap ->
   s₁.heap.get? fa = some o -> o.data = .func (docDef d.name d.params d.body d.scope pm cd doc) -> s₁.heap.CodeRec cd d.name -> mg d.name = some (.ref fa) ->
   s₁.heap.get? a = some { cls := .type "list",data := .seq vs.toArray } -> IntsAre vs ns -> ns.length ≤ n -> s₁.gens = #[] ->
   codeAny (model l.prog w) callerA (.call (.ref fa) ⟨[.ref a],[]⟩) (fun r s' => r = .ok (.ret (.bool true)) ∧ OldK s₁.heap s'.heap ∧ s'.os = s₁.os ∧ AllBare s'.gens) s₁) :
  WalkO q loose XP YP l.row.toRowW d [] (fun f vs => PySem.call f vs):= by
 intro w s₀ s₁ mg mb G Y fa o pm cd doc dV kV ho hd hcd hD hmg hg args vals as hpre hlay hrd hwl hlo
 obtain rfl:dV = .none := Dflts.none hD hdf
 obtain rfl:kV = .none := Dflts.noKw hD
 obtain ⟨a,vs,ns,rfl,rfl,hobj,hints,hlen⟩ := script_of hn hpre hwl
 refine enter_call (codeAny_mono (call w s₀ s₁ mg mb fa o pm cd doc a vs ns G Y ho (fd_plain hd) hcd hmg hobj hints hlen hg) fun r s' hq => ?_)
 obtain ⟨rfl,h2,h3,h4⟩ := hq
 exact ⟨.inl ⟨.bool true,.bool true,[],rfl,fun _ => rfl,.bool true,post_true l _,fun _ => ⟨List.Pairwise.nil,fun _ hm => (nomatch hm)⟩⟩,h2,h3,h4⟩
section
variable {prog:Program} {w:World} {A:Around} {E:Value -> Shared -> Prop} {s:Shared} {K:Frag}
noncomputable def ledger (h:Heap) (L d:Addr):List (Addr × Obj) := (List.range h.objs.size).filterMap fun a => if a = L ∨ a = d then none else (h.get? a).map fun o => (a,o)
end
end Att
namespace L2
open PySem PySem.Spec PyProof.Rows
theorem vals_ints:∀ {vs:List Value} {ns:List Int},IntsAre vs ns -> Vals (ns.map V.int) vs
 | _,_,.nil => .nil
 | _,_,.cons n t h => .cons ⟨t,rfl⟩ (vals_ints h)
noncomputable def Only (H:Hp):Prop := ∀ b,H b = none ∨ ∃ o xs,H b = some (.frz o (.lst xs))
theorem law_call {P:Program} {w:World} {K:PySem.W.Frag} {mg mb:Str -> Option Value} {CX:CXT} {k:Nat} {fa a:Addr} {fd:FuncData} {x:Str} {sp:Sp} {s₁:Shared} {vs:List Value} {ns:List Int}
  (KX:K.In s₁.heap) (hns:s₁.heap.Ns mainGlobals mg) (hb:s₁.heap.Ns builtinsNs mb) (hbb:∀ x:Str,x ≠ "__name__" -> mb x = bootBuiltins x) (hlim:s₁.heap.NoLimit) (hg:s₁.gens = #[])
  (ha:s₁.heap.get? a = some { cls := .type "list",data := .seq vs.toArray }) (hi:IntsAre vs ns) (hl:ns.length ≤ sizeLine) (hr:Room k callerA)
  (F:∀ base:Heap,K.In base -> base.Ns mainGlobals mg -> FnOk P w K mg base CX k fa fd [x] sp) (hbind:∀ (s:Shared) (u:Value),BindsTo s fd ⟨[u],[]⟩ [(x,u)])
  (hsp:∀ H:Hp,Only H -> SqL K H a (ns.map V.int) -> sp [.ref a] H (fun v _ => v = .bl true) fun _ _ _ => False)
  (hCX:∀ H e s',CX [] H s₁ (fun _ _ _ => False) e s' -> False) :
  codeAny (model P w) callerA (.call (.ref fa) ⟨[.ref a],[]⟩) (fun r s' => r = .ok (.ret (.bool true)) ∧ OldK s₁.heap s'.heap ∧ s'.os = s₁.os ∧ AllBare s'.gens) s₁:= by
 have rv := vals_ints hi
 have lenV := hi.length
 -- from an abstract heap in which nothing but the script may be tracked
 have core:∀ H:Hp,Only H -> SqL K H a (ns.map V.int) -> HOk P w H s₁.heap -> (∀ b,H b ≠ none -> b = a) -> (H a ≠ none -> K.lookup a = none) ->
   codeAny (model P w) callerA (.call (.ref fa) ⟨[.ref a],[]⟩) (fun r s' => r = .ok (.ret (.bool true)) ∧ OldK s₁.heap s'.heap ∧ s'.os = s₁.os ∧ AllBare s'.gens) s₁:= by
  intro H hO hS hok hA hK
  have base_of:∀ {b:Addr} {o:Obj},s₁.heap.get? b = some o -> H b = none -> (hidT s₁.heap H).get? b = some o := fun e n => hidT_get e n
  have noA:∀ {b:Addr} {o:Obj} {es:Array DictEntry} {ep:Nat},s₁.heap.get? b = some o -> o.data = .dict es ep -> H b = none := fun {b o es ep} e d => by
   cases q:H b with
   | none => rfl
   | some u =>
    have e':b = a := hA b (by rw [q]; simp)
    subst e'
    rw [ha] at e; cases e
    have d':Data.seq vs.toArray _ = Data.dict es ep := d
    cases d'
  have nsK:∀ {b:Addr} {m:Str -> Option Value},s₁.heap.Ns b m -> (hidT s₁.heap H).Ns b m := fun {b m} ⟨o,es,ep,e,d,r⟩ => ⟨o,es,ep,base_of e (noA e d),d,r⟩
  have hKb:K.In (hidT s₁.heap H) := fun b o e => base_of (KX b o e) (by
   cases q:H b with
   | none => rfl
   | some u =>
    have e':b = a := hA b (by rw [q]; simp)
    subst e'
    rw [hK (by rw [q]; simp)] at e; cases e)
  have hM:Mod K mg (hidT s₁.heap H) := ⟨hKb,nsK hns,⟨mb,nsK hb,hbb⟩,let ⟨mc,h1,h2⟩ := hlim; ⟨mc,nsK h1,h2⟩⟩
  have e0:Env0 P w K mg (hidT s₁.heap H) callerA [] s₁ H := ⟨rfl,hM,fun b o e => of_hidT e,Nat.le_of_eq (hidT_size _ _),trivial,fun b hb => absurd (show b ∈ ([]:List Addr) from hb) (by simp),hok,.of_eq hg⟩
  refine codeAny_mono ((F _ hKb (nsK hns)).run callerA [] s₁ H ⟨[.ref a],[]⟩ [.ref a] [.ref a] _ _ hr e0 (hbind s₁ (.ref a)) (.cons rfl .nil) (hsp H hO hS)) fun r s' h => ?_
  cases r with
  | error e => exact (hCX H e s' h).elim
  | ok fl =>
   cases fl with
   | next => exact False.elim h
   | brk => exact False.elim h
   | cont => exact False.elim h
   | ret u =>
    obtain ⟨v,H',os,bare,un,hok',r',q⟩ := h
    have q':v = .bl true := q
    subst q'
    obtain rfl:u = Value.bool true := r'
    refine ⟨rfl,OldK.of_keep fun b o e => ?_,os,bare⟩
    cases q:H b with
    | none => exact un.keep b o e q (by intro z; exact absurd (show b ∈ ([]:List Addr) from z) (by simp)) (by simp)
    | some u =>
     rcases hO b with z | ⟨ob,xs,z⟩
     ·rw [q] at z; cases z
     ·have z2 := un.frzs b ob _ z
      obtain ⟨e1,_⟩ := hok b _ z
      obtain ⟨e2,_⟩ := hok' b _ z2
      rw [e] at e1; cases e1
      exact e2
 cases hk:K.lookup a with
 | some o =>
  -- the script is one of the module's own objects
  have e := KX a o hk
  rw [ha] at e
  cases e
  refine core (fun _ => none) (fun _ => .inl rfl) (.inr ⟨_,vs.toArray,_,hk,rfl,rfl,rfl,by rw [List.size_toArray,lenV]; exact hl,by simpa using rv⟩) (fun b u z => by have z':(none:Option HO) = some u := z; cases z') (fun b z => absurd rfl z) fun z => absurd rfl z
 | none =>
  refine core (fun b => if b = a then some (.frz { cls := .type "list",data := .seq vs.toArray } (.lst (ns.map V.int))) else none) (fun b => ?_) (.inl (.inr ⟨{ cls := .type "list",data := .seq vs.toArray },if_pos rfl⟩)) (fun b u z => ?_) (fun b z => ?_) fun _ => hk
  ·by_cases hb:b = a
   ·exact .inr ⟨_,_,if_pos hb⟩
   ·exact .inl (if_neg hb)
  ·by_cases hb:b = a
   ·have z' := (if_pos hb).symm.trans z
    cases z'
    subst hb
    exact ⟨ha,by rw [List.length_map]; exact hl,vs,_,rv,ha⟩
   ·have z' := (if_neg hb).symm.trans z
    cases z'
  ·by_cases hb:b = a
   ·exact hb
   ·exact absurd (if_neg hb) z
end L2
namespace L2
open PySem PySem.Spec PyProof.Rows
noncomputable abbrev KOf {K:PySem.W.Frag} {h:Heap} (_:K.In h):PySem.W.Frag := K
theorem walk_of {l:PySem.W.OpenLaw} {n k:Nat} {q:Program} {loose:List Str} {XP:(Str -> Option Value) -> Heap -> Prop} {YP:World -> Heap -> Prop} {d:DefRec} {K:Params -> PySem.W.Frag} {CX:World -> CXT} {sp:World -> Sp} {x:Str}
  (hn:l.most = some n) (hn2:n ≤ sizeLine) (hdf:d.params.defaults = []) (hr:Room k callerA)
  (hY:∀ (w:World) (h:Heap),YP w h -> (K w.params).In h)
  (F:∀ (w:World) (mg:Str -> Option Value) (fa:Addr) (h:Heap),(K w.params).In h -> h.Ns mainGlobals mg -> mg d.name = some (.ref fa) ->
   ∃ fd:FuncData,(∀ (s:Shared) (u:Value),BindsTo s fd ⟨[u],[]⟩ [(x,u)]) ∧
    ∀ base:Heap,(K w.params).In base -> base.Ns mainGlobals mg -> FnOk l.prog w (K w.params) mg base (CX w) k fa fd [x] (sp w))
  (hsp:∀ (w:World) (H:Hp) (a:Addr) (ns:List Int),ns.length ≤ n -> Only H -> SqL (K w.params) H a (ns.map V.int) -> sp w [.ref a] H (fun v _ => v = .bl true) fun _ _ _ => False)
  (hCX:∀ (w:World) (H:Hp) (s:Shared) (e:Value) (s':Shared),CX w [] H s (fun _ _ _ => False) e s' -> False) :
  PySem.W.WalkO q loose XP YP l.row.toRowW d [] (fun f vs => PySem.call f vs):= by
 refine Att.attach_call hn hdf fun w s₀ s₁ mg mb fa o pm cd doc a vs ns G Y ho hd hcd hmg hobj hints hlen hg => ?_
 have KX := hY w _ Y
 obtain ⟨fd,hb,hF⟩ := F w mg fa _ KX G.T.g hmg
 exact law_call KX G.T.g G.T.b G.T.builtins G.T.nolimit hg hobj hints (Nat.le_trans hlen hn2) hr hF hb (fun H hO hS => hsp w H a ns hlen hO hS) fun H e s' => hCX w H s₁ e s'
end L2
/- THE LAST THEOREM (shape; LID,My.* are yours):
   My.Adr: a structure of the addresses that your layer names (classes,functions); My.Txt K t: a structure (Prop) of the equations over K;
   My.txt_mk:{K} {implicit addresses ..} (e1:nsIn K mainGlobals "law" = some (some (.ref f))) (e2:K.lookup f = some ⟨oc,od,.func (fnOf "law" "law" params body scope dV kV doc pm an cdv ct),sl⟩) (e3:codeIn K cdv "law" = true) ..:∃ t,My.Txt K t
set_option maxRecDepth 100000 in
set_option maxHeartbeats 0 in
theorem PySem.Challenge.cw_LID_holds : PySem.Challenge.rw_LID.Holds := by
 w_on; o_law; k_head; (case hw => w_witness2)
 k_fill
 refine L2.walk_of (l := PySem.Challenge.rw_LID) (n := 63) (k := 40) (x := "script") (CX := fun w => ..) (sp := fun _ => My.sp_law) rfl (by decide) rfl ⟨rfl,by decide,by decide,rfl⟩ (fun w h Y => PySem.W.kIn_of Y) ?F ?S ?C
 case F =>
  intro w mg fa h KX G hmg
  have T:∃ t,My.Txt (L2.KOf KX) t:= by
   dsimp only [L2.KOf]                          -- K must stand as «<heap const> w.params» for k_is
   refine' My.txt_mk ?e1 ?e2 ?e3 ..
   (case e1 => PySem.W.k_is)                    -- in the order: a name -> its address -> its object -> its parts
   (case e2 => PySem.W.k_is)
   ..
  obtain ⟨t,T⟩ := T
  have e0 := hmg.symm.trans (PySem.W.mg_of KX G T.law)
  cases e0                                       -- fa is the law's own address
  exact ⟨_,fun s u => .of_eq rfl,fun base kb nb => My.law_fn T kb nb⟩     -- if «.of_eq rfl» comes too early: refine' ⟨_,?b,fun base kb nb => My.law_fn T kb nb⟩; exact fun s u => .of_eq rfl
 case S => exact fun w H a ns hl hO hS => ..
 case C => exact ..
(the tactic k_is has no namespace: write k_is) -/
namespace L2
open PySem PySem.Spec PyProof.Rows
noncomputable def defArgs (s:Stmt):Arguments := match s with
 | .FunctionDef _ a _ _ _ _ _ _ _ _ => a
 | _ => { posonlyargs := [],args := [],vararg := none,kwonlyargs := [],kw_defaults := [],kwarg := none,defaults := [] }
noncomputable def defBody (s:Stmt):List Stmt := match s with
 | .FunctionDef _ _ b _ _ _ _ _ _ _ => b
 | _ => []
noncomputable def defScope (s:Stmt):Scope := match s with
 | .FunctionDef _ _ _ _ _ _ sc _ _ _ => sc
 | _ => { kind := .function,names := [],isGenerator := false,isCoroutine := false }
noncomputable abbrev CX0:CXT := fun _ _ _ _ _ _ => False
noncomputable abbrev E0:XK := fun _ _ _ => False
theorem pass0 {X:Cx}:Passes CX0 X E0 := fun _ _ _ _ _ _ _ h => h.elim
structure Fun (K:PySem.W.Frag) (x qual:Str) (st:Stmt) (f:Addr) (fd:FuncData):Prop where
 ex:∃ (oc:Value) (od:Option Addr) (kV doc pm:Value) (an:Option Addr) (cdv ct:Value) (osl:Array (Option Value)),
  fd = PySem.W.fnOf x qual (defArgs st) (defBody st) (defScope st) .none kV doc pm an cdv ct ∧ K.lookup f = some ⟨oc,od,.func fd,osl⟩ ∧ PySem.W.codeIn K cdv qual = true
 kp:PySem.W.keepIn K (.ref f) = true
section
variable {P:Program} {w:World} {K:PySem.W.Frag} {mg:Str -> Option Value} {base:Heap}
theorem Fun.ok {x qual:Str} {st:Stmt} {f:Addr} {fd:FuncData} {N ps:List Str} {k:Nat} {sp:Sp} (F:Fun K x qual st f fd) (S:FnScope N ps (defScope st)) (len:∀ vs H Q E,sp vs H Q E -> vs.length = ps.length)
  (hbody:∀ (cdv:Value) (A:Around) (outer:List Env) (s:Shared) (H:Hp) (vs:List V) (Q:VK) (E:XK),Room k (A.deeper (envOfC qual (defScope st) s.heap.objs.size f cdv)) -> sp vs H Q E ->
   ∃ t,PSs (cxOf CX0 P w K mg base N qual (defScope st) f cdv A outer s H E).nox (defBody st) t ∧ t { nx := fun _ H' => Q .non H',rt := Q } (start N vs) H):FnOk P w K mg base CX0 (k + 1) f fd ps sp:= by
 obtain ⟨oc,od,kV,doc,pm,an,cdv,ct,osl,rfl,lk,hcd⟩ := F.ex
 refine fn_of lk hcd S len fun A outer s H vs Q E hr hsp => ?_
 obtain ⟨t,h,q⟩ := hbody cdv A outer s H vs Q E hr hsp
 exact ⟨t,h.nox,q⟩
theorem Fun.binds {x qual:Str} {st:Stmt} {f:Addr} {fd:FuncData} {ps:List Str} (F:Fun K x qual st f fd)
  (h:∀ (kV doc pm:Value) (an:Option Addr) (cdv ct:Value) (us:List Value),us.length = ps.length -> bindArgs (PySem.W.fnOf x qual (defArgs st) (defBody st) (defScope st) .none kV doc pm an cdv ct) ⟨us,[]⟩ = pure (ps.zip us)):Binds K fd ps []:= by
 obtain ⟨oc,od,kV,doc,pm,an,cdv,ct,osl,rfl,lk,hcd⟩ := F.ex
 exact .all (h kV doc pm an cdv ct)
theorem fun_mk {x qual:Str} {st:Stmt} {f:Addr} {oc:Value} {od an:Option Addr} {osl:Array (Option Value)} {kV doc pm cdv ct:Value} (l:K.lookup f = some ⟨oc,od,.func (PySem.W.fnOf x qual (defArgs st) (defBody st) (defScope st) .none kV doc pm an cdv ct),osl⟩)
  (c:PySem.W.codeIn K cdv qual = true) (k:PySem.W.keepIn K (.ref f) = true):Fun K x qual st f (PySem.W.fnOf x qual (defArgs st) (defBody st) (defScope st) .none kV doc pm an cdv ct) := ⟨⟨oc,od,kV,doc,pm,an,cdv,ct,osl,rfl,l,c⟩,k⟩
end
section
variable {X:Cx}
end
theorem iteF {A B:Prop} (h:B):if false = true then A else B:= by
 rw [if_neg Bool.false_ne_true]
 exact h
theorem iteT {A B:Prop} (h:A):if true = true then A else B:= by
 rw [if_pos rfl]
 exact h
noncomputable def Same (H H':Hp):Prop := ∀ b o,H b = some o -> H' b = some o
theorem Same.refl (H:Hp):Same H H := fun _ _ h => h
theorem Same.trans {H H1 H2:Hp} (a:Same H H1) (b:Same H1 H2):Same H H2 := fun c o h => b c o (a c o h)
theorem Same.free {H H':Hp} (e:Same H H') {l:Addr} (h:H' l = Option.none):H l = Option.none:= by
 cases q:H l with
 | none => rfl
 | some o =>
  rw [e l o q] at h
  cases h
theorem Same.seq {K:PySem.W.Frag} {H H':Hp} {a:Addr} {xs:List V} (e:Same H H') (h:SqL K H a xs):SqL K H' a xs:= by
 rcases h with (h | ⟨o,h⟩) | h
 ·exact .inl (.inl (e _ _ h))
 ·exact .inl (.inr ⟨o,e _ _ h⟩)
 ·exact .inr h
end L2
namespace L2
open PySem
theorem compLoop_own {prog:Program} {w:World} {A:Around} {R:Result -> Shared -> Prop} {s:Shared} {elt target iter:Expr} {ifs:List Expr} {scope:Scope} {pos:Pos} {it acc:Value} {env:Env} (I:Nat -> Shared -> Prop)
  (turn:∀ n s,I n s -> wpAny (model prog w) A (pyNext it) (fun r s1 => match r with
   | none => R (.ok .next) s1
   | some v => wpAny (model prog w) A (letOwnedTupleGo target it v) (fun _ s2 => wpAny (model prog w) A (assign target env v) (fun _ s3 =>
     wpAny (model prog w) A (forIn ifs true fun c r => if r = true then do let ok <- isTrue c env (eval c env); pure (ForInStep.yield ok) else pure (ForInStep.yield r)) (fun ok s4 =>
      if ok = true then wpAny (model prog w) A (eval elt env) (fun x s5 =>
       wpAny (model prog w) A (call (.builtin "list.append") [acc,x]) (fun _ s6 => ∃ m,m < n ∧ I m s6) (fun _ _ => False) s5) (fun _ _ => False) s4
      else ∃ m,m < n ∧ I m s4) (fun _ _ => False) s3) (fun _ _ => False) s2) (fun _ _ => False) s1) (fun _ _ => False) s)
  (n:Nat) (h:I n s) :
  codeAny (model prog w) A (.compLoop (.ListComp elt [⟨target,iter,ifs,0⟩] scope pos) 0 it acc env) R s:= by
 refine codeAny_loop rfl I (fun n s hI => ?_) n h
 show wpAny _ A ((compTurn (.ListComp elt [⟨target,iter,ifs,0⟩] scope pos) 0 it acc env).onRaise (fun x => do noteFrame x env; theTreesLotGoes x)) _ _ s
 refine wpAny_noted ?_
 rw [compTurn_list]
 refine wpAny_bind (wpAny_standAt (wpAny_bind (wpAny_mono (turn n s hI) (fun r s₁ h₁ => ?_) fun _ _ h' => h'.elim)))
 cases r with
 | none => exact wpAny_pure h₁
 | some v =>
  refine wpAny_bind (wpAny_mono h₁ (fun _ s₂ h₂ => ?_) fun _ _ h' => h'.elim)
  refine wpAny_bind (wpAny_mono h₂ (fun _ s₃ h₃ => wpAny_bind (wpAny_mono h₃ (fun ok s₄ h₄ => ?_) fun _ _ h' => h'.elim)) fun _ _ h' => h'.elim)
  cases ok with
  | false => exact wpAny_pure ⟨rfl,h₄⟩
  | true =>
   exact wpAny_bind (wpAny_bind (wpAny_mono h₄ (fun x s₅ h₅ => wpAny_bind (wpAny_mono h₅ (fun _ s₆ h₆ => wpAny_pure (wpAny_pure ⟨rfl,h₆⟩)) fun _ _ h' => h'.elim)) fun _ _ h' => h'.elim))
noncomputable def clOf (cells:List (Str × Addr)):List (Str × NameKind) -> List (Str × Addr) -> List (Str × Addr)
 | [],acc => acc
 | (n,k) :: r,acc => if k == .free then (match cells.lookup n with | some c => clOf cells r ((n,c) :: acc) | none => clOf cells r acc) else clOf cells r acc
theorem closureFor_of {scope:Scope} {env:Env} (h:∀ n,(n,NameKind.free) ∈ scope.names -> ∃ c,env.cells.lookup n = some c):closureFor scope env = pure (clOf env.cells scope.names []):= by
 have gen:∀ (names:List (Str × NameKind)) (acc:List (Str × Addr)),(∀ n,(n,NameKind.free) ∈ names -> ∃ c,env.cells.lookup n = some c) ->
   (forIn names acc (fun (x:Str × NameKind) (r:List (Str × Addr)) => match x with
    | (name,kind) => if (kind == .free) = true then do let a <- cellOf env name; pure (ForInStep.yield ((name,a) :: r)) else pure (ForInStep.yield r)):Sem (List (Str × Addr))) = pure (clOf env.cells names acc):= by
  intro names
  induction names with
  | nil => intro acc _; rfl
  | cons x r ih =>
   intro acc hx
   obtain ⟨n,k⟩ := x
   rw [List.forIn_cons]
   unfold clOf
   by_cases hk:(k == NameKind.free) = true
   ·have e:k = .free := by simpa using hk
    subst e
    obtain ⟨c,hc⟩ := hx n List.mem_cons_self
    dsimp only
    rw [if_pos hk,if_pos hk,hc]
    have:cellOf env n = pure c := by unfold cellOf; rw [hc]
    rw [this]
    show (pure c >>= fun a => _) >>= _ = _
    rw [pure_bind,pure_bind]
    exact ih _ fun m hm => hx m (List.mem_cons_of_mem _ hm)
   ·dsimp only
    rw [if_neg hk,if_neg hk,pure_bind]
    exact ih _ fun m hm => hx m (List.mem_cons_of_mem _ hm)
 have g0 := gen scope.names [] h
 unfold closureFor
 refine Eq.trans (congrArg (fun z:Sem (List (Str × Addr)) => z >>= fun r => pure r) g0) ?_
 exact pure_bind _ _
theorem clOf_mem {cells:List (Str × Addr)}:∀ {names:List (Str × NameKind)} {acc:List (Str × Addr)} {x:Str} {c:Addr},(x,c) ∈ clOf cells names acc -> (x,c) ∈ acc ∨ (cells.lookup x = some c ∧ (x,NameKind.free) ∈ names)
 | [],_,_,_,h => .inl h
 | (n,k) :: r,acc,x,c,h => by
  unfold clOf at h
  split at h
  ·rename_i hk
   have e:k = NameKind.free := by simpa using hk
   subst e
   split at h
   ·rename_i d hd
    rcases clOf_mem h with h | ⟨h1,h2⟩
    ·rcases List.mem_cons.mp h with e | h
     ·cases e; exact .inr ⟨hd,List.mem_cons_self⟩
     ·exact .inl h
    ·exact .inr ⟨h1,List.mem_cons_of_mem _ h2⟩
   ·rcases clOf_mem h with h | ⟨h1,h2⟩
    ·exact .inl h
    ·exact .inr ⟨h1,List.mem_cons_of_mem _ h2⟩
  ·rcases clOf_mem h with h | ⟨h1,h2⟩
   ·exact .inl h
   ·exact .inr ⟨h1,List.mem_cons_of_mem _ h2⟩
theorem clOf_some {cells:List (Str × Addr)}:∀ {names:List (Str × NameKind)} {acc:List (Str × Addr)} {x:Str},((x,NameKind.free) ∈ names ∧ (cells.lookup x).isSome = true) ∨ (acc.lookup x).isSome = true -> ((clOf cells names acc).lookup x).isSome = true
 | [],_,_,h => h.elim (fun z => nomatch z.1) id
 | (n,k) :: r,acc,x,h => by
  unfold clOf
  by_cases hk:(k == NameKind.free) = true
  ·rw [if_pos hk]
   cases hd:cells.lookup n with
   | none =>
    dsimp only
    refine clOf_some ?_
    rcases h with ⟨h1,h2⟩ | h
    ·rcases List.mem_cons.mp h1 with e | h1
     ·cases e; rw [hd] at h2; cases h2
     ·exact .inl ⟨h1,h2⟩
    ·exact .inr h
   | some d =>
    dsimp only
    refine clOf_some ?_
    by_cases hx:(x == n) = true
    ·exact .inr (by rw [List.lookup_cons,hx]; rfl)
    ·have hx':(x == n) = false := by simpa using hx
     rcases h with ⟨h1,h2⟩ | h
     ·rcases List.mem_cons.mp h1 with e | h1
      ·cases e; simp at hx'
      ·exact .inl ⟨h1,h2⟩
     ·exact .inr (by rw [List.lookup_cons,hx']; exact h)
  ·rw [if_neg hk]
   refine clOf_some ?_
   rcases h with ⟨h1,h2⟩ | h
   ·rcases List.mem_cons.mp h1 with e | h1
    ·cases e; simp at hk
    ·exact .inl ⟨h1,h2⟩
   ·exact .inr h
theorem cellsFrom_app:∀ (names:List (Str × NameKind)) (n:Nat) (acc:List (Str × Addr)),cellsFrom n names acc = cellsFrom n names [] ++ acc
 | [],_,_ => rfl
 | (x,k) :: r,n,acc => by
  unfold cellsFrom
  split
  ·rw [cellsFrom_app r (n + 1) ((x,n) :: acc),cellsFrom_app r (n + 1) [(x,n)],List.append_assoc]; rfl
  ·exact cellsFrom_app r n acc
theorem cellsFrom_kind:∀ (names:List (Str × NameKind)) (n:Nat) (x:Str) (c:Addr),(x,c) ∈ cellsFrom n names [] -> (x,NameKind.cell) ∈ names
 | [],_,_,_,h => nomatch h
 | (y,k) :: r,n,x,c,h => by
  unfold cellsFrom at h
  split at h
  ·rename_i hk
   have e:k = NameKind.cell := by simpa using hk
   subst e
   rw [cellsFrom_app] at h
   rcases List.mem_append.mp h with h | h
   ·exact List.mem_cons_of_mem _ (cellsFrom_kind r (n + 1) x c h)
   ·have e:(x,c) = (y,n) := by simpa using h
    cases e; exact List.mem_cons_self
  ·exact List.mem_cons_of_mem _ (cellsFrom_kind r n x c h)
theorem newEnv_comp {M:Model} {A:Around} {E:Value -> Shared -> Prop} {s:Shared} {scope:Scope} {globals:Addr} {cl:List (Str × Addr)} {qual:Str} {outer:Env} {Q:Env -> Shared -> Prop}
  (hQ:Q (newEnv scope s.heap.objs.size globals (cellsFrom (s.heap.objs.size + 1) scope.names cl) qual none .none (some outer) builtinsNs) { s with heap := pushCells (s.heap.push { cls := .type "dict",data := .dict #[] }) scope.names }) :
  wpAny M A (newFunctionEnv scope globals cl [] qual none .none (some outer)) Q E s:= by
 simp only [newFunctionEnv,Option.isSome_some,if_true]
 refine wpAny_bind (wpAny_alloc ?_)
 refine wpAny_bind (wpAny_layCells _ (fun name kind cells => by cases hkc:kind == NameKind.cell <;> simp [hkc]) _ _ _ _ ?_)
 rw [show ({ s with heap := s.heap.push { cls := .type "dict",data := .dict #[] } }:Shared).heap.objs.size = s.heap.objs.size + 1 from Heap.size_push ..]
 exact wpAny_bind (wpAny_pure (wpAny_pure hQ))
end L2
namespace L2
open PySem PySem.Spec PyProof.Rows
noncomputable def compOk (N own:List Str) (sc0 scope:Scope):Bool :=
 scope.names.all (fun x => !(x.2 == .local) || (scope.names.lookup x.1 == some .local)) &&
 (scope.names.all (fun x => !(x.2 == .free) || (sc0.names.lookup x.1 == some .cell || sc0.names.lookup x.1 == some .free)) &&
 (scope.names.all (fun x => !(x.2 == .local || x.2 == .cell) || !(N.contains x.1)) &&
 (own.all (fun x => scope.names.all fun y => !(y.1 == x) || !(y.2 == .free)) &&
 scope.names.all (fun x => !(x.2 == .free) || scope.names.all fun y => !(y.1 == x.1) || (y.2 == .free)))))
structure CompSc (N own:List Str) (sc0 scope:Scope):Prop where
 loc:∀ x ∈ scope.names,x.2 = .local -> scope.names.lookup x.1 = some .local
 free:∀ n,(n,NameKind.free) ∈ scope.names -> sc0.names.lookup n = some .cell ∨ sc0.names.lookup n = some .free
 out:∀ n k,(n,k) ∈ scope.names -> (k = .local ∨ k = .cell) -> n ∉ N
 own:∀ x ∈ own,(x,NameKind.free) ∉ scope.names
 one:∀ n k,(n,NameKind.free) ∈ scope.names -> (n,k) ∈ scope.names -> k = .free
theorem compSc_of {N own:List Str} {sc0 scope:Scope} (h:compOk N own sc0 scope = true):CompSc N own sc0 scope:= by
 unfold compOk at h
 simp only [Bool.and_eq_true,List.all_eq_true,Bool.or_eq_true,Bool.not_eq_true',beq_iff_eq,Bool.or_eq_false_iff] at h
 obtain ⟨h1,h2,h3,h4,h5⟩ := h
 refine ⟨fun x hx e => ?_,fun n hn => ?_,fun n k hn e hN => ?_,fun x hx hn => ?_,fun n k hn hk => ?_⟩
 ·rcases h1 x hx with z | z
  ·rw [e] at z; simp at z
  ·exact z
 ·rcases h2 _ hn with z | z
  ·simp at z
  ·exact z
 ·rcases h3 _ hn with ⟨z1,z2⟩ | z
  ·rcases e with e | e
   ·rw [e] at z1; simp at z1
   ·rw [e] at z2; simp at z2
  ·have:N.contains n = true := by simpa using hN
   dsimp only at z
   rw [this] at z; cases z
 ·rcases h4 x hx _ hn with z | z
  ·simp at z
  ·simp at z
 ·rcases h5 _ hn with z | z
  ·simp at z
  ·rcases z _ hk with y | y
   ·simp at y
   ·exact y
noncomputable def maskOk (N N':List Str) (scope:Scope):Bool := (N'.length == N.length) && (N'.zip N).all fun p => p.1 == p.2 || (scope.names.lookup p.1).isNone
structure MaskSc (N N':List Str) (scope:Scope):Prop where
 len:N'.length = N.length
 same:∀ (i:Nat) x,N'[i]? = some x -> N[i]? = some x ∨ scope.names.lookup x = none
theorem maskSc_of {N N':List Str} {scope:Scope} (h:maskOk N N' scope = true):MaskSc N N' scope:= by
 unfold maskOk at h
 simp only [Bool.and_eq_true,beq_iff_eq,List.all_eq_true,Bool.or_eq_true,Option.isNone_iff_eq_none] at h
 refine ⟨h.1,fun i x e => ?_⟩
 have hi:i < N'.length := (List.getElem?_eq_some_iff.mp e).1
 have hi2:i < N.length := by rw [<- h.1]; exact hi
 have ez:(N'.zip N)[i]? = some (x,N[i]):= by
  rw [List.getElem?_zip_eq_some]
  exact ⟨e,List.getElem?_eq_getElem hi2⟩
 rcases h.2 _ (List.mem_of_getElem? ez) with z | z
 ·left
  rw [List.getElem?_eq_getElem hi2]
  exact congrArg some z.symm
 ·exact .inr z
noncomputable def blk (X:Cx) (N' own:List Str) (scope:Scope) (s:Shared) (H:Hp) (fp:List Addr) (pins:List (Addr × Obj)):Cx where
 prog := X.prog
 w := X.w
 K := X.K
 mg := X.mg
 base := X.base
 A := X.A
 N := N' ++ own
 s₀ := s
 H₀ := H
 env := { newEnv scope s.heap.objs.size X.env.globals (cellsFrom (s.heap.objs.size + 1) scope.names (clOf X.env.cells scope.names [])) X.env.qual none .none (some X.env) builtinsNs with scope := relabel scope X.env }
 outer := X.stack
 stack := X.stack
 ex := fp
 fn := fun x => own.contains x
 calm := X.calm
 pn := X.pn ++ pins
 xe := fun _ _ => False
theorem lookup_relabel {env:Env}:∀ {names:List (Str × NameKind)} {x:Str},
  (names.map fun (n,k) => if (k == NameKind.free && env.scope.kind == .function && env.kindOf n == some .cell) then (n,NameKind.cell) else (n,k)).lookup x =
   (names.lookup x).map fun k => if (k == NameKind.free && env.scope.kind == .function && env.kindOf x == some .cell) then NameKind.cell else k
 | [],_ => rfl
 | (n,k) :: r,x => by
  have ih := @lookup_relabel env r x
  rw [List.map_cons]
  cases hx:x == n with
  | true =>
   have e:x = n := by simpa using hx
   subst e
   by_cases hc:(k == NameKind.free && env.scope.kind == .function && env.kindOf x == some .cell) = true
   ·dsimp only; rw [if_pos hc]; simp only [List.lookup_cons,hx,Option.map_some]; rw [if_pos hc]
   ·dsimp only; rw [if_neg hc]; simp only [List.lookup_cons,hx,Option.map_some]; rw [if_neg hc]
  | false =>
   by_cases hc:(k == NameKind.free && env.scope.kind == .function && env.kindOf n == some .cell) = true
   ·dsimp only; rw [if_pos hc]; simp only [List.lookup_cons,hx]; exact ih
   ·dsimp only; rw [if_neg hc]; simp only [List.lookup_cons,hx]; exact ih
theorem relabel_kind {scope:Scope} {env:Env} {x:Str} {k':NameKind} (h:(relabel scope env).names.lookup x = some k'):∃ k,scope.names.lookup x = some k ∧ (k' = k ∨ (k = .free ∧ k' = .cell)):= by
 have h':(scope.names.map fun (n,k) => if (k == NameKind.free && env.scope.kind == .function && env.kindOf n == some .cell) then (n,NameKind.cell) else (n,k)).lookup x = some k' := h
 rw [lookup_relabel] at h'
 cases e:scope.names.lookup x with
 | none => rw [e] at h'; cases h'
 | some k =>
  rw [e] at h'
  simp only [Option.map_some,Option.some.injEq] at h'
  refine ⟨k,rfl,?_⟩
  split at h'
  ·rename_i hc
   simp only [Bool.and_eq_true,beq_iff_eq] at hc
   exact .inr ⟨hc.1.1,h'.symm⟩
  ·exact .inl h'.symm
section
variable {X:Cx} {pins:List (Addr × Obj)} {σ:St} {H:Hp} {s:Shared} {N' own:List Str} {scope:Scope} {fp:List Addr}
theorem blk_cells (I:Inv X pins σ H s) (S:CompSc N' own X.env.scope scope):∀ x c,(cellsFrom (s.heap.objs.size + 1) scope.names (clOf X.env.cells scope.names [])).lookup x = some c ->
  ((x,c) ∈ cellsFrom (s.heap.objs.size + 1) scope.names [] ∧ (pushCells (s.heap.push { cls := .type "dict",data := .dict #[] }) scope.names).IsCell c none ∧ s.heap.objs.size + 1 ≤ c ∧ (x,NameKind.cell) ∈ scope.names) ∨
   (X.env.cells.lookup x = some c ∧ (x,NameKind.free) ∈ scope.names ∧ c < s.heap.objs.size):= by
 intro x c h
 have ok := cellsFrom_ok scope.names (s.heap.push { cls := .type "dict",data := .dict #[] }) (s.heap.objs.size + 1) [] ⟨fun _ _ hm => (nomatch hm),List.Pairwise.nil⟩ (by rw [Heap.size_push]; exact Nat.le_refl _)
 rw [Heap.size_push] at ok
 have hm := mem_of_lookup h
 rw [cellsFrom_app] at hm
 rcases List.mem_append.mp hm with hm | hm
 ·exact .inl ⟨hm,(ok.empty x c hm).1,(ok.empty x c hm).2,cellsFrom_kind _ _ _ _ hm⟩
 ·rcases clOf_mem hm with z | ⟨z1,z2⟩
  ·exact nomatch z
  ·obtain ⟨v,q⟩ := I.cell x c z1
   exact .inr ⟨z1,z2,q.lt⟩
theorem Inv.blkKeep {s:Shared} {scope:Scope}:∀ (b:Addr) (o:Obj),s.heap.get? b = some o -> (pushCells (s.heap.push { cls := .type "dict",data := .dict #[] }) scope.names).get? b = some o := fun b o e =>
 pushCells_keeps _ _ b o (Heap.get?_push_of_some _ e)
theorem Inv.blk (I:Inv X pins σ H s) (hf:∀ b ∈ fp,FpOk X pins H b) (ho:∀ b ∈ fp,b < s.heap.objs.size) (hk:scope.kind = .function) (S:CompSc N' own X.env.scope scope) (Mk:MaskSc X.N N' scope) :
  Inv (blk X N' own scope s H fp pins) [] (σ ++ List.replicate own.length none) H { s with heap := pushCells (s.heap.push { cls := .type "dict",data := .dict #[] }) scope.names }:= by
 have hcells := blk_cells I S
 have keep := @Inv.blkKeep s scope
 have hasC:∀ x,((relabel scope X.env).names.lookup x = some .cell ∨ (relabel scope X.env).names.lookup x = some .free) -> ∃ c,(cellsFrom (s.heap.objs.size + 1) scope.names (clOf X.env.cells scope.names [])).lookup x = some c:= by
  intro x hx
  have:∃ k,scope.names.lookup x = some k ∧ (k = .cell ∨ k = .free):= by
   rcases hx with hx | hx
   ·obtain ⟨k,e,z⟩ := relabel_kind hx
    rcases z with z | ⟨z,_⟩
    ·exact ⟨k,e,.inl z.symm⟩
    ·exact ⟨k,e,.inr z⟩
   ·obtain ⟨k,e,z⟩ := relabel_kind hx
    rcases z with z | ⟨z,_⟩
    ·exact ⟨k,e,.inr z.symm⟩
    ·exact ⟨k,e,.inr z⟩
  obtain ⟨k,e,z⟩ := this
  refine Option.isSome_iff_exists.mp (PySem.W.cellsFrom_some scope.names _ _ ?_)
  rcases z with z | z
  ·subst z; exact .inl e
  ·subst z
   have hm := mem_of_lookup e
   obtain ⟨c,hc⟩ := I.ok.has x (S.free x hm)
   exact .inr (clOf_some (.inl ⟨hm,by rw [hc]; rfl⟩))
 have sub:∀ b,b ∈ frs X.stack -> b ∈ X.env.locals :: X.fs := I.stkSub
 refine ⟨⟨I.ok.mod,hk,I.ok.glob,I.ok.blt,Nat.le_refl _,fun x y c h1 h2 => ?_,fun x hx => hasC x hx,fun x c hx h => ?_,I.ok.hd,I.ok.frames,.inl rfl,fun b hb => ⟨?_,fun x c h => ?_⟩,fun b o e => I.bs b o e,?_,fun b o e hb => ?_,fun b hb hs => ?_,I.stack,I.stkFree⟩,
  rfl,I.bare,Un.kept keep,⟨_,(Heap.Ns.new s.heap (.type "dict")).keeps (pushCells_keeps _ _),fun i x v h1 h2 h3 => ?_⟩,fun x c h => ?_,I.hok.fresh (Nat.le_refl _),fun x c h => ?_,fun p hp => ?_,I.hok.kept keep,?_⟩
 ·-- inj
  have ok := cellsFrom_ok scope.names (s.heap.push { cls := .type "dict",data := .dict #[] }) (s.heap.objs.size + 1) [] ⟨fun _ _ hm => (nomatch hm),List.Pairwise.nil⟩ (by rw [Heap.size_push]; exact Nat.le_refl _)
  rw [Heap.size_push] at ok
  rcases hcells x c h1 with ⟨a1,_,a3,_⟩ | ⟨a1,_,a3⟩ <;> rcases hcells y c h2 with ⟨b1,_,b3,_⟩ | ⟨b1,_,b3⟩
  ·exact name_of_addr ok.apart a1 b1
  ·exact absurd b3 (Nat.not_lt.mpr (Nat.le_of_succ_le a3))
  ·exact absurd a3 (Nat.not_lt.mpr (Nat.le_of_succ_le b3))
  ·exact I.ok.inj x y c a1 b1
 ·rcases hcells x c h with ⟨_,_,a3,_⟩ | ⟨_,a2,_⟩
  ·show s.heap.objs.size ≤ c
   exact Nat.le_of_succ_le a3
  ·have hx':own.contains x = true := hx
   exact absurd a2 (S.own x (by simpa using hx'))
 ·exact Nat.ne_of_lt (ho b hb)
 ·rcases hcells x c h with ⟨_,_,a3,_⟩ | ⟨a1,_,_⟩
  ·intro z; subst z; exact absurd (ho _ hb) (Nat.not_lt.mpr (Nat.le_of_succ_le a3))
  ·exact (hf b hb).2.2.2.2.1 x c a1
 ·exact Nat.le_trans I.ok.bsz I.sz
 ·rcases (hf b hb).2.2.2.1 with z | z
  ·exact I.ok.noex b o e z
  ·exact absurd (Heap.lt_size e) (Nat.not_lt.mpr (Nat.le_trans I.ok.bsz z))
 ·rcases List.mem_cons.mp (sub b hs) with z | z
  ·exact (hf b hb).2.1 z
  ·exact (hf b hb).2.2.1 z
 ·-- loc
  have hi:i < σ.length:= by
   by_cases hi:i < σ.length
   ·exact hi
   ·rw [List.getElem?_append_right (by omega),List.getElem?_replicate] at h2
    split at h2 <;> cases h2
  rw [List.getElem?_append_left hi] at h2
  have hN':N'[i]? = some x:= by
   have:(N' ++ own)[i]? = some x := h1
   rwa [List.getElem?_append_left (by rw [Mk.len,<- I.len]; exact hi)] at this
  have hmem:x ∈ N' := List.mem_of_getElem? hN'
  have hseen:∃ k,scope.names.lookup x = some k:= by
   rcases h3 with h3 | h3 | h3 <;> (obtain ⟨k,e,_⟩ := relabel_kind h3; exact ⟨k,e⟩)
  have hN:X.N[i]? = some x:= by
   rcases Mk.same i x hN' with z | z
   ·exact z
   ·obtain ⟨k,e⟩ := hseen
    rw [z] at e; cases e
  have hfree:scope.names.lookup x = some .free ∧ ((relabel scope X.env).names.lookup x = some .cell ∨ (relabel scope X.env).names.lookup x = some .free):= by
   rcases h3 with h3 | h3 | h3
   ·obtain ⟨k,e,z⟩ := relabel_kind h3
    rcases z with z | ⟨_,z⟩
    ·exact absurd hmem (S.out x k (mem_of_lookup e) (.inl z.symm))
    ·cases z
   ·obtain ⟨k,e,z⟩ := relabel_kind h3
    rcases z with z | ⟨z,_⟩
    ·exact absurd hmem (S.out x k (mem_of_lookup e) (.inr z.symm))
    ·rw [z] at e; exact ⟨e,.inl h3⟩
   ·obtain ⟨k,e,z⟩ := relabel_kind h3
    rcases z with z | ⟨z,_⟩
    ·rw [<- z] at e; exact ⟨e,.inr h3⟩
    ·rw [z] at e; exact ⟨e,.inr h3⟩
  have hm := mem_of_lookup hfree.1
  have hkX := S.free x hm
  obtain ⟨m,hn,hl⟩ := I.loc
  obtain ⟨u,r,l⟩ := hl i x v hN h2 (.inr hkX)
  refine ⟨u,r,.inr ⟨hfree.2,?_⟩⟩
  rcases l with ⟨k,_⟩ | ⟨_,c,hc,hcell⟩
  ·have k':X.env.scope.names.lookup x = some .local := k
   rw [k'] at hkX
   rcases hkX with z | z <;> cases z
  ·obtain ⟨c2,hc2⟩ := hasC x hfree.2
   refine ⟨c2,hc2,?_⟩
   rcases hcells x c2 hc2 with ⟨_,_,_,a4⟩ | ⟨a1,_,_⟩
   ·have := S.one x _ hm a4; cases this
   ·rw [hc] at a1; cases a1
    exact hcell.keeps keep
 ·rcases hcells x c h with ⟨_,a2,_,_⟩ | ⟨a1,_,_⟩
  ·exact ⟨_,a2⟩
  ·obtain ⟨v,q⟩ := I.cell x c a1
   exact ⟨v,q.keeps keep⟩
 ·rcases hcells x c h with ⟨_,_,a3,_⟩ | ⟨a1,_,_⟩
  ·exact I.hok.fresh (by omega)
  ·exact I.freeC x c a1
 ·have hp':p ∈ X.pn ++ pins:= by
   rcases List.mem_append.mp hp with z | z
   ·exact z
   ·exact nomatch z
  obtain ⟨e,n,ne,nf,d⟩ := I.pin p hp'
  refine ⟨keep _ _ e,n,Nat.ne_of_lt (Heap.lt_size e),fun z => ?_,d⟩
  rcases List.mem_cons.mp (sub p.1 z) with z | z
  ·exact ne z
  ·exact nf z
 ·show (σ ++ List.replicate own.length none).length = (N' ++ own).length
  rw [List.length_append,List.length_append,List.length_replicate,I.len,Mk.len]
theorem Inv.unblk (I:Inv X pins σ H s) (hf:∀ b ∈ fp,FpOk X pins H b) {pins':List (Addr × Obj)} {σ':St} {H':Hp} {s':Shared} (J:Inv (L2.blk X N' own scope s H fp pins) pins' σ' H' s'):Inv X pins σ H' s' :=
 I.call' (ch := fp) J.os J.base J.hok J.bare fun b hb => ⟨(hf b hb).2.2.2.1,(hf b hb).2.1,(hf b hb).2.2.2.2.1,(hf b hb).2.2.2.2.2⟩
end
noncomputable def PTs (X:Cx) (ifs:List Expr) (t:TT):Prop :=
 ∀ (pins:List (Addr × Obj)) (s:Shared) (σ:St) (H:Hp) (Q:Bool -> Hp -> Prop),Inv X pins σ H s -> t σ H Q ->
  wpAny (model X.prog X.w) X.A (forIn ifs true fun c r => if r = true then do let ok <- isTrue c X.env (eval c X.env); pure (ForInStep.yield ok) else pure (ForInStep.yield r)) (TP X pins σ Q) X.xe s
noncomputable def tYes:TT := fun _ H Q => Q true H
theorem pts_nil {X:Cx}:PTs X [] tYes := fun pins s σ H Q I h => wpAny_tests_nil ⟨H,I,h⟩
theorem pts_one {X:Cx} {c:Expr} {t:TT} (h:PT X c t):PTs X [c] t := fun pins s σ H Q I q => wpAny_tests_one (h pins s σ H Q I q)
structure TurnG (cal:Cx -> Prop) (P:Program) (w:World) (K:PySem.W.Frag) (tg:Expr) (J:It) (fp:List Addr) (it:Addr) (tn:Nat -> Heap -> Prop):Prop where
 obj:∀ i h,tn i h -> ∀ b ∈ fp,∃ o,h.get? b = some o ∧ ∀ v,o.data ≠ .cell v
 keep:∀ i h h',tn i h -> (∀ b ∈ fp,∀ o,h.get? b = some o -> h'.get? b = some o) -> tn i h'
 item:∀ (X:Cx),X.prog = P -> X.w = w -> X.K = K -> cal X -> ∀ (i:Nat) (pins:List (Addr × Obj)) (s:Shared) (σ:St) (H:Hp) (E:Value -> Shared -> Prop),Inv X pins σ H s -> (∀ b ∈ fp,FpOk X pins H b) -> tn i s.heap -> J.go i H ->
  wpAny (model P w) X.A (pyNext (.ref it)) (fun r s1 => ∃ u,r = some u ∧
   wpAny (model P w) X.A (letOwnedTupleGo tg (.ref it) u) (fun _ s2 => ∃ x H',Inv X pins σ H' s2 ∧ RelV x u ∧ J.yld i H x H' ∧ tn (i + 1) s2.heap ∧ ∀ b ∈ fp,H' b = none) E s1) E s
 done:∀ (X:Cx),X.prog = P -> X.w = w -> X.K = K -> cal X -> ∀ (i:Nat) (pins:List (Addr × Obj)) (s:Shared) (σ:St) (H:Hp) (E:Value -> Shared -> Prop),Inv X pins σ H s -> (∀ b ∈ fp,FpOk X pins H b) -> tn i s.heap -> J.stop i H ->
  wpAny (model P w) X.A (pyNext (.ref it)) (fun r s1 => r = none ∧ Inv X pins σ H s1) E s
 self:∀ (A:Around) (i:Nat) (s:Shared) (Q:Value -> Shared -> Prop) (E:Value -> Shared -> Prop),tn i s.heap -> Q (.ref it) s -> wpAny (model P w) A (pyIter (.ref it)) Q E s
noncomputable def PIG (cal:Cx -> Prop) (X:Cx) (tg iter:Expr) (wi:TI):Prop :=
 ∀ (pins:List (Addr × Obj)) (s:Shared) (σ:St) (H:Hp) (R:It -> Hp -> Prop),Inv X pins σ H s -> wi σ H R ->
  wpAny (model X.prog X.w) X.A (eval iter X.env) (fun v s1 => wpAny (model X.prog X.w) X.A (pyIter v) (fun itv s2 => ∃ (it:Addr) (fp:List Addr) (tn:Nat -> Heap -> Prop) (J:It) (H':Hp),itv = .ref it ∧ Inv X pins σ H' s2 ∧ TurnG cal X.prog X.w X.K tg J fp it tn ∧ tn 0 s2.heap ∧ (∀ b ∈ fp,FpOk X pins H' b) ∧ R J H') X.xe s1) X.xe s
theorem PI.g {X:Cx} {tg iter:Expr} {wi:TI} (h:PI X tg iter wi):PIG (fun X => X.calm = true) X tg iter wi := fun pins s σ H R I q =>
 thn (h pins s σ H R I q) fun _ _ h => thn h fun _ _ ⟨it,fp,tn,J,H',e,I',T,r⟩ => ⟨it,fp,tn,J,H',e,I',⟨T.obj,T.keep,T.item,T.done,T.self⟩,r⟩
noncomputable def tComp (wi:TI) (own:Nat) (g:TG) (tt:TT) (te:TE):TE := fun σ H Q => wi σ H fun J H1 => ∀ l,H1 l = none -> ∃ W:Nat -> Nat -> List V -> Hp -> Prop,(∃ m,W 0 m [] (upd H1 l (.lst []))) ∧ ∀ i m acc H,W i m acc H ->
 H l = some (.lst acc) ∧ ((J.stop i H ∧ Q (.ref l) H) ∨ (J.go i H ∧ ∀ x H',J.yld i H x H' -> g x (σ ++ List.replicate own none) H' fun σ2 H2 => σ2.take σ.length = σ ∧ tt σ2 H2 fun b H3 =>
  if b = true then te σ2 H3 fun v H4 => H4 l = some (.lst acc) ∧ acc.length < sizeLine ∧ ∃ m',m' < m ∧ W (i + 1) m' (acc ++ [v]) (upd H4 l (.lst (acc ++ [v])))
  else ∃ m',m' < m ∧ W (i + 1) m' acc H3))
section
variable {X:Cx} {elt tg iter:Expr} {ifs:List Expr} {scope:Scope} {pos pos':Pos} {N' own:List Str} {wi:TI} {g:TG} {tt:TT} {te:TE}
theorem comp_go {cal:Cx -> Prop} (hc:∀ s H fp pins,cal (blk X N' own scope s H fp pins)) (hi:PIG cal X tg iter wi) (hk:scope.kind = .function) (hS:compOk N' own X.env.scope scope = true) (hM:maskOk X.N N' scope = true)
  (hg:∀ s H fp pins,PG (blk X N' own scope s H fp pins) tg g) (ht:∀ s H fp pins,PTs (blk X N' own scope s H fp pins) ifs tt) (he:∀ s H fp pins,PE (blk X N' own scope s H fp pins) elt te)
  (hs:∀ x,foldedSetIterable iter X.env x = pure x) {use:Option (Value -> Sem Unit)} {Q0:Value -> Shared -> Prop} {pins:List (Addr × Obj)} {s:Shared} {σ:St} {H:Hp} {Q:VK}
  (I:Inv X pins σ H s) (h:tComp wi own.length g tt te σ H Q)
  (fin:∀ (l:Addr) (H':Hp) (s':Shared) (C:Addr) (m:Str -> Option Value),Inv X pins σ H' s' -> Q (.ref l) H' -> s'.heap.Ns C m -> H' C = none -> C ≠ X.env.locals -> X.s₀.heap.objs.size ≤ C -> (∀ x c,X.env.cells.lookup x = some c -> c ≠ C) -> (∀ p ∈ X.pn ++ pins,p.1 ≠ C) ->
   compPost (model X.prog X.w) X.A X.xe use Q0 (.ref l) C (.ok .next) s') :
  wpAny (model X.prog X.w) X.A (comprehension (.ListComp elt [⟨tg,iter,ifs,0⟩] scope pos) scope X.env pos' (newList []) false (eval iter X.env) use) Q0 X.xe s:= by
 have S := compSc_of hS
 have Mk := maskSc_of hM
 refine wpAny_comprehension_free rfl hs (closureFor_of fun n hn => I.ok.has n (S.free n hn)) hk S.loc (thn (hi pins s σ H _ I h) fun xv s1 h1 => thn h1 fun itv s2 h2 => ?_)
 obtain ⟨it,fp,tn,J,H2,e,I2,T,st2,f2,q2⟩ := h2
 subst e
 refine wpAny_newObj_type ?_
 have hl2:H2 s2.heap.objs.size = none := I2.fresh
 have I3:Inv X pins σ (upd H2 s2.heap.objs.size (.lst [])) { s2 with heap := s2.heap.push { cls := .type "list",data := .seq ([]:List Value).toArray } } := I2.lnew (its := []) (t' := s2.toks) .nil (Nat.zero_le _)
 obtain ⟨W,⟨m0,w0⟩,turn⟩ := q2 s2.heap.objs.size hl2
 generalize hl:s2.heap.objs.size = l at *
 have ob2:∀ b ∈ fp,b < l := fun b hb => by
  obtain ⟨o,e,_⟩ := T.obj _ _ st2 b hb
  rw [<- hl]; exact Heap.lt_size e
 have st3:tn 0 (s2.heap.push { cls := .type "list",data := .seq ([]:List Value).toArray }) := T.keep _ _ _ st2 fun b _ o e => Heap.get?_push_of_some _ e
 have sz3:l < (s2.heap.push { cls := .type "list",data := .seq ([]:List Value).toArray }).objs.size := by rw [Heap.size_push,hl]; exact Nat.lt_succ_self _
 have f3:∀ b ∈ fp,FpOk X pins (upd H2 l (.lst [])) b := fun b hb => ⟨by rw [upd_ne (Nat.ne_of_lt (ob2 b hb))]; exact (f2 b hb).1,(f2 b hb).2⟩
 generalize hs3:({ s2 with heap := s2.heap.push { cls := .type "list",data := .seq ([]:List Value).toArray } }:Shared) = s3 at I3
 have hh3:s3.heap = s2.heap.push { cls := .type "list",data := .seq ([]:List Value).toArray } := by rw [<- hs3]
 rw [<- hh3] at st3 sz3
 have ob3:∀ b ∈ fp,b < s3.heap.objs.size := fun b hb => Nat.lt_trans (ob2 b hb) sz3
 generalize upd H2 l (.lst []) = H3 at *
 show wpAny _ _ (newFunctionEnv scope X.env.globals (clOf X.env.cells scope.names []) [] X.env.qual none .none (some X.env)) _ _ _
 have goal:wpAny (model X.prog X.w) X.A (newFunctionEnv scope X.env.globals (clOf X.env.cells scope.names []) [] X.env.qual none .none (some X.env))
   (fun cenv s₄ => codeAny (model X.prog X.w) X.A (.compStart (.ListComp elt [⟨tg,iter,ifs,0⟩] scope pos) 0 (.ref it) (.ref l) { cenv with scope := relabel scope X.env }) (compPost (model X.prog X.w) X.A X.xe use Q0 (.ref l) cenv.locals) s₄) X.xe s3:= by
  refine newEnv_comp ?_
  have IY := I3.blk f3 ob3 hk S Mk
  have keep := @Inv.blkKeep s3 scope
  have st4:tn 0 (pushCells (s3.heap.push { cls := .type "dict",data := .dict #[] }) scope.names) := T.keep _ _ _ st3 fun b _ o e => keep b o e
  have hcells := blk_cells I3 S
  have stat:∀ {H':Hp},(∀ b ∈ fp,H' b = none) -> ∀ b ∈ fp,FpOk (blk X N' own scope s3 H3 fp pins) [] H' b := fun hn b hb => by
   refine ⟨hn b hb,Nat.ne_of_lt (ob3 b hb),fun z => ?_,.inl hb,fun x c h => ?_,fun p hp => ?_⟩
   ·rcases List.mem_cons.mp (I3.stkSub b z) with z | z
    ·exact (f3 b hb).2.1 z
    ·exact (f3 b hb).2.2.1 z
   ·rcases hcells x c h with ⟨_,_,a3,_⟩ | ⟨a1,_,_⟩
    ·intro z; subst z; exact absurd (ob3 _ hb) (Nat.not_lt.mpr (Nat.le_of_succ_le a3))
    ·exact (f3 b hb).2.2.2.2.1 x c a1
   ·have hp':p ∈ X.pn ++ pins:= by
     rcases List.mem_append.mp hp with z | z
     ·exact z
     ·exact nomatch z
    exact (f3 b hb).2.2.2.2.2 p hp'
  have loop:codeAny (model X.prog X.w) X.A (.compLoop (.ListComp elt [⟨tg,iter,ifs,0⟩] scope pos) 0 (.ref it) (.ref l) (blk X N' own scope s3 H3 fp pins).env)
    (compPost (model X.prog X.w) X.A X.xe use Q0 (.ref l) s3.heap.objs.size) { s3 with heap := pushCells (s3.heap.push { cls := .type "dict",data := .dict #[] }) scope.names }:= by
   refine compLoop_own (fun n s' => ∃ i σ' H' acc,Inv (blk X N' own scope s3 H3 fp pins) [] σ' H' s' ∧ σ'.take σ.length = σ ∧ tn i s'.heap ∧ (∀ b ∈ fp,H' b = none) ∧ W i n acc H') ?_ m0
    ⟨0,_,H3,[],IY,by rw [List.take_left'] <;> rfl,st4,fun b hb => (f3 b hb).1,w0⟩
   rintro n s5 ⟨i,σ5,H5,acc,I5,e5,st5,fr5,w5⟩
   obtain ⟨hacc,cs⟩ := turn i n acc H5 w5
   rcases cs with ⟨stop,q⟩ | ⟨go,step⟩
   ·refine wpAny_mono (T.done (blk X N' own scope s3 H3 fp pins) rfl rfl rfl (hc _ _ _ _) i [] s5 σ5 H5 (fun _ _ => False) I5 (stat fr5) st5 stop) (fun r s6 hr => ?_) fun _ _ z => z
    obtain ⟨rfl,I6⟩ := hr
    obtain ⟨m,hn,_⟩ := id I6.loc
    refine fin l H5 s6 _ m (I3.unblk f3 I6) q hn I6.free (Nat.ne_of_gt I3.lt) I3.sz (fun x c e z => ?_) fun p hp z => ?_
    ·obtain ⟨v,qc⟩ := I3.cell x c e
     exact absurd qc.lt (by rw [z]; exact Nat.lt_irrefl _)
    ·exact absurd (Heap.lt_size (I3.pin p hp).1) (by rw [z]; exact Nat.lt_irrefl _)
   ·have lenσ:σ5.length = (σ ++ List.replicate own.length (none:Option V)).length:= by
     rw [I5.len,List.length_append,List.length_replicate,I.len]
     show (N' ++ own).length = _
     rw [List.length_append,Mk.len]
    have I5':Inv (blk X N' own scope s3 H3 fp pins) [] (σ ++ List.replicate own.length none) H5 s5 := I5.weak lenσ.symm fun j v e => by
     have hj:j < σ.length:= by
      by_cases hj:j < σ.length
      ·exact hj
      ·rw [List.getElem?_append_right (by omega),List.getElem?_replicate] at e
       split at e <;> cases e
     rw [List.getElem?_append_left hj] at e
     rw [<- e5,List.getElem?_take_of_lt hj] at e
     exact e
    refine wpAny_mono (T.item (blk X N' own scope s3 H3 fp pins) rfl rfl rfl (hc _ _ _ _) i [] s5 _ H5 (fun _ _ => False) I5' (stat fr5) st5 go) (fun r s6 hr => ?_) fun _ _ z => z
    obtain ⟨u,rfl,h6⟩ := hr
    refine thn h6 fun _ s7 ⟨x,H7,I7,r7,y7,st7,fr7⟩ => ?_
    have I7' := I7.pinned (stat fr7) (T.obj _ _ st7)
    refine thn (hg s3 H3 fp pins _ s7 _ H7 x u _ I7' r7 (step x H7 y7)) fun _ s8 ⟨σ8,H8,I8,e8,q8⟩ => ?_
    refine thn (ht s3 H3 fp pins _ s8 σ8 H8 _ I8 q8) fun b s9 ⟨H9,I9,q9⟩ => ?_
    have again:∀ {Ha:Hp} {sa:Shared} {acc':List V} {m':Nat},Inv (blk X N' own scope s3 H3 fp pins) ([] ++ pinsAt fp s7.heap) σ8 Ha sa -> m' < n -> W (i + 1) m' acc' Ha ->
      ∃ m,m < n ∧ ∃ i σ' H' acc,Inv (blk X N' own scope s3 H3 fp pins) [] σ' H' sa ∧ σ'.take σ.length = σ ∧ tn i sa.heap ∧ (∀ b ∈ fp,H' b = none) ∧ W i m acc H' := fun {Ha sa acc' m'} Ia hm wa => by
     refine ⟨m',hm,i + 1,σ8,Ha,acc',Ia.unpinned,e8,T.keep _ _ _ st7 fun b hb o e => (Ia.pin (b,o) (List.mem_append_right _ (List.mem_append_right _ (mem_pinsAt hb e)))).1,fun b hb => ?_,wa⟩
     obtain ⟨o,e,d⟩ := T.obj _ _ st7 b hb
     exact (Ia.pin (b,o) (List.mem_append_right _ (List.mem_append_right _ (mem_pinsAt hb e)))).2.1
    cases b with
    | false =>
     rw [if_neg Bool.false_ne_true] at q9 ⊢
     obtain ⟨m',hm,wa⟩ := q9
     exact again I9 hm wa
    | true =>
     rw [if_pos rfl] at q9 ⊢
     refine thn (he s3 H3 fp pins _ s9 σ8 H9 _ I9 q9) fun y s10 ⟨v,H10,I10,rv,a10,z10,m',hm,wa⟩ => ?_
     exact thn (mt_append _ s10 σ8 H10 (.ref l) [v] (.ref l) [y] (fun _ Hb => Hb = upd H10 l (.lst (acc ++ [v]))) I10 rfl (.cons rv .nil) ⟨l,acc,v,rfl,rfl,a10,z10,rfl⟩) fun _ s11 ⟨_,Hb,Ib,_,eb⟩ => by
      subst eb
      exact again Ib hm wa
  exact codeAny_compStart_list loop (T.self _ 0 _ _ _ st4 loop)
 exact goal
theorem pe_comp (hi:PI X tg iter wi) (hg:∀ s H fp pins,PG (blk X N' own scope s H fp pins) tg g) (ht:∀ s H fp pins,PTs (blk X N' own scope s H fp pins) ifs tt) (he:∀ s H fp pins,PE (blk X N' own scope s H fp pins) elt te)
  (hS:compOk N' own X.env.scope scope = true := by rfl) (hM:maskOk X.N N' scope = true := by rfl) (hk:scope.kind = .function := by rfl) (hc:X.calm = true := by rfl) (hs:∀ x,foldedSetIterable iter X.env x = pure x := by intro _; rfl) :
  PE X (.ListComp elt [⟨tg,iter,ifs,0⟩] scope pos) (tComp wi own.length g tt te):= by
 intro pins s σ H Q I h
 rw [eval_ListComp]
 refine comp_go (use := none) (cal := fun X => X.calm = true) (fun _ _ _ _ => hc) hi.g hk hS hM hg ht he hs I h fun l H' s' C m I' q hn h1 h2 h3 h4 h5 => ?_
 refine ⟨m,hn,fun h' sb => ⟨.ref l,H',?_,rfl,q⟩⟩
 exact I'.turned (t' := s'.toks) (fun b o hb e => (sb.2 b hb).trans e) h1 h2 (.inr h3) h4 h5
theorem ps_setC {i:Nat} {x:Str} {pos'' pos1:Pos} (hN:X.N.Nodup) (hx0:X.N[i]? = some x) (hx:X.env.scope.names.lookup x = some .local)
  (hi:PI X tg iter wi) (hg:∀ s H fp pins,PG (blk X N' own scope s H fp pins) tg g) (ht:∀ s H fp pins,PTs (blk X N' own scope s H fp pins) ifs tt) (he:∀ s H fp pins,PE (blk X N' own scope s H fp pins) elt te)
  (hsw:swapsWith (.ListComp elt [⟨tg,iter,ifs,0⟩] scope pos) (some (.Name x pos'')) pos1.line X.env = pure true := by rfl)
  (hS:compOk N' own X.env.scope scope = true := by rfl) (hM:maskOk X.N N' scope = true := by rfl) (hk:scope.kind = .function := by rfl) (hc:X.calm = true := by rfl) (hs:∀ x,foldedSetIterable iter X.env x = pure x := by intro _; rfl) :
  PS X (.Assign [.Name x pos''] (.ListComp elt [⟨tg,iter,ifs,0⟩] scope pos) pos1) (tAsg (tComp wi own.length g tt te) (gName i)):= by
 intro pins s σ H D I h
 rw [exec_Assign_Name_used _ _ _ _ hsw]
 refine wpAny_bind (wpAny_standAt (wpAny_bind ?_))
 show wpAny _ _ (do let _ <- comprehension (.ListComp elt [⟨tg,iter,ifs,0⟩] scope pos) scope X.env _ (newList []) false (eval iter X.env) (some (assign (.Name x pos'') X.env))) _ _ s
 refine wpAny_bind (wpAny_mono (Q := fun _ s' => SP X pins D .next s') ?_ (fun _ s' hq => wpAny_pure (wpAny_pure hq)) fun _ _ e => e)
 refine comp_go (use := some (assign (.Name x pos'') X.env)) (cal := fun X => X.calm = true) (fun _ _ _ _ => hc) hi.g hk hS hM hg ht he hs I h fun l H' s' C m I' q hn h1 h2 h3 h4 h5 => ?_
 show wpAny _ _ (assign (.Name x pos'') X.env (.ref l)) _ _ s'
 refine wpAny_assign_Name (store_ok2 I' hN hx0 (.inl hx) (v := .ref l) (u := .ref l) rfl (fun s'' I'' hsb => ?_) (.inr hx))
 obtain ⟨a,sb,ha⟩ := hsb
 have hCa:C ≠ a:= by
  rcases ha with z | z
  ·rw [z]; exact h2
  ·exact Ne.symm (h4 _ _ z)
 refine ⟨m,hn.sameBut sb hCa,fun h' sb' => ⟨σ.set i (some (.ref l)),H',?_,q⟩⟩
 exact I''.turned (t' := s''.toks) (fun b o hb e => (sb'.2 b hb).trans e) h1 h2 (.inr h3) h4 h5
end
end L2
namespace Jt
open PySem L2
inductive D where
 | non | bl (b:Bool) | int (i:Int) | str (x:Str) | tup (xs:List D) | lst (xs:List D) | dct
noncomputable def dctΦ (a:Addr):HO := .ext fun h => a ≠ sysModules ∧ ∃ o n,h.get? a = some o ∧ o.cls = .type "dict" ∧ o.data = .dict #[] n
mutual
noncomputable def R (H:Hp):D -> V -> Prop
 | .non,v => v = .non
 | .bl b,v => v = .bl b
 | .int i,v => v = .int i
 | .str x,v => v = .str x
 | .tup ds,v => ∃ a vs,v = .ref a ∧ H a = some (.tup vs) ∧ Rs H ds vs
 | .lst ds,v => ∃ a vs,v = .ref a ∧ Rd H a (.lst vs) ∧ Rs H ds vs
 | .dct,v => ∃ a,v = .ref a ∧ H a = some (dctΦ a)
noncomputable def Rs (H:Hp):List D -> List V -> Prop
 | [],vs => vs = []
 | d :: ds,vs => ∃ v r,vs = v :: r ∧ R H d v ∧ Rs H ds r
end
theorem Rd.mono {H H':Hp} {a:Addr} {u:HO} (m:∀ b o,H b = some o -> H' b = some o) (h:Rd H a u):Rd H' a u:= by
 rcases h with h | ⟨o,h⟩
 ·exact .inl (m _ _ h)
 ·exact .inr ⟨o,m _ _ h⟩
mutual
theorem R.mono {H H':Hp} (m:∀ b o,H b = some o -> H' b = some o):∀ (d:D) (v:V),R H d v -> R H' d v
 | .non,v,h => by unfold R at *; exact h
 | .bl b,v,h => by unfold R at *; exact h
 | .int i,v,h => by unfold R at *; exact h
 | .str x,v,h => by unfold R at *; exact h
 | .tup ds,v,h => by
  unfold R at *
  obtain ⟨a,vs,e,h1,h2⟩ := h
  exact ⟨a,vs,e,m _ _ h1,Rs.mono m ds vs h2⟩
 | .lst ds,v,h => by
  unfold R at *
  obtain ⟨a,vs,e,h1,h2⟩ := h
  exact ⟨a,vs,e,Rd.mono m h1,Rs.mono m ds vs h2⟩
 | .dct,v,h => by
  unfold R at *
  obtain ⟨a,e,h1⟩ := h
  exact ⟨a,e,m _ _ h1⟩
theorem Rs.mono {H H':Hp} (m:∀ b o,H b = some o -> H' b = some o):∀ (ds:List D) (vs:List V),Rs H ds vs -> Rs H' ds vs
 | [],vs,h => by unfold Rs at *; exact h
 | d :: ds,vs,h => by
  unfold Rs at *
  obtain ⟨v,r,e,h1,h2⟩ := h
  exact ⟨v,r,e,R.mono m d v h1,Rs.mono m ds r h2⟩
end
theorem Rs.nil {H:Hp}:Rs H [] [] := by unfold Rs; rfl
theorem Rs.cons {H:Hp} {d:D} {v:V} {ds:List D} {vs:List V} (h:R H d v) (t:Rs H ds vs):Rs H (d :: ds) (v :: vs):= by
 unfold Rs; exact ⟨v,vs,rfl,h,t⟩
theorem Rs.inv {H:Hp} {d:D} {ds:List D} {vs:List V} (h:Rs H (d :: ds) vs):∃ v r,vs = v :: r ∧ R H d v ∧ Rs H ds r:= by
 unfold Rs at h; exact h
theorem Rs.inv0 {H:Hp} {vs:List V} (h:Rs H [] vs):vs = [] := by unfold Rs at h; exact h
theorem Rs.head {H:Hp} {d:D} {v:V} {ds:List D} {vs:List V} (h:Rs H (d :: ds) (v :: vs)):R H d v:= by
 obtain ⟨v',r,e,h1,h2⟩ := h.inv; cases e; exact h1
theorem Rs.tail {H:Hp} {d:D} {v:V} {ds:List D} {vs:List V} (h:Rs H (d :: ds) (v :: vs)):Rs H ds vs:= by
 obtain ⟨v',r,e,h1,h2⟩ := h.inv; cases e; exact h2
theorem Rs.length {H:Hp}:∀ {ds:List D} {vs:List V},Rs H ds vs -> vs.length = ds.length
 | [],vs,h => by rw [h.inv0]; rfl
 | d :: ds,vs,h => by
  obtain ⟨v,r,e,_,h2⟩ := h.inv
  subst e
  simp [Rs.length h2]
theorem Rs.append {H:Hp}:∀ {ds es:List D} {vs us:List V},Rs H ds vs -> Rs H es us -> Rs H (ds ++ es) (vs ++ us)
 | [],es,vs,us,h,t => by rw [h.inv0]; exact t
 | d :: ds,es,vs,us,h,t => by
  obtain ⟨v,r,e,h1,h2⟩ := h.inv
  subst e
  exact .cons h1 (Rs.append h2 t)
theorem Rs.left {H:Hp}:∀ {ds es:List D} {vs us:List V},vs.length = ds.length -> Rs H (ds ++ es) (vs ++ us) -> Rs H ds vs
 | [],es,[],us,_,h => .nil
 | d :: ds,es,v :: vs,us,l,h => .cons h.head (Rs.left (by simpa using l) h.tail)
 | [],_,_ :: _,_,l,_ => by cases l
 | _ :: _,_,[],_,l,_ => by cases l
theorem Rs.right {H:Hp}:∀ {ds es:List D} {vs us:List V},vs.length = ds.length -> Rs H (ds ++ es) (vs ++ us) -> Rs H es us
 | [],es,[],us,_,h => h
 | d :: ds,es,v :: vs,us,l,h => Rs.right (ds := ds) (vs := vs) (by simpa using l) h.tail
 | [],_,_ :: _,_,l,_ => by cases l
 | _ :: _,_,[],_,l,_ => by cases l
theorem Rs.get {H:Hp}:∀ {ds:List D} {vs:List V} {i:Nat} {d:D},Rs H ds vs -> ds[i]? = some d -> ∃ v,vs[i]? = some v ∧ R H d v
 | [],_,_,_,_,e => by simp at e
 | d :: ds,vs,0,d',h,e => by
  obtain ⟨v,r,e',h1,h2⟩ := h.inv
  subst e'
  simp at e; subst e
  exact ⟨v,rfl,h1⟩
 | d :: ds,vs,i + 1,d',h,e => by
  obtain ⟨v,r,e',h1,h2⟩ := h.inv
  subst e'
  obtain ⟨v',e2,h3⟩ := Rs.get (i := i) h2 (by simpa using e)
  exact ⟨v',by simpa using e2,h3⟩
theorem R.tup {H:Hp} {ds:List D} {v:V} (h:R H (.tup ds) v):∃ a vs,v = .ref a ∧ H a = some (.tup vs) ∧ Rs H ds vs := by unfold R at h; exact h
theorem R.lst {H:Hp} {ds:List D} {v:V} (h:R H (.lst ds) v):∃ a vs,v = .ref a ∧ Rd H a (.lst vs) ∧ Rs H ds vs := by unfold R at h; exact h
theorem R.dct {H:Hp} {v:V} (h:R H .dct v):∃ a,v = .ref a ∧ H a = some (dctΦ a) := by unfold R at h; exact h
theorem R.int {H:Hp} {i:Int} {v:V} (h:R H (.int i) v):v = .int i := by unfold R at h; exact h
theorem R.bl {H:Hp} {i:Bool} {v:V} (h:R H (.bl i) v):v = .bl i := by unfold R at h; exact h
theorem R.str {H:Hp} {i:Str} {v:V} (h:R H (.str i) v):v = .str i := by unfold R at h; exact h
theorem R.non {H:Hp} {v:V} (h:R H .non v):v = .non := by unfold R at h; exact h
theorem R.mkI {H:Hp} {i:Int}:R H (.int i) (.int i) := by unfold R; rfl
theorem R.mkB {H:Hp} {i:Bool}:R H (.bl i) (.bl i) := by unfold R; rfl
theorem R.mkS {H:Hp} {i:Str}:R H (.str i) (.str i) := by unfold R; rfl
theorem R.mkN {H:Hp}:R H .non .non := by unfold R; rfl
theorem R.mkT {H:Hp} {a:Addr} {ds:List D} {vs:List V} (h:H a = some (.tup vs)) (t:Rs H ds vs):R H (.tup ds) (.ref a) := by unfold R; exact ⟨a,vs,rfl,h,t⟩
theorem R.mkL {H:Hp} {a:Addr} {ds:List D} {vs:List V} (h:Rd H a (.lst vs)) (t:Rs H ds vs):R H (.lst ds) (.ref a) := by unfold R; exact ⟨a,vs,rfl,h,t⟩
inductive Slot where
 | un | pu (d:D) | ow (b:Bool) (xs:List D)
noncomputable abbrev DS := List Slot
structure Ct where
 Z:Hp
 B:List Addr
 H0:Hp
noncomputable def OwA (δ:DS) (σ:St) (a:Addr):Prop := ∃ (i:Nat) (b:Bool) (xs:List D),δ[i]? = some (.ow b xs) ∧ σ[i]? = some (some (.ref a))
open Classical in
noncomputable def hid (p:Addr -> Prop) (H:Hp):Hp := fun a => if p a then none else H a
noncomputable def Hd (c:Ct) (δ:DS) (σ:St) (a:Addr):Prop := (∃ o,c.Z a = some o) ∨ OwA δ σ a
noncomputable abbrev vis (c:Ct) (δ:DS) (σ:St) (H:Hp):Hp := hid (Hd c δ σ) H
theorem hid_some {p:Addr -> Prop} {H:Hp} {a:Addr} {o:HO}:hid p H a = some o ↔ ¬ p a ∧ H a = some o:= by
 unfold hid
 by_cases h:p a
 ·rw [if_pos h]; exact Iff.intro (fun z => nomatch z) (fun z => absurd h z.1)
 ·rw [if_neg h]; exact Iff.intro (fun z => And.intro h z) (fun z => z.2)
theorem hid_mono {p q:Addr -> Prop} {H H':Hp} (hp:∀ a o,H a = some o -> q a -> p a) (hH:∀ a o,¬ p a -> H a = some o -> H' a = some o):∀ b o,hid p H b = some o -> hid q H' b = some o := fun b o h => by
 obtain ⟨h1,h2⟩ := hid_some.mp h
 exact hid_some.mpr ⟨fun z => h1 (hp b o h2 z),hH b o h1 h2⟩
structure Sl (c:Ct) (δ:DS) (S:List D) (σ:St) (T:List V) (H:Hp):Prop where
 len:δ.length = σ.length
 pu:∀ (i:Nat) d,δ[i]? = some (.pu d) -> ∃ v,σ[i]? = some (some v) ∧ R (vis c δ σ H) d v
 ow:∀ (i:Nat) b xs,δ[i]? = some (.ow b xs) -> ∃ a vs,σ[i]? = some (some (.ref a)) ∧ H a = some (.lst vs) ∧ Rs (vis c δ σ H) xs vs ∧ (b = true -> a ∈ c.B) ∧ (b = false -> a ∉ c.B ∧ c.H0 a = none) ∧ c.Z a = none
 ne:∀ (i j:Nat) b b' xs ys a,δ[i]? = some (.ow b xs) -> δ[j]? = some (.ow b' ys) -> σ[i]? = some (some (.ref a)) -> σ[j]? = some (some (.ref a)) -> i = j
 st:Rs (vis c δ σ H) S T
 keep:∀ b o,b ∉ c.B -> c.H0 b = some o -> H b = some o
 bb:∀ b ∈ c.B,∃ o,H b = some o
 zz:∀ a o,c.Z a = some o -> H a = some o
section
variable {c:Ct} {δ:DS} {S:List D} {σ:St} {T:List V} {H:Hp}
theorem Sl.hdSome (s:Sl c δ S σ T H) {a:Addr} (h:Hd c δ σ a):∃ o,H a = some o:= by
 rcases h with ⟨o,h⟩ | ⟨i,b,xs,h1,h2⟩
 ·exact ⟨o,s.zz _ _ h⟩
 ·obtain ⟨a',vs,e,h3,_⟩ := s.ow i b xs h1
  rw [h2] at e; cases e
  exact ⟨_,h3⟩
theorem Sl.stk (s:Sl c δ S σ T H) {S':List D} {T':List V} (h:Rs (vis c δ σ H) S' T'):Sl c δ S' σ T' H := ⟨s.len,s.pu,s.ow,s.ne,h,s.keep,s.bb,s.zz⟩
theorem Sl.pop {d:D} {v:V} (s:Sl c δ (d :: S) σ (v :: T) H):Sl c δ S σ T H := s.stk s.st.tail
theorem Sl.nil (s:Sl c δ S σ T H):Sl c δ [] σ [] H := s.stk .nil
theorem Sl.move {c':Ct} {δ':DS} {σ':St} {H':Hp} {S':List D} {T':List V} (s:Sl c δ S σ T H) (m:∀ b o,vis c δ σ H b = some o -> vis c' δ' σ' H' b = some o) (len:δ'.length = σ'.length)
  (pu:∀ (i:Nat) d,δ'[i]? = some (.pu d) -> ∃ v,σ'[i]? = some (some v) ∧ R (vis c' δ' σ' H') d v)
  (ow:∀ (i:Nat) b xs,δ'[i]? = some (.ow b xs) -> ∃ a vs,σ'[i]? = some (some (.ref a)) ∧ H' a = some (.lst vs) ∧ Rs (vis c' δ' σ' H') xs vs ∧ (b = true -> a ∈ c'.B) ∧ (b = false -> a ∉ c'.B ∧ c'.H0 a = none) ∧ c'.Z a = none)
  (ne:∀ (i j:Nat) b b' xs ys a,δ'[i]? = some (.ow b xs) -> δ'[j]? = some (.ow b' ys) -> σ'[i]? = some (some (.ref a)) -> σ'[j]? = some (some (.ref a)) -> i = j)
  (st:Rs (vis c' δ' σ' H') S' T') (keep:∀ b o,b ∉ c'.B -> c'.H0 b = some o -> H' b = some o) (bb:∀ b ∈ c'.B,∃ o,H' b = some o) (zz:∀ a o,c'.Z a = some o -> H' a = some o):Sl c' δ' S' σ' T' H' := ⟨len,pu,ow,ne,st,keep,bb,zz⟩
theorem Sl.grow (s:Sl c δ S σ T H) {H':Hp} (g:Same H H'):Sl c δ S σ T H':= by
 have m:∀ b o,vis c δ σ H b = some o -> vis c δ σ H' b = some o := hid_mono (fun _ _ _ z => z) fun a o _ h => g a o h
 refine ⟨s.len,fun i d h => ?_,fun i b xs h => ?_,s.ne,s.st.mono m,fun b o h1 h2 => g _ _ (s.keep b o h1 h2),fun b hb => ?_,fun a o hz => g _ _ (s.zz a o hz)⟩
 ·obtain ⟨v,e,r⟩ := s.pu i d h
  exact ⟨v,e,r.mono m⟩
 ·obtain ⟨a,vs,e,h1,h2,h3⟩ := s.ow i b xs h
  exact ⟨a,vs,e,g _ _ h1,h2.mono m,h3⟩
 ·obtain ⟨o,h⟩ := s.bb b hb
  exact ⟨o,g _ _ h⟩
theorem same_new {H:Hp} {p:Addr} (h:H p = none) (o:HO):Same H (upd H p o) := fun b u q => by rw [upd_ne (ne_of_none q h)]; exact q
theorem Sl.hdNew (s:Sl c δ S σ T H) {p:Addr} (h:H p = none):¬ Hd c δ σ p := fun z => by
 obtain ⟨o,e⟩ := s.hdSome z
 rw [h] at e; cases e
theorem Sl.fresh (s:Sl c δ S σ T H) {p:Addr} (h:H p = none):c.Z p = none ∧ p ∉ c.B ∧ c.H0 p = none:= by
 have hB:p ∉ c.B := fun z => by
  obtain ⟨o,e⟩ := s.bb p z
  rw [h] at e; cases e
 refine ⟨?_,hB,?_⟩
 ·cases e:c.Z p with
  | none => rfl
  | some o => have := s.zz p o e; rw [h] at this; cases this
 ·cases e:c.H0 p with
  | none => rfl
  | some o => have := s.keep p o hB e; rw [h] at this; cases this
theorem Sl.newTup {ds:List D} {vs:List V} (s:Sl c δ (ds ++ S) σ (vs ++ T) H) (l:vs.length = ds.length) {p:Addr} (h:H p = none):Sl c δ (.tup ds :: S) σ (.ref p :: T) (upd H p (.tup vs)):= by
 have s' := s.grow (same_new h (.tup vs))
 exact s'.stk (.cons (.mkT (hid_some.mpr ⟨s.hdNew h,upd_same⟩) (s'.st.left l)) (s'.st.right l))
theorem Sl.hide (s:Sl c δ S σ T H) {p:Addr} {o:HO} (h:H p = none):Sl { c with Z := upd c.Z p o } δ S σ T (upd H p o):= by
 have g := same_new h o
 have m:∀ b u,vis c δ σ H b = some u -> vis { c with Z := upd c.Z p o } δ σ (upd H p o) b = some u := hid_mono (fun a u e z => by
  rcases z with ⟨w,z⟩ | z
  ·have:a ≠ p := fun q => by rw [q,h] at e; cases e
   exact .inl ⟨w,(show c.Z a = upd c.Z p o a from (upd_ne this).symm).trans z⟩
  ·exact .inr z) fun a u _ e => g a u e
 refine ⟨s.len,fun i d e => ?_,fun i b xs e => ?_,s.ne,s.st.mono m,fun b u h1 h2 => g _ _ (s.keep b u h1 h2),fun b hb => ?_,fun a u hz => ?_⟩
 ·obtain ⟨v,e,r⟩ := s.pu i d e
  exact ⟨v,e,r.mono m⟩
 ·obtain ⟨a,vs,e,h1,h2,h3,h4,h5⟩ := s.ow i b xs e
  refine ⟨a,vs,e,g _ _ h1,h2.mono m,h3,h4,?_⟩
  show upd c.Z p o a = none
  rw [upd_ne fun q => by rw [q,h] at h1; cases h1]; exact h5
 ·obtain ⟨u,e⟩ := s.bb b hb
  exact ⟨u,g _ _ e⟩
 ·have hz':upd c.Z p o a = some u := hz
  by_cases q:a = p
  ·subst q; rw [upd_same] at hz' ⊢; exact hz'
  ·rw [upd_ne q] at hz' ⊢; exact s.zz a u hz'
theorem Sl.noOw {p:Addr} {o:HO} (s:Sl { c with Z := upd c.Z p o } δ S σ T H):¬ OwA δ σ p := fun ⟨i,b,xs,h1,h2⟩ => by
 obtain ⟨a,vs,e,_,_,_,_,h4⟩ := s.ow i b xs h1
 rw [h2] at e; cases e
 have h4':upd c.Z p o p = none := h4
 rw [upd_same] at h4'; cases h4'
theorem Sl.hideSet {p:Addr} {o:HO} (o':HO) (s:Sl { c with Z := upd c.Z p o } δ S σ T H) (hB:p ∉ c.B) (h0:c.H0 p = none):Sl { c with Z := upd c.Z p o' } δ S σ T (upd H p o'):= by
 have hpH:H p = some o := s.zz p o upd_same
 have npow := s.noOw
 have m:∀ b u,vis { c with Z := upd c.Z p o } δ σ H b = some u -> vis { c with Z := upd c.Z p o' } δ σ (upd H p o') b = some u := hid_mono (fun a u e z => by
  rcases z with ⟨w,z⟩ | z
  ·have z':upd c.Z p o' a = some w := z
   by_cases q:a = p
   ·subst q; exact .inl ⟨o,upd_same⟩
   ·rw [upd_ne q] at z'; exact .inl ⟨w,by show upd c.Z p o a = some w; rw [upd_ne q]; exact z'⟩
  ·exact .inr z) fun a u ha e => by
   have:a ≠ p := fun z => ha (.inl ⟨o,by rw [z]; exact upd_same⟩)
   rw [upd_ne this]; exact e
 refine ⟨s.len,fun i d e => ?_,fun i b xs e => ?_,s.ne,s.st.mono m,fun b u h1 h2 => ?_,fun b hb => ?_,fun a u hz => ?_⟩
 ·obtain ⟨v,e,r⟩ := s.pu i d e
  exact ⟨v,e,r.mono m⟩
 ·have hx := e
  obtain ⟨a,vs,e,h1,h2,h3,h4,h5⟩ := s.ow i b xs e
  have hap:a ≠ p := fun z => npow ⟨i,b,xs,hx,by rw [e,z]⟩
  refine ⟨a,vs,e,by rw [upd_ne hap]; exact h1,h2.mono m,h3,h4,?_⟩
  have h5':upd c.Z p o a = none := h5
  show upd c.Z p o' a = none
  rw [upd_ne hap] at h5' ⊢; exact h5'
 ·have:b ≠ p := fun z => by
   have h2':c.H0 b = some u := h2
   rw [z,h0] at h2'; cases h2'
  rw [upd_ne this]; exact s.keep b u h1 h2
 ·have:b ≠ p := fun z => hB (z ▸ hb)
  rw [upd_ne this]; exact s.bb b hb
 ·have hz':upd c.Z p o' a = some u := hz
  by_cases q:a = p
  ·subst q; rw [upd_same] at hz' ⊢; exact hz'
  ·rw [upd_ne q] at hz' ⊢; exact s.zz a u (by show upd c.Z p o a = some u; rw [upd_ne q]; exact hz')
theorem Sl.unhideL {p:Addr} {xs:List D} {vs:List V} (s:Sl { c with Z := upd c.Z p (.lst vs) } δ (xs ++ S) σ (vs ++ T) H) (l:vs.length = xs.length) (hp:c.Z p = none):Sl c δ (.lst xs :: S) σ (.ref p :: T) H:= by
 have hpH:H p = some (.lst vs) := s.zz p _ upd_same
 have npow := s.noOw
 have zc:∀ a u,c.Z a = some u -> upd c.Z p (.lst vs) a = some u := fun a u h => by rw [upd_ne fun q => by rw [q,hp] at h; cases h]; exact h
 have m:∀ b u,vis { c with Z := upd c.Z p (.lst vs) } δ σ H b = some u -> vis c δ σ H b = some u := hid_mono (fun a u e z => by
  rcases z with ⟨w,z⟩ | z
  ·exact .inl ⟨w,zc a w z⟩
  ·exact .inr z) fun a u ha e => e
 refine ⟨s.len,fun i d e => ?_,fun i b xs e => ?_,s.ne,.cons (.mkL (.inl (hid_some.mpr ⟨fun z => ?_,hpH⟩)) ((s.st.left l).mono m)) ((s.st.right l).mono m),s.keep,s.bb,fun a u hz => s.zz a u (zc a u hz)⟩
 ·obtain ⟨v,e,r⟩ := s.pu i d e
  exact ⟨v,e,r.mono m⟩
 ·obtain ⟨a,vs',e,h1,h2,h3,h4,h5⟩ := s.ow i b xs e
  refine ⟨a,vs',e,h1,h2.mono m,h3,h4,?_⟩
  have h5':upd c.Z p (.lst vs) a = none := h5
  by_cases q:a = p
  ·rw [q]; exact hp
  ·rwa [upd_ne q] at h5'
 ·rcases z with ⟨u,z⟩ | z
  ·rw [hp] at z; cases z
  ·exact npow z
theorem Sl.setPu {d:D} {v:V} {i:Nat} (s:Sl c δ (d :: S) σ (v :: T) H) (hi:i < δ.length):Sl c (δ.set i (.pu d)) S (σ.set i (some v)) T H:= by
 have ow':∀ a,OwA (δ.set i (.pu d)) (σ.set i (some v)) a -> OwA δ σ a := fun a ⟨j,b,xs,h1,h2⟩ => by
  by_cases e:i = j
  ·subst e; rw [List.getElem?_set_self hi] at h1; cases h1
  ·rw [List.getElem?_set_ne e] at h1 h2; exact ⟨j,b,xs,h1,h2⟩
 have m:∀ b u,vis c δ σ H b = some u -> vis c (δ.set i (.pu d)) (σ.set i (some v)) H b = some u := hid_mono (fun a u e z => z.elim .inl fun z => .inr (ow' a z)) fun a u _ e => e
 refine ⟨by simpa using s.len,fun j d' h => ?_,fun j b xs h => ?_,fun j k b b' xs ys a h1 h2 h3 h4 => ?_,s.st.tail.mono m,s.keep,s.bb,s.zz⟩
 ·by_cases e:i = j
  ·subst e
   rw [List.getElem?_set_self hi] at h; cases h
   exact ⟨v,by rw [List.getElem?_set_self (by rw [<- s.len]; exact hi)],s.st.head.mono m⟩
  ·rw [List.getElem?_set_ne e] at h ⊢
   obtain ⟨v',e',r⟩ := s.pu j d' h
   exact ⟨v',e',r.mono m⟩
 ·by_cases e:i = j
  ·subst e; rw [List.getElem?_set_self hi] at h; cases h
  ·rw [List.getElem?_set_ne e] at h ⊢
   obtain ⟨a,vs,e,h1,h2,h3⟩ := s.ow j b xs h
   exact ⟨a,vs,e,h1,h2.mono m,h3⟩
 ·by_cases e:i = j
  ·subst e; rw [List.getElem?_set_self hi] at h1; cases h1
  ·by_cases e':i = k
   ·subst e'; rw [List.getElem?_set_self hi] at h2; cases h2
   ·rw [List.getElem?_set_ne e] at h1 h3; rw [List.getElem?_set_ne e'] at h2 h4
    exact s.ne j k b b' xs ys a h1 h2 h3 h4
theorem Sl.setOw {p:Addr} {xs:List D} {vs:List V} {i:Nat} (s:Sl { c with Z := upd c.Z p (.lst vs) } δ (xs ++ S) σ (vs ++ T) H) (l:vs.length = xs.length) (hp:c.Z p = none) (hB:p ∉ c.B) (h0:c.H0 p = none) (hi:i < δ.length) :
  Sl c (δ.set i (.ow false xs)) S (σ.set i (some (.ref p))) T H:= by
 have hpH:H p = some (.lst vs) := s.zz p _ upd_same
 have npow:∀ (j:Nat) b ys,δ[j]? = some (.ow b ys) -> σ[j]? ≠ some (some (.ref p)) := fun j b ys h1 h2 => s.noOw ⟨j,b,ys,h1,h2⟩
 have zc:∀ a u,c.Z a = some u -> upd c.Z p (.lst vs) a = some u := fun a u h => by rw [upd_ne fun q => by rw [q,hp] at h; cases h]; exact h
 have hiσ:i < σ.length := by rw [<- s.len]; exact hi
 have m:∀ b u,vis { c with Z := upd c.Z p (.lst vs) } δ σ H b = some u -> vis c (δ.set i (.ow false xs)) (σ.set i (some (.ref p))) H b = some u := hid_mono (fun a u e z => by
  rcases z with ⟨w,z⟩ | ⟨j,b,ys,h1,h2⟩
  ·exact .inl ⟨w,zc a w z⟩
  ·by_cases e:i = j
   ·subst e
    rw [List.getElem?_set_self hiσ] at h2; cases h2
    exact .inl ⟨_,upd_same⟩
   ·rw [List.getElem?_set_ne e] at h1 h2; exact .inr ⟨j,b,ys,h1,h2⟩) fun a u _ e => e
 refine ⟨by simpa using s.len,fun j d' h => ?_,fun j b ys h => ?_,fun j k b b' ys zs a h1 h2 h3 h4 => ?_,(s.st.right l).mono m,s.keep,s.bb,fun a u hz => s.zz a u (zc a u hz)⟩
 ·by_cases e:i = j
  ·subst e; rw [List.getElem?_set_self hi] at h; cases h
  ·rw [List.getElem?_set_ne e] at h ⊢
   obtain ⟨v',e',r⟩ := s.pu j d' h
   exact ⟨v',e',r.mono m⟩
 ·by_cases e:i = j
  ·subst e
   rw [List.getElem?_set_self hi] at h; cases h
   exact ⟨p,vs,by rw [List.getElem?_set_self hiσ],hpH,(s.st.left l).mono m,(fun z => absurd z Bool.false_ne_true),(fun _ => ⟨hB,h0⟩),hp⟩
  ·rw [List.getElem?_set_ne e] at h ⊢
   have hx := h
   obtain ⟨a,ws,e,h1,h2,h3,h4,h5⟩ := s.ow j b ys h
   refine ⟨a,ws,e,h1,h2.mono m,h3,h4,?_⟩
   have h5':upd c.Z p (.lst vs) a = none := h5
   rwa [upd_ne fun q => npow j b ys hx (by rw [e,q])] at h5'
 ·by_cases e:i = j
  ·subst e
   rw [List.getElem?_set_self hiσ] at h3; cases h3
   by_cases e':i = k
   ·exact e'
   ·rw [List.getElem?_set_ne e'] at h2 h4
    exact absurd h4 (npow k b' zs h2)
  ·rw [List.getElem?_set_ne e] at h1 h3
   by_cases e':i = k
   ·subst e'
    rw [List.getElem?_set_self hiσ] at h4; cases h4
    exact absurd h3 (npow j b ys h1)
   ·rw [List.getElem?_set_ne e'] at h2 h4
    exact s.ne j k b b' ys zs a h1 h2 h3 h4
theorem Sl.giveOw {a:Addr} {xs:List D} {i:Nat} (s:Sl c δ S σ T H) (hi:δ[i]? = some (.ow false xs)) (ha:σ[i]? = some (some (.ref a))) :
  ∃ vs,vs.length = xs.length ∧ Sl { c with Z := upd c.Z a (.lst vs) } (δ.set i .un) (xs ++ S) σ (vs ++ T) H ∧ c.Z a = none ∧ a ∉ c.B ∧ c.H0 a = none:= by
 have hiδ:i < δ.length := (List.getElem?_eq_some_iff.mp hi).1
 obtain ⟨a',vs,e,hH,hv,_,hB,hZ⟩ := s.ow i false xs hi
 rw [ha] at e; cases e
 have owi:∀ b,OwA (δ.set i .un) σ b -> OwA δ σ b ∧ b ≠ a := fun b ⟨j,bb,ys,h1,h2⟩ => by
  by_cases e:i = j
  ·subst e; rw [List.getElem?_set_self hiδ] at h1; cases h1
  ·rw [List.getElem?_set_ne e] at h1
   exact ⟨⟨j,bb,ys,h1,h2⟩,fun q => e (s.ne i j _ _ _ _ a hi h1 ha (by rw [h2,q]))⟩
 have m:∀ b u,vis c δ σ H b = some u -> vis { c with Z := upd c.Z a (.lst vs) } (δ.set i .un) σ H b = some u := hid_mono (fun b u e z => by
  rcases z with ⟨w,z⟩ | z
  ·by_cases q:b = a
   ·subst q; exact .inr ⟨i,false,xs,hi,ha⟩
   ·exact .inl ⟨w,(show c.Z b = upd c.Z a (.lst vs) b from (upd_ne q).symm).trans z⟩
  ·exact .inr (owi b z).1) fun b u _ e => e
 refine ⟨vs,hv.length,⟨by simpa using s.len,fun j d h => ?_,fun j b ys h => ?_,fun j k b b' ys zs x h1 h2 h3 h4 => ?_,(hv.append s.st).mono m,s.keep,s.bb,fun x u hz => ?_⟩,hZ,(hB rfl).1,(hB rfl).2⟩
 ·have e:i ≠ j := fun e => by subst e; rw [List.getElem?_set_self hiδ] at h; cases h
  rw [List.getElem?_set_ne e] at h
  obtain ⟨v',e',r⟩ := s.pu j d h
  exact ⟨v',e',r.mono m⟩
 ·have e:i ≠ j := fun e => by subst e; rw [List.getElem?_set_self hiδ] at h; cases h
  rw [List.getElem?_set_ne e] at h
  obtain ⟨b1,ws,e',h1,h2,h3,h4,h5⟩ := s.ow j b ys h
  refine ⟨b1,ws,e',h1,h2.mono m,h3,h4,?_⟩
  show upd c.Z a (.lst vs) b1 = none
  rw [upd_ne fun q => e (s.ne i j _ _ _ _ a hi h ha (by rw [e',q]))]; exact h5
 ·have g:∀ (j:Nat) b ys,(δ.set i Slot.un)[j]? = some (.ow b ys) -> δ[j]? = some (.ow b ys) := fun j b ys h => by
   have e:i ≠ j := fun e => by subst e; rw [List.getElem?_set_self hiδ] at h; cases h
   rwa [List.getElem?_set_ne e] at h
  exact s.ne j k b b' ys zs x (g _ _ _ h1) (g _ _ _ h2) h3 h4
 ·have hz':upd c.Z a (.lst vs) x = some u := hz
  by_cases q:x = a
  ·subst q; rw [upd_same] at hz'; cases hz'; exact hH
  ·rw [upd_ne q] at hz'; exact s.zz x u hz'
theorem Sl.mut {a:Addr} {b0:Bool} {xs xs':List D} {vs':List V} {i:Nat} (s:Sl c δ S σ T H) (hi:δ[i]? = some (.ow b0 xs)) (ha:σ[i]? = some (some (.ref a))) (hv:Rs (vis c δ σ H) xs' vs') :
  Sl c (δ.set i (.ow b0 xs')) S σ T (upd H a (.lst vs')):= by
 have hiδ:i < δ.length := (List.getElem?_eq_some_iff.mp hi).1
 obtain ⟨a',vs,e,hH,_,hB,hB',hZ⟩ := s.ow i b0 xs hi
 rw [ha] at e; cases e
 have owi:∀ b,OwA (δ.set i (.ow b0 xs')) σ b -> OwA δ σ b := fun b ⟨j,bb,ys,h1,h2⟩ => by
  by_cases e:i = j
  ·subst e; exact ⟨i,b0,xs,hi,h2⟩
  ·rw [List.getElem?_set_ne e] at h1; exact ⟨j,bb,ys,h1,h2⟩
 have m:∀ b u,vis c δ σ H b = some u -> vis c (δ.set i (.ow b0 xs')) σ (upd H a (.lst vs')) b = some u := hid_mono (fun b u e z => z.elim .inl fun z => .inr (owi b z)) fun b u hb e => by
  have:b ≠ a := fun z => hb (.inr ⟨i,b0,xs,hi,by rw [z]; exact ha⟩)
  rw [upd_ne this]; exact e
 refine ⟨by simpa using s.len,fun j d' h => ?_,fun j b ys h => ?_,fun j k b b' ys zs x h1 h2 h3 h4 => ?_,s.st.mono m,fun b u h1 h2 => ?_,fun b hb => ?_,fun x u hz => ?_⟩
 ·have e:i ≠ j := fun e => by subst e; rw [List.getElem?_set_self hiδ] at h; cases h
  rw [List.getElem?_set_ne e] at h
  obtain ⟨v',e',r⟩ := s.pu j d' h
  exact ⟨v',e',r.mono m⟩
 ·by_cases e:i = j
  ·subst e
   rw [List.getElem?_set_self hiδ] at h; cases h
   exact ⟨a,vs',ha,upd_same,hv.mono m,hB,hB',hZ⟩
  ·rw [List.getElem?_set_ne e] at h
   obtain ⟨b1,ws,e',h1,h2,h3⟩ := s.ow j b ys h
   have:b1 ≠ a := fun z => e (s.ne i j _ _ xs ys a hi h ha (by rw [e',z]))
   exact ⟨b1,ws,e',by rw [upd_ne this]; exact h1,h2.mono m,h3⟩
 ·have g:∀ (j:Nat) b ys,(δ.set i (.ow b0 xs'))[j]? = some (.ow b ys) -> ∃ b ys,δ[j]? = some (.ow b ys) := fun j b ys h => by
   by_cases e:i = j
   ·subst e; exact ⟨b0,xs,hi⟩
   ·rw [List.getElem?_set_ne e] at h; exact ⟨b,ys,h⟩
  obtain ⟨c1,ys',h1⟩ := g j b ys h1
  obtain ⟨c2,zs',h2⟩ := g k b' zs h2
  exact s.ne j k c1 c2 ys' zs' x h1 h2 h3 h4
 ·have:b ≠ a := fun z => by
   subst z
   cases b0 with
   | true => exact h1 (hB rfl)
   | false => rw [(hB' rfl).2] at h2; cases h2
  rw [upd_ne this]; exact s.keep b u h1 h2
 ·by_cases e:b = a
  ·subst e; exact ⟨_,upd_same⟩
  ·rw [upd_ne e]; exact s.bb b hb
 ·have:x ≠ a := fun e => by rw [e,hZ] at hz; cases hz
  rw [upd_ne this]; exact s.zz x u hz
theorem Sl.ext (s:Sl c δ S σ T H) (k:Nat):Sl c (δ ++ List.replicate k .un) S (σ ++ List.replicate k none) T H:= by
 have g:∀ (i:Nat) x,(δ ++ List.replicate k Slot.un)[i]? = some x -> x ≠ .un -> δ[i]? = some x := fun i x h n => by
  by_cases hi:i < δ.length
  ·rwa [List.getElem?_append_left hi] at h
  ·rw [List.getElem?_append_right (by omega),List.getElem?_replicate] at h
   split at h
   ·exact absurd (Option.some.inj h).symm n
   ·cases h
 have gσ:∀ (i:Nat) x,δ[i]? = some x -> (σ ++ List.replicate k none)[i]? = σ[i]? := fun i x h => by
  rw [List.getElem?_append_left (by rw [<- s.len]; exact (List.getElem?_eq_some_iff.mp h).1)]
 have ow':∀ a,OwA (δ ++ List.replicate k .un) (σ ++ List.replicate k none) a -> OwA δ σ a := fun a ⟨j,b,xs,h1,h2⟩ => by
  have h1' := g j _ h1 (by simp)
  rw [gσ j _ h1'] at h2
  exact ⟨j,b,xs,h1',h2⟩
 have m:∀ b u,vis c δ σ H b = some u -> vis c (δ ++ List.replicate k .un) (σ ++ List.replicate k none) H b = some u := hid_mono (fun a u e z => z.elim .inl fun z => .inr (ow' a z)) fun a u _ e => e
 refine ⟨by simp [s.len],fun j d' h => ?_,fun j b xs h => ?_,fun j l b b' xs ys a h1 h2 h3 h4 => ?_,s.st.mono m,s.keep,s.bb,s.zz⟩
 ·have h' := g j _ h (by simp)
  obtain ⟨v,e,r⟩ := s.pu j d' h'
  exact ⟨v,by rw [gσ j _ h']; exact e,r.mono m⟩
 ·have h' := g j _ h (by simp)
  obtain ⟨a,vs,e,h1,h2,h3⟩ := s.ow j b xs h'
  exact ⟨a,vs,by rw [gσ j _ h']; exact e,h1,h2.mono m,h3⟩
 ·have h1' := g j _ h1 (by simp)
  have h2' := g l _ h2 (by simp)
  rw [gσ j _ h1'] at h3; rw [gσ l _ h2'] at h4
  exact s.ne j l b b' xs ys a h1' h2' h3 h4
theorem Sl.cut (s:Sl c δ S σ T H) (n:Nat):Sl c (δ.take n) S (σ.take n) T H:= by
 have g:∀ (i:Nat) x,(δ.take n)[i]? = some x -> i < n ∧ δ[i]? = some x := fun i x h => by
  have hi:i < n:= by
   have := (List.getElem?_eq_some_iff.mp h).1
   rw [List.length_take] at this; omega
  exact ⟨hi,by rwa [List.getElem?_take_of_lt hi] at h⟩
 have ow':∀ a,OwA (δ.take n) (σ.take n) a -> OwA δ σ a := fun a ⟨j,b,xs,h1,h2⟩ => by
  obtain ⟨hj,h1'⟩ := g j _ h1
  rw [List.getElem?_take_of_lt hj] at h2
  exact ⟨j,b,xs,h1',h2⟩
 have m:∀ b u,vis c δ σ H b = some u -> vis c (δ.take n) (σ.take n) H b = some u := hid_mono (fun a u e z => z.elim .inl fun z => .inr (ow' a z)) fun a u _ e => e
 refine ⟨by simp [s.len],fun j d' h => ?_,fun j b xs h => ?_,fun j l b b' xs ys a h1 h2 h3 h4 => ?_,s.st.mono m,s.keep,s.bb,s.zz⟩
 ·obtain ⟨hj,h'⟩ := g j _ h
  obtain ⟨v,e,r⟩ := s.pu j d' h'
  exact ⟨v,by rw [List.getElem?_take_of_lt hj]; exact e,r.mono m⟩
 ·obtain ⟨hj,h'⟩ := g j _ h
  obtain ⟨a,vs,e,h1,h2,h3⟩ := s.ow j b xs h'
  exact ⟨a,vs,by rw [List.getElem?_take_of_lt hj]; exact e,h1,h2.mono m,h3⟩
 ·obtain ⟨hj,h1'⟩ := g j _ h1
  obtain ⟨hl,h2'⟩ := g l _ h2
  rw [List.getElem?_take_of_lt hj] at h3; rw [List.getElem?_take_of_lt hl] at h4
  exact s.ne j l b b' xs ys a h1' h2' h3 h4
end
end Jt
namespace Jt
open PySem L2
noncomputable def M (α:Type) := DS -> Option (α × DS)
noncomputable instance:Monad M where
 pure a := fun s => some (a,s)
 bind x f := fun s => match x s with
  | none => none
  | some (a,s') => f a s'
noncomputable def lift {α:Type} (o:Option α):M α := fun s => match o with
 | none => none
 | some a => some (a,s)
theorem M.bind_def {α β:Type} (x:M α) (f:α -> M β) (s:DS):(x >>= f) s = (match x s with | none => none | some (a,s') => f a s') := rfl
theorem M.pure_def {α:Type} (a:α) (s:DS):(pure a:M α) s = some (a,s) := rfl
inductive Bnd {α β:Type} (x:M α) (f:α -> M β) (s:DS) (b:β) (s2:DS):Prop
 | mk (a:α) (s1:DS) (e1:x s = some (a,s1)) (e2:f a s1 = some (b,s2)):Bnd x f s b s2
theorem bind_some {α β:Type} {x:M α} {f:α -> M β} {s:DS} {b:β} {s2:DS} (h:(x >>= f) s = some (b,s2)):Bnd x f s b s2:= by
 rw [M.bind_def] at h
 cases e:x s with
 | none => rw [e] at h; cases h
 | some p => obtain ⟨a,s1⟩ := p; rw [e] at h; exact ⟨a,s1,e,h⟩
theorem pure_some {α:Type} {a b:α} {s s':DS} (h:(pure a:M α) s = some (b,s')):a = b ∧ s = s':= by
 rw [M.pure_def] at h; cases h; exact ⟨rfl,rfl⟩
theorem lift_some {α:Type} {o:Option α} {b:α} {s s':DS} (h:lift o s = some (b,s')):o = some b ∧ s = s':= by
 unfold lift at h
 cases o with
 | none => cases h
 | some a => cases h; exact ⟨rfl,rfl⟩
theorem hid_le {p:Addr -> Prop} {H:Hp}:∀ b o,hid p H b = some o -> H b = some o := fun b o h => (hid_some.mp h).2
inductive tM (f:M D) (σ:St) (H:Hp) (Q:VK):Prop
 | mk (c:Ct) (δ:DS) (S:List D) (T:List V) (d:D) (δ':DS) (s:Sl c δ S σ T H) (e:f δ = some (d,δ')) (q:∀ v H',Sl c δ' (d :: S) σ (v :: T) H' -> Q v H'):tM f σ H Q
inductive tMT (f:M Bool) (σ:St) (H:Hp) (Q:Bool -> Hp -> Prop):Prop
 | mk (c:Ct) (δ:DS) (S:List D) (T:List V) (b:Bool) (δ':DS) (s:Sl c δ S σ T H) (e:f δ = some (b,δ')) (q:∀ H',Sl c δ' S σ T H' -> Q b H'):tMT f σ H Q
inductive tMA (f:M (List D)) (σ:St) (H:Hp) (Q:List V -> Hp -> Prop):Prop
 | mk (c:Ct) (δ:DS) (S:List D) (T:List V) (ds:List D) (δ':DS) (s:Sl c δ S σ T H) (e:f δ = some (ds,δ')) (q:∀ vs H',vs.length = ds.length -> Sl c δ' (ds ++ S) σ (vs ++ T) H' -> Q vs H'):tMA f σ H Q
inductive tMF (f:M (List D)) (σ:St) (H:Hp) (Q:VK):Prop
 | mk (c:Ct) (δ:DS) (S:List D) (T:List V) (xs:List D) (δ':DS) (s:Sl c δ S σ T H) (e:f δ = some (xs,δ')) (q:∀ l vs H',vs.length = xs.length -> Sl { c with Z := upd c.Z l (.lst vs) } δ' (xs ++ S) σ (vs ++ T) H' -> c.Z l = none -> l ∉ c.B -> c.H0 l = none -> Q (.ref l) H'):tMF f σ H Q
noncomputable abbrev DE (X:Cx) (e:Expr) (f:M D):Prop := PE X e (tM f)
noncomputable abbrev DT (X:Cx) (e:Expr) (f:M Bool):Prop := PT X e (tMT f)
noncomputable abbrev DW (X:Cx) (e:Expr) (f:M Bool):Prop := PW X e (tMT f)
noncomputable abbrev DA (X:Cx) (es:List Expr) (f:M (List D)):Prop := PA X es (tMA f)
noncomputable abbrev DF (X:Cx) (e:Expr) (f:M (List D)):Prop := PE X e (tMF f)
theorem peOf {X:Cx} {e:Expr} {t t':TE} (h:PE X e t) (w:∀ σ H Q,t' σ H Q -> t σ H Q):PE X e t' := fun pins s σ H Q I q => h pins s σ H Q I (w σ H Q q)
theorem ptOf {X:Cx} {e:Expr} {t t':TT} (h:PT X e t) (w:∀ σ H Q,t' σ H Q -> t σ H Q):PT X e t' := fun pins s σ H Q I q => h pins s σ H Q I (w σ H Q q)
theorem pwOf {X:Cx} {e:Expr} {t t':TT} (h:PW X e t) (w:∀ σ H Q,t' σ H Q -> t σ H Q):PW X e t' := fun wh pins s σ H Q I q => h wh pins s σ H Q I (w σ H Q q)
theorem paOf {X:Cx} {e:List Expr} {t t':TA} (h:PA X e t) (w:∀ σ H Q,t' σ H Q -> t σ H Q):PA X e t' := fun ps pins s σ H Q I q => h ps pins s σ H Q I (w σ H Q q)
section
variable {X:Cx} {a b e:Expr} {fa fb:M D} {pos:Pos}
noncomputable def getS (i:Nat):M D := fun δ => match δ[i]? with
 | some (.pu d) => some (d,δ)
 | _ => none
theorem getS_some {i:Nat} {δ δ':DS} {d:D} (h:getS i δ = some (d,δ')):δ[i]? = some (.pu d) ∧ δ = δ':= by
 unfold getS at h
 split at h
 ·rename_i d0 e; cases h; exact ⟨e,rfl⟩
 ·cases h
theorem de_var (i:Nat) {x:Str} {pos:Pos} (hN:X.N[i]? = some x := by rfl) (hv:Vis X.env.scope x := by first | exact Or.inl rfl | exact Or.inr (Or.inl rfl) | exact Or.inr (Or.inr rfl)) (hd:(x == ("__debug__":Str)) = false := by decide)
  (hcd:(x == ("__classdict__":Str)) = false := by decide):DE X (.Name x pos) (getS i) := peOf (pe_var hN hv hd hcd) fun σ H Q ⟨c,δ,S,T,d,δ',s,e,k⟩ => by
 obtain ⟨e',rfl⟩ := getS_some e
 obtain ⟨v,ev,r⟩ := s.pu i d e'
 exact ⟨v,ev,k v H (s.stk (.cons r s.st))⟩
theorem deC {e:Expr} {v:V} {d:D} (h:PE X e (tC v)) (r:∀ H,R H d v):DE X e (pure d) := peOf h fun σ H Q ⟨c,δ,S,T,d',δ',s,e,k⟩ => by
 obtain ⟨rfl,rfl⟩ := pure_some e
 exact k v H (s.stk (.cons (r _) s.st))
theorem de_int {i:Int} {j pos}:DE X (.Constant (.int i) j pos) (pure (.int i)) := deC pe_int fun _ => .mkI
theorem de_bl {i:Bool} {j pos}:DE X (.Constant (.bool i) j pos) (pure (.bl i)) := deC pe_bl fun _ => .mkB
theorem de_str {i:Str} {j pos}:DE X (.Constant (.str i) j pos) (pure (.str i)) := deC pe_str fun _ => .mkS
theorem de_ofF {f:M (List D)} (h:DF X e f):DE X e (do let xs <- f; pure (.lst xs)) := peOf h fun σ H Q ⟨c,δ,S,T,d,δ',s,e,k⟩ => by
 obtain ⟨xs,δ1,e1,e2⟩ := bind_some e
 obtain ⟨rfl,rfl⟩ := pure_some e2
 exact ⟨c,δ,S,T,xs,δ1,s,e1,fun l vs H' hl s' hz _ _ => k _ _ (s'.unhideL hl hz)⟩
noncomputable def OpD (r:R2) (f:D -> D -> Option D):Prop := ∀ (c:Ct) (δ:DS) (S:List D) (σ:St) (T:List V) (H:Hp) (x y:D) (v u:V) (d:D) (Q:VK),Sl c δ (y :: x :: S) σ (u :: v :: T) H -> f x y = some d -> (∀ z H',Sl c δ (d :: S) σ (z :: T) H' -> Q z H') -> r v u H Q
noncomputable def m2 (f:D -> D -> Option D) (fa fb:M D):M D := do
 let x <- fa
 let y <- fb
 lift (f x y)
theorem tOpOf {r:R2} {f:D -> D -> Option D} (hd:OpD r f):∀ σ H Q,tM (m2 f fa fb) σ H Q -> tOp r (tM fa) (tM fb) σ H Q := fun σ H Q ⟨c,δ,S,T,d,δ',s,e,k⟩ => by
 obtain ⟨x,δ1,e1,e⟩ := bind_some e
 obtain ⟨y,δ2,e2,e⟩ := bind_some e
 obtain ⟨e3,rfl⟩ := lift_some e
 exact ⟨c,δ,S,T,x,δ1,s,e1,fun v H1 s1 => ⟨c,δ1,x :: S,v :: T,y,δ2,s1,e2,fun u H2 s2 => hd _ _ _ _ _ _ _ _ _ _ _ _ s2 e3 k⟩⟩
theorem de_op {op:Operator} {r:R2} {f:D -> D -> Option D} (ho:OpR X (binaryOp op) r) (hd:OpD r f) (ha:DE X a fa) (hb:DE X b fb):DE X (.BinOp a op b pos) (m2 f fa fb) := peOf (pe_op ho ha hb) (tOpOf hd)
theorem de_cmp {op:CmpOp} {r:R2} {f:D -> D -> Option D} (ho:OpR X (compareOp op) r) (hd:OpD r f) (ha:DE X a fa) (hb:DE X b fb) (hm:behindInMarks op b = false := by first | exact nomark _ | rfl):DE X (.Compare a [op] [b] pos) (m2 f fa fb) := peOf (pe_cmpR ho ha hb hm) (tOpOf hd)
theorem de_ix {r:R2} {f:D -> D -> Option D} (hr:IxR X r) (hd:OpD r f) (ha:DE X a fa) (hb:DE X b fb) (hs:PlainIx b := by exact fun _ _ => rfl):DE X (.Subscript a b pos) (m2 f fa fb) := peOf (pe_ix hr ha hb hs) (tOpOf hd)
noncomputable def fInt (C:Int -> Int -> Bool) (g:Int -> Int -> D):D -> D -> Option D
 | .int i,.int j => if C i j = true then some (g i j) else none
 | _,_ => none
theorem fInt_some {C:Int -> Int -> Bool} {g:Int -> Int -> D} {x y d:D} (h:fInt C g x y = some d):∃ i j,x = .int i ∧ y = .int j ∧ C i j = true ∧ d = g i j:= by
 unfold fInt at h
 split at h
 ·rename_i i j
  split at h
  ·cases h; exact ⟨i,j,rfl,rfl,‹_›,rfl⟩
  ·cases h
 ·cases h
theorem opd_I {C:Int -> Int -> Prop} {C':Int -> Int -> Bool} {g:Int -> Int -> V} {g':Int -> Int -> D} (hC:∀ i j,C' i j = true -> C i j) (hg:∀ H i j,R H (g' i j) (g i j)):OpD (rI C g) (fInt C' g') := fun c δ S σ T H x y v u d Q s e k => by
 obtain ⟨i,j,rfl,rfl,e1,rfl⟩ := fInt_some e
 have h1 := s.st.head.int
 have h2 := s.st.tail.head.int
 exact ⟨i,j,h2,h1,hC i j e1,k _ _ (s.stk (.cons (hg _ _ _) s.st.tail.tail))⟩
theorem opd_I0 {g:Int -> Int -> V} {g':Int -> Int -> D} (hg:∀ H i j,R H (g' i j) (g i j)):OpD (rI0 g) (fInt (fun _ _ => true) g') := fun c δ S σ T H x y v u d Q s e k => by
 obtain ⟨i,j,rfl,rfl,e1,rfl⟩ := fInt_some e
 have h1 := s.st.head.int
 have h2 := s.st.tail.head.int
 exact ⟨i,j,h2,h1,k _ _ (s.stk (.cons (hg _ _ _) s.st.tail.tail))⟩
noncomputable def dAdd := fInt (fun _ _ => true) fun i j => .int (i + j)
noncomputable def dSub := fInt (fun _ _ => true) fun i j => .int (i - j)
noncomputable def dMul := fInt (fun i j => (decide (-(2 ^ 64) < i) && decide (i < 2 ^ 64)) || (decide (-(2 ^ 64) < j) && decide (j < 2 ^ 64))) fun i j => .int (i * j)
noncomputable def dMod := fInt (fun _ j => decide (0 < j)) fun i j => .int (i % j)
noncomputable def dDiv := fInt (fun _ j => decide (0 < j) && decide (j < 1073741824)) fun i j => .int (i / j)
noncomputable def dLt := fInt (fun _ _ => true) fun i j => .bl (decide (i < j))
noncomputable def dGt := fInt (fun _ _ => true) fun i j => .bl (decide (j < i))
theorem de_add (ha:DE X a fa) (hb:DE X b fb):DE X (.BinOp a .Add b pos) (m2 dAdd fa fb) := de_op op_add (opd_I0 fun _ _ _ => .mkI) ha hb
theorem de_sub (ha:DE X a fa) (hb:DE X b fb):DE X (.BinOp a .Sub b pos) (m2 dSub fa fb) := de_op op_sub (opd_I0 fun _ _ _ => .mkI) ha hb
theorem de_mul (ha:DE X a fa) (hb:DE X b fb):DE X (.BinOp a .Mult b pos) (m2 dMul fa fb) := de_op op_mul (opd_I (fun i j h => by
 simp only [Bool.or_eq_true,Bool.and_eq_true,decide_eq_true_eq] at h; exact h) fun _ _ _ => .mkI) ha hb
theorem de_mod (ha:DE X a fa) (hb:DE X b fb):DE X (.BinOp a .Mod b pos) (m2 dMod fa fb) := de_op op_mod (opd_I (fun i j h => of_decide_eq_true h) fun _ _ _ => .mkI) ha hb
theorem de_div (ha:DE X a fa) (hb:DE X b fb):DE X (.BinOp a .FloorDiv b pos) (m2 dDiv fa fb) := de_op op_fdiv (opd_I (fun i j h => by
 simp only [Bool.and_eq_true,decide_eq_true_eq] at h; exact h) fun _ _ _ => .mkI) ha hb
noncomputable def dIx:D -> D -> Option D
 | .tup ds,.int i => atI ds i
 | .lst ds,.int i => atI ds i
 | _,_ => none
theorem atI_rs {H:Hp} {ds:List D} {vs:List V} {i:Int} {d:D} (h:Rs H ds vs) (e:atI ds i = some d):∃ v,atI vs i = some v ∧ R H d v:= by
 unfold atI at *
 rw [h.length]
 cases q:ixN ds.length i with
 | none => rw [q] at e; cases e
 | some j =>
  rw [q] at e
  exact h.get e
theorem opd_ix {K:PySem.W.Frag}:OpD (rIx K) dIx := fun c δ S σ T H x y v u d Q s e k => by
 cases x with
 | tup ds =>
  cases y with
  | int i =>
   have e':atI ds i = some d := e
   obtain ⟨p,vs,rfl,h1,h2⟩ := s.st.tail.head.tup
   obtain ⟨z,e2,r⟩ := atI_rs h2 e'
   exact .inr (.inl ⟨p,vs,i,z,rfl,s.st.head.int,.of (hid_le _ _ h1),e2,k _ _ (s.stk (.cons r s.st.tail.tail))⟩)
  | _ => cases e
 | lst ds =>
  cases y with
  | int i =>
   have e':atI ds i = some d := e
   obtain ⟨p,vs,rfl,h1,h2⟩ := s.st.tail.head.lst
   obtain ⟨z,e2,r⟩ := atI_rs h2 e'
   exact .inl ⟨p,vs,i,z,rfl,s.st.head.int,.inl (Rd.mono hid_le h1),e2,k _ _ (s.stk (.cons r s.st.tail.tail))⟩
  | _ => cases e
 | _ => cases e
theorem de_item (ha:DE X a fa) (hb:DE X b fb) (hs:PlainIx b := by exact fun _ _ => rfl):DE X (.Subscript a b pos) (m2 dIx fa fb) := de_ix ix_seq opd_ix ha hb hs
noncomputable def asB:D -> M Bool
 | .bl b => pure b
 | _ => lift none
theorem asB_some {d:D} {b:Bool} {δ δ':DS} (h:asB d δ = some (b,δ')):d = .bl b ∧ δ = δ':= by
 unfold asB at h
 split at h
 ·obtain ⟨rfl,rfl⟩ := pure_some h; exact ⟨rfl,rfl⟩
 ·cases h
theorem dt_cmp {op:CmpOp} {r:R2} {f:D -> D -> Option D} (ho:OpR X (compareOp op) r) (hd:OpD r f) (ha:DE X a fa) (hb:DE X b fb) (hm:behindInMarks op b = false := by first | exact nomark _ | rfl):DT X (.Compare a [op] [b] pos) (m2 f fa fb >>= asB) :=
 ptOf (pt_cmpR ho ha hb hm) fun σ H Q ⟨c,δ,S,T,d,δ',s,e,k⟩ => by
  obtain ⟨x,δ1,e1,e⟩ := bind_some e
  obtain ⟨rfl,rfl⟩ := asB_some e
  exact tOpOf hd σ H _ ⟨c,δ,S,T,.bl d,δ1,s,e1,fun v H' s' => ⟨d,s'.st.head.bl,k _ s'.pop⟩⟩
theorem dt_lt (ha:DE X a fa) (hb:DE X b fb):DT X (.Compare a [.Lt] [b] pos) (m2 dLt fa fb >>= asB) := dt_cmp op_lt (opd_I0 fun _ _ _ => .mkB) ha hb
theorem dt_gt (ha:DE X a fa) (hb:DE X b fb):DT X (.Compare a [.Gt] [b] pos) (m2 dGt fa fb >>= asB) := dt_cmp op_gt (opd_I0 fun _ _ _ => .mkB) ha hb
noncomputable def truD:D -> Option Bool
 | .non => some false
 | .bl b => some b
 | .int i => some (i != 0)
 | .str _ => none
 | .tup ds => some (!ds.isEmpty)
 | .lst ds => some (!ds.isEmpty)
 | .dct => none
theorem isEmpty_rs {H:Hp} {ds:List D} {vs:List V} (h:Rs H ds vs):(!ds.isEmpty) = !vs.isEmpty:= by
 cases ds with
 | nil => rw [h.inv0]; rfl
 | cons d ds => obtain ⟨v,r,e,_⟩ := h.inv; rw [e]; rfl
theorem truV_of {K:PySem.W.Frag} {Hh H:Hp} {d:D} {v:V} {b:Bool} (m:∀ b o,Hh b = some o -> H b = some o) (r:R Hh d v) (e:truD d = some b):TruV K v H b:= by
 cases d with
 | non => cases r.non; cases e; rfl
 | bl x => cases r.bl; cases e; rfl
 | int i => cases r.int; cases e; rfl
 | str x => cases e
 | dct => cases e
 | tup ds =>
  obtain ⟨p,vs,rfl,h1,h2⟩ := r.tup
  cases e
  exact .inr (.inl ⟨vs,.of (m _ _ h1),isEmpty_rs h2⟩)
 | lst ds =>
  obtain ⟨p,vs,rfl,h1,h2⟩ := r.lst
  cases e
  exact .inl ⟨vs,.inl (Rd.mono m h1),isEmpty_rs h2⟩
theorem dt_truth (ha:DE X a fa) (he:∀ whole,isTrue a X.env whole = (do let v <- whole; standAt a.pos; holding [v] (truthy v)) := by intro _; rfl):DT X a (do let x <- fa; lift (truD x)) :=
 ptOf (pt_truth ha he) fun σ H Q ⟨c,δ,S,T,d,δ',s,e,k⟩ => by
  obtain ⟨x,δ1,e1,e⟩ := bind_some e
  obtain ⟨e2,rfl⟩ := lift_some e
  exact ⟨c,δ,S,T,x,δ1,s,e1,fun v H' s' => ⟨d,truV_of hid_le s'.st.head e2,k _ s'.pop⟩⟩
noncomputable def mAnd (fa fb:M Bool):M Bool := do
 let x <- fa
 if x = true then fb else pure false
noncomputable def mOr (fa fb:M Bool):M Bool := do
 let x <- fa
 if x = true then pure true else fb
noncomputable def mNot (fa:M Bool):M Bool := do
 let x <- fa
 pure (!x)
variable {ta tb:M Bool} {rest:List Expr}
theorem dw_and1 (ha:DT X a ta):DW X (.BoolOp .And [a] pos) ta := pw_and1 ha
theorem dw_or1 (ha:DT X a ta):DW X (.BoolOp .Or [a] pos) ta := pw_or1 ha
theorem dw_and (ha:DT X a ta) (hb:DW X (.BoolOp .And (b :: rest) pos) tb):DW X (.BoolOp .And (a :: b :: rest) pos) (mAnd ta tb) := pwOf (pw_and ha hb) fun σ H Q ⟨c,δ,S,T,d,δ',s,e,k⟩ => by
 obtain ⟨x,δ1,e1,e⟩ := bind_some e
 refine ⟨c,δ,S,T,x,δ1,s,e1,fun H' s' => ?_⟩
 cases x with
 | true => rw [if_pos rfl] at e ⊢; exact ⟨c,δ1,S,T,d,δ',s',e,k⟩
 | false =>
  rw [if_neg Bool.false_ne_true] at e ⊢
  obtain ⟨rfl,rfl⟩ := pure_some e
  exact k _ s'
theorem dw_or (ha:DT X a ta) (hb:DW X (.BoolOp .Or (b :: rest) pos) tb):DW X (.BoolOp .Or (a :: b :: rest) pos) (mOr ta tb) := pwOf (pw_or ha hb) fun σ H Q ⟨c,δ,S,T,d,δ',s,e,k⟩ => by
 obtain ⟨x,δ1,e1,e⟩ := bind_some e
 refine ⟨c,δ,S,T,x,δ1,s,e1,fun H' s' => ?_⟩
 cases x with
 | false => rw [if_neg Bool.false_ne_true] at e ⊢; exact ⟨c,δ1,S,T,d,δ',s',e,k⟩
 | true =>
  rw [if_pos rfl] at e ⊢
  obtain ⟨rfl,rfl⟩ := pure_some e
  exact k _ s'
theorem dt_w (h:DW X a ta):DT X a ta := h.pt
theorem dt_not (ha:DT X a ta):DT X (.UnaryOp .Not a pos) (mNot ta) := ptOf (pt_not ha) fun σ H Q ⟨c,δ,S,T,d,δ',s,e,k⟩ => by
 obtain ⟨x,δ1,e1,e⟩ := bind_some e
 obtain ⟨rfl,rfl⟩ := pure_some e
 exact ⟨c,δ,S,T,x,δ1,s,e1,fun H' s' => k _ s'⟩
noncomputable def vAnd (fa fb:M D):M D := do
 let x <- fa
 match x with
 | .bl true => fb
 | .bl false => pure (.bl false)
 | _ => lift none
theorem de_one {op} (h:DE X a fa):DE X (.BoolOp op [a] pos) fa := pe_one h
theorem de_and (ha:DE X a fa) (hb:DE X (.BoolOp .And (b :: rest) pos) fb):DE X (.BoolOp .And (a :: b :: rest) pos) (vAnd fa fb) := peOf (pe_and ha hb) fun σ H Q ⟨c,δ,S,T,d,δ',s,e,k⟩ => by
 obtain ⟨x,δ1,e1,e⟩ := bind_some e
 refine ⟨c,δ,S,T,x,δ1,s,e1,fun v H' s' => ?_⟩
 cases x with
 | bl q =>
  cases q with
  | true => exact ⟨true,s'.st.head.bl,iteT ⟨c,δ1,S,T,d,δ',s'.pop,e,k⟩⟩
  | false =>
   obtain ⟨rfl,rfl⟩ := pure_some e
   exact ⟨false,s'.st.head.bl,iteF (k _ _ (s'.stk (.cons .mkB s'.st.tail)))⟩
 | _ => cases e
noncomputable def mIf {α:Type} (t:M Bool) (fa fb:M α):M α := do
 let x <- t
 if x = true then fa else fb
variable {es:List Expr} {fs:M (List D)}
theorem da_nil:DA X [] (pure []) := paOf pa_nil fun σ H Q ⟨c,δ,S,T,d,δ',s,e,k⟩ => by
 obtain ⟨rfl,rfl⟩ := pure_some e
 exact k [] H rfl s
noncomputable def mCons (fa:M D) (fs:M (List D)):M (List D) := do
 let x <- fa
 let xs <- fs
 pure (x :: xs)
theorem da_cons (ha:DE X a fa) (hr:DA X es fs) (hs:starEach (a :: es) X.env = (false,eval a X.env) :: starEach es X.env := by rfl):DA X (a :: es) (mCons fa fs) := paOf (pa_cons ha hr hs) fun σ H Q ⟨c,δ,S,T,d,δ',s,e,k⟩ => by
 obtain ⟨x,δ1,e1,e⟩ := bind_some e
 obtain ⟨xs,δ2,e2,e⟩ := bind_some e
 obtain ⟨rfl,rfl⟩ := pure_some e
 refine ⟨c,δ,S,T,x,δ1,s,e1,fun v H1 s1 => ⟨c,δ1,x :: S,v :: T,xs,δ2,s1,e2,fun vs H2 l s2 => k (v :: vs) H2 (by simp [l]) (s2.stk ?_)⟩⟩
 have h1 := s2.st.left l
 have h2 := s2.st.right l
 exact .cons h2.head (h1.append h2.tail)
noncomputable def few (n:Nat):Option Unit := if n ≤ 100000 then some () else none
theorem few_some {n:Nat} {u:Unit} (h:few n = some u):n ≤ sizeLine ∧ n < sizeLine:= by
 unfold few at h
 split at h
 ·have:(100000:Nat) < sizeLine := by rw [sizeLine_eq]; decide
  omega
 ·cases h
noncomputable def mTup (fs:M (List D)):M D := do
 let ds <- fs
 let _ <- lift (few ds.length)
 pure (.tup ds)
noncomputable def mLst (fs:M (List D)):M (List D) := do
 let ds <- fs
 let _ <- lift (few ds.length)
 pure ds
theorem de_tup {x1} (h:DA X es fs):DE X (.Tuple es x1 pos) (mTup fs) := peOf (pe_tup h) fun σ H Q ⟨c,δ,S,T,d,δ',s,e,k⟩ => by
 obtain ⟨ds,δ1,e1,e⟩ := bind_some e
 obtain ⟨_,δ2,e2,e⟩ := bind_some e
 obtain ⟨e3,rfl⟩ := lift_some e2
 obtain ⟨rfl,rfl⟩ := pure_some e
 exact ⟨c,δ,S,T,ds,δ1,s,e1,fun vs H1 l s1 => ⟨by rw [l]; exact (few_some e3).1,fun p hp => k _ _ (s1.newTup l hp)⟩⟩
theorem df_lst (h:DA X es fs):DF X (.List es pos) (mLst fs) := peOf (pe_lst h) fun σ H Q ⟨c,δ,S,T,d,δ',s,e,k⟩ => by
 obtain ⟨ds,δ1,e1,e⟩ := bind_some e
 obtain ⟨_,δ2,e2,e⟩ := bind_some e
 obtain ⟨e3,rfl⟩ := lift_some e2
 obtain ⟨rfl,rfl⟩ := pure_some e
 refine ⟨c,δ,S,T,ds,δ1,s,e1,fun vs H1 l s1 => ⟨by rw [l]; exact (few_some e3).1,fun p hp => ?_⟩⟩
 obtain ⟨f1,f2,f3⟩ := s1.fresh hp
 exact k p vs _ l (s1.hide hp) f1 f2 f3
noncomputable def CallD (r:List V -> Hp -> VK -> Prop) (f:List D -> Option D):Prop := ∀ (c:Ct) (δ:DS) (S:List D) (σ:St) (T:List V) (H:Hp) (ds:List D) (vs:List V) (d:D) (Q:VK),vs.length = ds.length -> Sl c δ (ds ++ S) σ (vs ++ T) H -> f ds = some d -> (∀ z H',Sl c δ (d :: S) σ (z :: T) H' -> Q z H') -> r vs H Q
noncomputable def mC {α:Type} (f:List D -> Option α) (fs:M (List D)):M α := do
 let ds <- fs
 lift (f ds)
variable {x:Str} {p:Pos} {id T:String} {r:List V -> Hp -> VK -> Prop} {f:List D -> Option D} {g:List D -> Option (List D)}
theorem tCBof (hd:CallD r f):∀ σ H Q,tM (mC f fs) σ H Q -> tCB r (tMA fs) σ H Q := fun σ H Q ⟨c,δ,S,T,d,δ',s,e,k⟩ => by
 obtain ⟨ds,δ1,e1,e⟩ := bind_some e
 obtain ⟨e2,rfl⟩ := lift_some e
 exact ⟨c,δ,S,T,ds,δ1,s,e1,fun vs H1 l s1 => hd _ _ _ _ _ _ _ _ _ _ l s1 e2 k⟩
noncomputable def dLen:List D -> Option D
 | [.tup ds] => some (.int ds.length)
 | [.lst ds] => some (.int ds.length)
 | _ => none
theorem rs1 {H:Hp} {d:D} {vs:List V} (h:Rs H [d] vs):∃ v,vs = [v] ∧ R H d v:= by
 obtain ⟨v,r,e,h1,h2⟩ := h.inv
 rw [h2.inv0] at e
 exact ⟨v,e,h1⟩
theorem rs2 {H:Hp} {d d':D} {vs:List V} (h:Rs H [d,d'] vs):∃ v u,vs = [v,u] ∧ R H d v ∧ R H d' u:= by
 obtain ⟨v,r,e,h1,h2⟩ := h.inv
 obtain ⟨u,rfl,h3⟩ := rs1 h2
 exact ⟨v,u,e,h1,h3⟩
theorem cd_len {K:PySem.W.Frag}:CallD (fun xs H Q => ∃ p ys,xs = [.ref p] ∧ (SqL K H p ys ∨ SqT K H p ys) ∧ Q (.int ys.length) H) dLen := fun c δ S σ T H ds vs d Q l s e k => by
 have h := s.st.left l
 have h2 := s.st.right l
 unfold dLen at e
 split at e
 ·obtain ⟨v,rfl,r⟩ := rs1 h
  obtain ⟨p,ws,rfl,h1,h3⟩ := r.tup
  cases e
  exact ⟨p,ws,rfl,.inr (.of (hid_le _ _ h1)),k _ _ (s.stk (.cons (by rw [h3.length]; exact .mkI) h2))⟩
 ·obtain ⟨v,rfl,r⟩ := rs1 h
  obtain ⟨p,ws,rfl,h1,h3⟩ := r.lst
  cases e
  exact ⟨p,ws,rfl,.inl (.inl (Rd.mono hid_le h1)),k _ _ (s.stk (.cons (by rw [h3.length]; exact .mkI) h2))⟩
 ·cases e
theorem de_callB {f:List D -> Option D} (hc:CallR X (.builtin id) r) (hd:CallD r f) (hg:Gl X x) (hm:X.mg x = none) (hv:bootBuiltins x = some (.builtin id)) (ha:DA X (a :: es) fs) (hn:x ≠ "__name__" := by decide) (hdb:(x == ("__debug__":Str)) = false := by decide)
  (he:starEach (a :: es) X.env = (false,eval a X.env) :: starEach es X.env := by rfl) (hpl:(backTo pos (starEach es X.env)).any (·.1) = false := by rfl):DE X (.Call (.Name x p) (a :: es) [] pos) (mC f fs) :=
 peOf (pe_callB hc hg hm hv ha hn hdb he hpl) (tCBof hd)
end
end Jt
namespace Jt
open PySem L2
inductive Fl where
 | nx | bk | ct | rt (d:D) | rf (xs:List D)
noncomputable def Fin (c:Ct) (δ:DS) (S:List D) (T:List V) (fl:Fl) (E:Ends):Prop :=
 match fl with
 | .nx => ∀ σ H,Sl c δ S σ T H -> E.nx σ H
 | .bk => ∀ σ H,Sl c δ S σ T H -> E.bk σ H
 | .ct => ∀ σ H,Sl c δ S σ T H -> E.ct σ H
 | .rt d => ∀ v σ H,Sl c δ (d :: S) σ (v :: T) H -> E.rt v H
 | .rf xs => ∀ l vs σ H,vs.length = xs.length -> Sl { c with Z := upd c.Z l (.lst vs) } δ (xs ++ S) σ (vs ++ T) H -> c.Z l = none -> l ∉ c.B -> c.H0 l = none -> E.rt (.ref l) H
inductive tMS (f:M Fl) (E:Ends) (σ:St) (H:Hp):Prop
 | mk (c:Ct) (δ:DS) (S:List D) (T:List V) (fl:Fl) (δ':DS) (s:Sl c δ S σ T H) (e:f δ = some (fl,δ')) (q:Fin c δ' S T fl E):tMS f E σ H
noncomputable abbrev DSt (X:Cx) (st:Stmt) (f:M Fl):Prop := PS X st (tMS f)
noncomputable abbrev DSs (X:Cx) (st:List Stmt) (f:M Fl):Prop := PSs X st (tMS f)
theorem psOf {X:Cx} {e:Stmt} {t t':TS} (h:PS X e t) (w:∀ E σ H,t' E σ H -> t E σ H):PS X e t' := fun pins s σ H Q I q => h pins s σ H Q I (w Q σ H q)
theorem pssOf {X:Cx} {e:List Stmt} {t t':TS} (h:PSs X e t) (w:∀ E σ H,t' E σ H -> t E σ H):PSs X e t' := fun pins s σ H Q I q => h pins s σ H Q I (w Q σ H q)
section
variable {X:Cx} {a b e:Expr} {fa fb:M D} {fF:M (List D)} {pos:Pos} {st:Stmt} {rest:List Stmt} {f g:M Fl} {tt:M Bool}
theorem dss_nil:DSs X [] (pure .nx) := pssOf pss_nil fun E σ H ⟨c,δ,S,T,fl,δ',s,e,k⟩ => by
 obtain ⟨rfl,rfl⟩ := pure_some e
 exact k σ H s
noncomputable def mSeq (f g:M Fl):M Fl := do
 let fl <- f
 match fl with
 | .nx => g
 | fl => pure fl
theorem dss_cons (h1:DSt X st f) (h2:DSs X rest g):DSs X (st :: rest) (mSeq f g) := pssOf (pss_cons h1 h2) fun E σ H ⟨c,δ,S,T,fl,δ',s,e,k⟩ => by
 obtain ⟨fl1,δ1,e1,e⟩ := bind_some e
 refine ⟨c,δ,S,T,fl1,δ1,s,e1,?_⟩
 cases fl1 with
 | nx => exact fun σ' H' s' => ⟨c,δ1,S,T,fl,δ',s',e,k⟩
 | bk => obtain ⟨rfl,rfl⟩ := pure_some e; exact k
 | ct => obtain ⟨rfl,rfl⟩ := pure_some e; exact k
 | rt d => obtain ⟨rfl,rfl⟩ := pure_some e; exact k
 | rf xs => obtain ⟨rfl,rfl⟩ := pure_some e; exact k
theorem dss_one (h1:DSt X st f):DSs X [st] f := pss_one h1
theorem ds_ret (he:DE X e fa):DSt X (.Return (some e) pos) (do let d <- fa; pure (.rt d)) := psOf (ps_ret he) fun E σ H ⟨c,δ,S,T,fl,δ',s,e,k⟩ => by
 obtain ⟨d,δ1,e1,e⟩ := bind_some e
 obtain ⟨rfl,rfl⟩ := pure_some e
 exact ⟨c,δ,S,T,d,δ1,s,e1,fun v H' s' => k v σ H' s'⟩
theorem ds_retF (he:DF X e fF):DSt X (.Return (some e) pos) (do let d <- fF; pure (.rf d)) := psOf (ps_ret he) fun E σ H ⟨c,δ,S,T,fl,δ',s,e,k⟩ => by
 obtain ⟨d,δ1,e1,e⟩ := bind_some e
 obtain ⟨rfl,rfl⟩ := pure_some e
 exact ⟨c,δ,S,T,d,δ1,s,e1,fun l vs H' h1 h2 h3 h4 h5 => k l vs σ H' h1 h2 h3 h4 h5⟩
noncomputable def takeO (i:Nat):M (List D) := fun δ => match δ[i]? with
 | some (.ow false xs) => some (xs,δ.set i .un)
 | _ => none
theorem df_own (i:Nat) {x:Str} {pos:Pos} (hN:X.N[i]? = some x := by rfl) (hv:Vis X.env.scope x := by first | exact Or.inl rfl | exact Or.inr (Or.inl rfl) | exact Or.inr (Or.inr rfl)) (hd:(x == ("__debug__":Str)) = false := by decide)
  (hcd:(x == ("__classdict__":Str)) = false := by decide):DF X (.Name x pos) (takeO i) := peOf (pe_var hN hv hd hcd) fun σ H Q ⟨c,δ,S,T,xs,δ',s,e,k⟩ => by
 unfold takeO at e
 split at e
 ·rename_i ys hi
  cases e
  obtain ⟨a,vs0,ea,_⟩ := s.ow i _ _ hi
  obtain ⟨vs,h1,h2,h3,h4,h5⟩ := s.giveOw hi ea
  exact ⟨_,ea,k a vs H h1 h2 h3 h4 h5⟩
 ·cases e
theorem ds_if {t:Expr} {as bs:List Stmt} (ht:DT X t tt) (ha:DSs X as f) (hb:DSs X bs g):DSt X (.If t as bs pos) (mIf tt f g) := psOf (ps_if ht ha hb) fun E σ H ⟨c,δ,S,T,fl,δ',s,e,k⟩ => by
 obtain ⟨x,δ1,e1,e⟩ := bind_some e
 refine ⟨c,δ,S,T,x,δ1,s,e1,fun H' s' => ?_⟩
 cases x with
 | true => rw [if_pos rfl] at e ⊢; exact ⟨c,δ1,S,T,fl,δ',s',e,k⟩
 | false => rw [if_neg Bool.false_ne_true] at e ⊢; exact ⟨c,δ1,S,T,fl,δ',s',e,k⟩
noncomputable def setP (i:Nat) (d:D):M Unit := fun δ => if i < δ.length then some ((),δ.set i (.pu d)) else none
noncomputable def setO (i:Nat) (xs:List D):M Unit := fun δ => if i < δ.length then some ((),δ.set i (.ow false xs)) else none
theorem setP_some {i:Nat} {d:D} {δ δ':DS} {u:Unit} (h:setP i d δ = some (u,δ')):i < δ.length ∧ δ' = δ.set i (.pu d):= by
 unfold setP at h; split at h
 ·cases h; exact ⟨‹_›,rfl⟩
 ·cases h
theorem setO_some {i:Nat} {d:List D} {δ δ':DS} {u:Unit} (h:setO i d δ = some (u,δ')):i < δ.length ∧ δ' = δ.set i (.ow false d):= by
 unfold setO at h; split at h
 ·cases h; exact ⟨‹_›,rfl⟩
 ·cases h
noncomputable def stP (i:Nat) (fa:M D):M Fl := do
 let d <- fa
 setP i d
 pure .nx
noncomputable def stO (i:Nat) (fF:M (List D)):M Fl := do
 let d <- fF
 setO i d
 pure .nx
theorem asgP {te:TE} {i:Nat} (w:∀ σ H Q,tM fa σ H Q -> te σ H Q):∀ E σ H,tMS (stP i fa) E σ H -> tAsg te (gName i) E σ H := fun E σ H ⟨c,δ,S,T,fl,δ',s,e,k⟩ => by
 obtain ⟨d,δ1,e1,e⟩ := bind_some e
 obtain ⟨u,δ2,e2,e⟩ := bind_some e
 obtain ⟨rfl,rfl⟩ := pure_some e
 obtain ⟨hi,rfl⟩ := setP_some e2
 exact w _ _ _ ⟨c,δ,S,T,d,δ1,s,e1,fun v H' s' => k _ _ (s'.setPu hi)⟩
theorem asgO {te:TE} {i:Nat} (w:∀ σ H Q,tMF fF σ H Q -> te σ H Q):∀ E σ H,tMS (stO i fF) E σ H -> tAsg te (gName i) E σ H := fun E σ H ⟨c,δ,S,T,fl,δ',s,e,k⟩ => by
 obtain ⟨d,δ1,e1,e⟩ := bind_some e
 obtain ⟨u,δ2,e2,e⟩ := bind_some e
 obtain ⟨rfl,rfl⟩ := pure_some e
 obtain ⟨hi,rfl⟩ := setO_some e2
 exact w _ _ _ ⟨c,δ,S,T,d,δ1,s,e1,fun l vs H' h1 h2 h3 h4 h5 => k _ _ (h2.setOw h1 h3 h4 h5 hi)⟩
theorem ds_set (i:Nat) {x:Str} {pos':Pos} (hN:X.N.Nodup) (he:DE X e fa) (hi:X.N[i]? = some x := by rfl) (hx:Loc X.env.scope x := by first | exact Or.inl rfl | exact Or.inr rfl) (hs:swapsWith e (some (.Name x pos')) pos.line X.env = pure false := by rfl)
  (hf:X.fn x = true ∨ X.env.scope.names.lookup x = some .local := by first | exact .inl rfl | exact .inr rfl | assumption):DSt X (.Assign [.Name x pos'] e pos) (stP i fa) := psOf (ps_set hN hi hx he hs hf) (asgP fun _ _ _ h => h)
theorem ds_setF (i:Nat) {x:Str} {pos':Pos} (hN:X.N.Nodup) (he:DF X e fF) (hi:X.N[i]? = some x := by rfl) (hx:Loc X.env.scope x := by first | exact Or.inl rfl | exact Or.inr rfl) (hs:swapsWith e (some (.Name x pos')) pos.line X.env = pure false := by rfl)
  (hf:X.fn x = true ∨ X.env.scope.names.lookup x = some .local := by first | exact .inl rfl | exact .inr rfl | assumption):DSt X (.Assign [.Name x pos'] e pos) (stO i fF) := psOf (ps_set hN hi hx he hs hf) (asgO fun _ _ _ h => h)
inductive tMG (lo:Nat) (f:D -> M Unit) (v:V) (σ:St) (H:Hp) (Q:St -> Hp -> Prop):Prop
 | mk (c:Ct) (δ:DS) (S:List D) (T:List V) (d:D) (δ':DS) (s:Sl c δ (d :: S) σ (v :: T) H) (e:f d δ = some ((),δ')) (q:∀ σ' H',(∀ n,n ≤ lo -> σ'.take n = σ.take n) -> Sl c δ' S σ' T H' -> Q σ' H'):tMG lo f v σ H Q
inductive tMGs (lo:Nat) (f:List D -> M Unit) (vs:List V) (σ:St) (H:Hp) (Q:St -> Hp -> Prop):Prop
 | mk (c:Ct) (δ:DS) (S:List D) (T:List V) (ds:List D) (δ':DS) (l:vs.length = ds.length) (s:Sl c δ (ds ++ S) σ (vs ++ T) H) (e:f ds δ = some ((),δ')) (q:∀ σ' H',(∀ n,n ≤ lo -> σ'.take n = σ.take n) -> Sl c δ' S σ' T H' -> Q σ' H'):tMGs lo f vs σ H Q
noncomputable abbrev DG (X:Cx) (lo:Nat) (tg:Expr) (f:D -> M Unit):Prop := PG X tg (tMG lo f)
noncomputable abbrev DGs (X:Cx) (lo:Nat) (tg:List Expr) (f:List D -> M Unit):Prop := PGs X tg (tMGs lo f)
theorem pgOf {X:Cx} {e:Expr} {t t':TG} (h:PG X e t) (w:∀ v σ H Q,t' v σ H Q -> t v σ H Q):PG X e t' := fun pins s σ H v u Q I r q => h pins s σ H v u Q I r (w v σ H Q q)
theorem pgsOf {X:Cx} {e:List Expr} {t t':TGs} (h:PGs X e t) (w:∀ v σ H Q,t' v σ H Q -> t v σ H Q):PGs X e t' := fun pins s σ H v u Q I r q => h pins s σ H v u Q I r (w v σ H Q q)
theorem dg_name {lo:Nat} (i:Nat) {x:Str} {pos:Pos} (hN:X.N.Nodup) (hlo:lo ≤ i := by decide) (hi:X.N[i]? = some x := by rfl) (hx:Loc X.env.scope x := by first | exact Or.inl rfl | exact Or.inr rfl)
  (hf:X.fn x = true ∨ X.env.scope.names.lookup x = some .local := by first | exact .inl rfl | exact .inr rfl | assumption):DG X lo (.Name x pos) (setP i) := pgOf (pg_name hN hi hx hf) fun v σ H Q ⟨c,δ,S,T,d,δ',s,e,k⟩ => by
 obtain ⟨hi,rfl⟩ := setP_some e
 exact k _ _ (fun n hn => List.take_set_of_le (Nat.le_trans hn hlo)) (s.setPu hi)
noncomputable def gsNil:List D -> M Unit
 | [] => pure ()
 | _ => lift none
noncomputable def gsCons (f:D -> M Unit) (g:List D -> M Unit):List D -> M Unit
 | d :: ds => do
  f d
  g ds
 | _ => lift none
theorem dgs_nil {lo:Nat}:DGs X lo [] gsNil := pgsOf pgs_nil fun v σ H Q ⟨c,δ,S,T,ds,δ',l,s,e,k⟩ => by
 cases ds with
 | nil =>
  obtain ⟨_,rfl⟩ := pure_some e
  have:v = [] := List.eq_nil_of_length_eq_zero l
  subst this
  exact ⟨rfl,k σ H (fun _ _ => rfl) s⟩
 | cons d ds => cases e
theorem dgs_cons {lo:Nat} {e:Expr} {es:List Expr} {f:D -> M Unit} {g:List D -> M Unit} (h1:DG X lo e f) (h2:DGs X lo es g)
  (hs:(assignEach (e :: es) X.env).map (·.2) = assign e X.env :: (assignEach es X.env).map (·.2) := by rfl):DGs X lo (e :: es) (gsCons f g) := pgsOf (pgs_cons h1 h2 hs) fun vs σ H Q ⟨c,δ,S,T,ds,δ',l,s,e,k⟩ => by
 cases ds with
 | nil => cases e
 | cons d ds =>
  cases vs with
  | nil => cases l
  | cons v vs =>
   obtain ⟨u,δ1,e1,e2⟩ := bind_some e
   exact ⟨v,vs,rfl,c,δ,ds ++ S,vs ++ T,d,δ1,s,e1,fun σ1 H1 t1 s1 => ⟨c,δ1,S,T,ds,δ',by simpa using l,s1,e2,fun σ2 H2 t2 s2 => k σ2 H2 (fun n hn => (t2 n hn).trans (t1 n hn)) s2⟩⟩
noncomputable def gTupM (n:Nat) (g:List D -> M Unit):D -> M Unit
 | .tup ds => if ds.length = n then g ds else lift none
 | _ => lift none
theorem dg_tup {lo:Nat} {es:List Expr} {k:Nat} {g:List D -> M Unit} {n:Nat} (h:DGs X lo es g) (hc:X.calm = true := by rfl)
  (hn:(assignEach es X.env).length = n := by rfl) (hst:(assignEach es X.env).findIdx? (·.1) = none := by rfl):DG X lo (.Tuple es k pos) (gTupM n g) := pgOf (pg_tup hc h hn hst) fun v σ H Q ⟨c,δ,S,T,d,δ',s,e,k⟩ => by
 cases d with
 | tup ds =>
  have e':(if ds.length = n then g ds else lift none) δ = some ((),δ') := e
  split at e'
  ·rename_i hl
   obtain ⟨p,vs,rfl,h1,h2⟩ := s.st.head.tup
   exact ⟨p,vs,rfl,.of (hid_le _ _ h1),by rw [h2.length]; exact hl,c,δ,S,T,ds,δ',h2.length,s.stk (h2.append s.st.tail),e',k⟩
  ·cases e'
 | _ => cases e
noncomputable abbrev Its := List (DS -> Option D) × (DS -> Bool)
noncomputable def ItD (J:It) (its:Its) (Sx:List D) (Tx:List V):Prop := ∀ (c:Ct) (δ:DS) (S:List D) (σ:St) (T:List V) (H:Hp) (i:Nat),Sl c δ (Sx ++ S) σ (Tx ++ T) H ->
 (∀ act d,its.1[i]? = some act -> act δ = some d -> J.go i H ∧ ∀ x H',J.yld i H x H' -> Sl c δ (d :: (Sx ++ S)) σ (x :: (Tx ++ T)) H') ∧ (i = its.1.length -> its.2 δ = true -> J.stop i H)
inductive tMI (f:M Its) (σ:St) (H:Hp) (R:It -> Hp -> Prop):Prop
 | mk (c:Ct) (δ:DS) (S:List D) (T:List V) (it:Its) (δ':DS) (s:Sl c δ S σ T H) (e:f δ = some (it,δ')) (q:∀ J Sx Tx H',Tx.length = Sx.length -> ItD J it Sx Tx -> Sl c δ' (Sx ++ S) σ (Tx ++ T) H' -> R J H'):tMI f σ H R
noncomputable abbrev DI (X:Cx) (tg iter:Expr) (f:M Its):Prop := PI X tg iter (tMI f)
theorem piOf {X:Cx} {tg e:Expr} {t t':TI} (h:PI X tg e t) (w:∀ σ H Q,t' σ H Q -> t σ H Q):PI X tg e t' := fun pins s σ H Q I q => h pins s σ H Q I (w σ H Q q)
noncomputable def itsOf (ds:List D):Its := (ds.map fun d _ => some d,fun _ => true)
theorem itsOf_get {ds:List D} {i:Nat} {act:DS -> Option D} {δ:DS} {d:D} (h:(itsOf ds).1[i]? = some act) (e:act δ = some d):ds[i]? = some d:= by
 unfold itsOf at h
 rw [List.getElem?_map] at h
 cases q:ds[i]? with
 | none => rw [q] at h; cases h
 | some d' => rw [q] at h; cases h; exact e
theorem itd_tup {K:PySem.W.Frag} {X:Cx} (hK:X.K = K) {a:Addr} {ds:List D}:ItD (Itt K a) (itsOf ds) [.tup ds] [.ref a] := fun c δ S σ T H i s => by
 obtain ⟨p,vs,e,h1,h2⟩ := s.st.head.tup
 cases e
 have hq:SqT K H a vs := .of (hid_le _ _ h1)
 refine ⟨fun act d ha hd => ?_,fun e _ => ⟨vs,hq,by rw [h2.length,e]; simp [itsOf]⟩⟩
 obtain ⟨v,hv,r⟩ := h2.get (itsOf_get ha hd)
 refine ⟨⟨vs,v,hq,hv⟩,fun x H' y => ?_⟩
 obtain ⟨rfl,y⟩ := y
 have := y vs hq
 rw [hv] at this; cases this
 exact s.stk (.cons r s.st)
theorem itd_lst {K:PySem.W.Frag} {a:Addr} {ds:List D}:ItD (Itl K a) (itsOf ds) [.lst ds] [.ref a] := fun c δ S σ T H i s => by
 obtain ⟨p,vs,e,h1,h2⟩ := s.st.head.lst
 cases e
 have hq:SqL K H a vs := .inl (Rd.mono hid_le h1)
 refine ⟨fun act d ha hd => ?_,fun e _ => ⟨vs,hq,by rw [h2.length,e]; simp [itsOf]⟩⟩
 obtain ⟨v,hv,r⟩ := h2.get (itsOf_get ha hd)
 refine ⟨⟨vs,v,hq,hv⟩,fun x H' y => ?_⟩
 obtain ⟨rfl,y⟩ := y
 have := y vs hq
 rw [hv] at this; cases this
 exact s.stk (.cons r s.st)
noncomputable def seqIts:D -> Option Its
 | .tup ds => some (itsOf ds)
 | .lst ds => some (itsOf ds)
 | _ => none
theorem pi_seq {tg l:Expr} {tl:TE} (hl:PE X l tl):PI X tg l (fun σ H R => tl σ H fun x H1 => ∃ a,x = .ref a ∧ (((∃ xs,SqL X.K H1 a xs) ∧ R (Itl X.K a) H1) ∨ ((∃ xs,SqT X.K H1 a xs) ∧ R (Itt X.K a) H1))):= by
 intro pins s σ H R I h
 refine thn (hl pins s σ H _ I h) fun v s1 ⟨x,H1,I1,r1,q1⟩ => ?_
 obtain ⟨a,e,q⟩ := q1
 subst e
 cases r1
 rcases q with ⟨⟨xs,hq⟩,q⟩ | ⟨⟨xs,hq⟩,q⟩
 ·obtain ⟨its,rv,p,hz⟩ := I1.list hq
  refine wpAny_pyIter_list p.isList ?_
  refine ⟨s1.heap.objs.size,[s1.heap.objs.size],_,_,H1,rfl,I1.kept (t' := s1.toks) fun b o e => Heap.get?_push_of_some _ e,turn_list a _,⟨_,Heap.get?_push_size _ rfl,rfl,rfl⟩,fun b hb => ?_,q⟩
  have e:b = s1.heap.objs.size := by simpa using hb
  subst e
  exact I1.fpOk (Nat.le_refl _) (I1.hok.fresh (Nat.le_refl _))
 ·obtain ⟨its,rv,p,hz⟩ := I1.tuple hq
  refine wpAny_pyIter_tuple (show s1.heap.IsTuple a its.toArray from p) ?_
  refine ⟨s1.heap.objs.size,[s1.heap.objs.size],_,_,H1,rfl,I1.kept (t' := s1.toks) fun b o e => Heap.get?_push_of_some _ e,turn_tuple a _,⟨_,Heap.get?_push_size _ rfl,rfl,rfl⟩,fun b hb => ?_,q⟩
  have e:b = s1.heap.objs.size := by simpa using hb
  subst e
  exact I1.fpOk (Nat.le_refl _) (I1.hok.fresh (Nat.le_refl _))
theorem di_seq {tg l:Expr} (hl:DE X l fa):DI X tg l (do let x <- fa; lift (seqIts x)) := piOf (pi_seq hl) fun σ H R ⟨c,δ,S,T,it,δ',s,e,k⟩ => by
 obtain ⟨x,δ1,e1,e⟩ := bind_some e
 obtain ⟨e2,rfl⟩ := lift_some e
 refine ⟨c,δ,S,T,x,δ1,s,e1,fun v H' s' => ?_⟩
 cases x with
 | tup ds =>
  cases e2
  obtain ⟨p,vs,rfl,h1,h2⟩ := s'.st.head.tup
  exact ⟨p,rfl,.inr ⟨⟨vs,.of (hid_le _ _ h1)⟩,k _ [.tup ds] [.ref p] H' rfl (itd_tup rfl) s'⟩⟩
 | lst ds =>
  cases e2
  obtain ⟨p,vs,rfl,h1,h2⟩ := s'.st.head.lst
  exact ⟨p,rfl,.inl ⟨⟨vs,.inl (Rd.mono hid_le h1)⟩,k _ [.lst ds] [.ref p] H' rfl itd_lst s'⟩⟩
 | _ => cases e2
noncomputable def rngD (lo:Int) (n:Nat):List D := (List.range n).map fun (i:Nat) => D.int (lo + (i:Int))
theorem itd_rng {lo:Int} {n:Nat}:ItD (Itr lo n) (itsOf (rngD lo n)) [] [] := fun c δ S σ T H i s => by
 refine ⟨fun act d ha hd => ?_,fun e _ => by
  have:(itsOf (rngD lo n)).1.length = n := by simp [itsOf,rngD]
  show n ≤ i
  omega⟩
 have h := itsOf_get ha hd
 unfold rngD at h
 rw [List.getElem?_map] at h
 have hi:i < n:= by
  by_cases hi:i < n
  ·exact hi
  ·rw [List.getElem?_eq_none (by simp; omega)] at h; cases h
 rw [List.getElem?_range hi] at h
 cases h
 refine ⟨hi,fun x H' y => ?_⟩
 obtain ⟨rfl,rfl⟩ := y
 exact s.stk (.cons .mkI s.st)
noncomputable def smallI (i:Int):Bool := decide (-(2 ^ 62) ≤ i) && decide (i < 2 ^ 62)
noncomputable def rng1:List D -> Option Its
 | [.int j] => if smallI j = true then some (itsOf (rngD 0 j.toNat)) else none
 | _ => none
theorem di_range1 {tg a:Expr} {p:Pos} {fs:M (List D)} (hg:Gl X "range") (hm:X.mg "range" = none) (ha:DA X [a] fs) (hs:starEach [a] X.env = [(false,eval a X.env)] := by rfl):DI X tg (.Call (.Name "range" p) [a] [] pos) (mC rng1 fs) :=
 piOf (pi_range1 hg hm ha hs) fun σ H R ⟨c,δ,S,T,it,δ',s,e,k⟩ => by
  obtain ⟨ds,δ1,e1,e⟩ := bind_some e
  obtain ⟨e2,rfl⟩ := lift_some e
  refine ⟨c,δ,S,T,ds,δ1,s,e1,fun vs H' l s' => ?_⟩
  unfold rng1 at e2
  split at e2
  ·split at e2
   ·rename_i j hj
    cases e2
    obtain ⟨v,rfl,r⟩ := rs1 (s'.st.left l)
    cases r.int
    simp only [smallI,Bool.and_eq_true,decide_eq_true_eq] at hj
    exact ⟨j,rfl,hj.1,hj.2,k _ [] [] H' rfl itd_rng (s'.stk (s'.st.right l))⟩
   ·cases e2
  ·cases e2
noncomputable def ownIts (i n:Nat):Its := ((List.range n).map fun (j:Nat) (δ:DS) => match δ[i]? with
 | some (.ow _ xs) => if xs.length = n then xs[j]? else none
 | _ => none,fun δ => match δ[i]? with
 | some (.ow _ xs) => decide (xs.length = n)
 | _ => false)
noncomputable def peekO (i:Nat):M (List D) := fun δ => match δ[i]? with
 | some (.ow _ xs) => some (xs,δ)
 | _ => none
theorem peekO_some {i:Nat} {xs:List D} {δ δ':DS} (h:peekO i δ = some (xs,δ')):(∃ b,δ[i]? = some (.ow b xs)) ∧ δ = δ':= by
 unfold peekO at h
 split at h
 ·rename_i b ys e; cases h; exact ⟨⟨b,e⟩,rfl⟩
 ·cases h
end
end Jt
namespace Jt
open PySem L2
section
variable {X:Cx} {a b e tg iter elt:Expr} {fa fb te:M D} {fF:M (List D)} {pos:Pos} {st:Stmt} {rest:List Stmt} {f g body:M Fl} {tt:M Bool} {fi:M Its} {gt:D -> M Unit}
theorem Sl.drop {c:Ct} {δ:DS} {A S:List D} {σ:St} {P T:List V} {H:Hp} (s:Sl c δ (A ++ S) σ (P ++ T) H) (l:P.length = A.length):Sl c δ S σ T H := s.stk (s.st.right l)
theorem Sl.rot {c:Ct} {δ:DS} {A B S:List D} {σ:St} {P Q T:List V} {H:Hp} (s:Sl c δ (A ++ (B ++ S)) σ (P ++ (Q ++ T)) H) (l:P.length = A.length) (l2:Q.length = B.length):Sl c δ (B ++ (A ++ S)) σ (Q ++ (P ++ T)) H :=
 s.stk (((s.st.right l).left l2).append ((s.st.left l).append ((s.st.right l).right l2)))
noncomputable def forM (gt:D -> M Unit) (body:M Fl) (fin:DS -> Bool):List (DS -> Option D) -> M Fl
 | [] => fun δ => if fin δ = true then some (.nx,δ) else none
 | a :: r => fun δ => match a δ with
  | none => none
  | some d => (do
   gt d
   let fl <- body
   match fl with
   | .nx => forM gt body fin r
   | .ct => forM gt body fin r
   | .bk => pure .nx
   | .rt d => pure (.rt d)
   | .rf d => pure (.rf d)) δ
theorem ds_for {sts:List Stmt} (hi:DI X tg iter fi) (hg:DG X 0 tg gt) (hb:DSs X sts body) (hp:PassesOwn (model X.prog X.w) X.A X.env X.xe := by exact PassesOwn.never) (hc:X.calm = true := by rfl)
  (hs:∀ x,foldedSetIterable iter X.env x = pure x := by intro _; rfl):DSt X (.For tg iter sts [] pos) (do let it <- fi; forM gt body it.2 it.1) := psOf (ps_for hp hc hi hg hb hs) fun E σ0 H0 ⟨c,δ0,S,T,fl,δ',s0,e,k⟩ => by
 obtain ⟨it,δ1,e1,e⟩ := bind_some e
 refine ⟨c,δ0,S,T,it,δ1,s0,e1,fun J Sx Tx H1 l hJ s1 => ?_⟩
 obtain ⟨items,fin⟩ := it
 refine ⟨fun i m σ H => ∃ δi,m = items.length - i ∧ i ≤ items.length ∧ Sl c δi (Sx ++ S) σ (Tx ++ T) H ∧ forM gt body fin (items.drop i) δi = some (fl,δ'),⟨_,δ1,rfl,Nat.zero_le _,s1,e⟩,?_⟩
 rintro i m σ H ⟨δi,rfl,hi,s,em⟩
 by_cases hlt:i < items.length
 ·rw [List.drop_eq_getElem_cons hlt] at em
  unfold forM at em
  cases ea:items[i] δi with
  | none => rw [ea] at em; cases em
  | some d =>
   rw [ea] at em
   dsimp only at em
   obtain ⟨u,δ2,e2,em⟩ := bind_some em
   obtain ⟨fl1,δ3,e3,em⟩ := bind_some em
   obtain ⟨go,yld⟩ := (hJ c δi S σ T H i s).1 items[i] d (List.getElem?_eq_getElem hlt) ea
   refine .inr ⟨go,fun σ' H' => ∃ δi,Sl c δi (Sx ++ S) σ' (Tx ++ T) H' ∧ forM gt body fin (items.drop (i + 1)) δi = some (fl,δ'),fun σ' H' ⟨δj,sj,ej⟩ => ⟨items.length - (i + 1),by omega,δj,rfl,hlt,sj,ej⟩,fun x H' y => ?_⟩
   refine ⟨c,δi,Sx ++ S,Tx ++ T,d,δ2,yld x H' y,e2,fun σ2 H2 _ s2 => ⟨c,δ2,Sx ++ S,Tx ++ T,fl1,δ3,s2,e3,?_⟩⟩
   cases fl1 with
   | nx => exact fun σ' H' s' => ⟨δ3,s',em⟩
   | ct => exact fun σ' H' s' => ⟨δ3,s',em⟩
   | bk =>
    obtain ⟨rfl,rfl⟩ := pure_some em
    exact fun σ' H' s' => k _ _ (s'.drop l)
   | rt d' =>
    obtain ⟨rfl,rfl⟩ := pure_some em
    exact fun v σ' H' s' => k v σ' H' (s'.stk (.cons s'.st.head (s'.st.tail.right l)))
   | rf xs =>
    obtain ⟨rfl,rfl⟩ := pure_some em
    exact fun q vs σ' H' h1 h2 h3 h4 h5 => k q vs σ' H' h1 (h2.stk ((h2.st.left h1).append ((h2.st.right h1).right l))) h3 h4 h5
 ·have ei:i = items.length := by omega
  subst ei
  rw [List.drop_length] at em
  unfold forM at em
  by_cases hf:fin δi = true
  ·rw [if_pos hf] at em
   cases em
   exact .inl ⟨(hJ c _ S σ T H _ s).2 rfl hf,k _ _ (s.drop l)⟩
  ·rw [if_neg hf] at em; cases em
noncomputable def ItS (J:It) (its:Its) (Sx:List D) (Tx:List V) (σ:St):Prop := ∀ (c:Ct) (δ:DS) (S:List D) (T:List V) (H:Hp) (i:Nat),Sl c δ (Sx ++ S) σ (Tx ++ T) H ->
 (∀ act d,its.1[i]? = some act -> act δ = some d -> J.go i H ∧ ∀ x H',J.yld i H x H' -> Sl c δ (d :: (Sx ++ S)) σ (x :: (Tx ++ T)) H') ∧ (i = its.1.length -> its.2 δ = true -> J.stop i H)
inductive tMC (f:M Its) (σ:St) (H:Hp) (R:It -> Hp -> Prop):Prop
 | mk (c:Ct) (δ:DS) (S:List D) (T:List V) (it:Its) (δ':DS) (s:Sl c δ S σ T H) (e:f δ = some (it,δ')) (q:∀ J Sx Tx H',Tx.length = Sx.length -> ItS J it Sx Tx σ -> Sl c δ' (Sx ++ S) σ (Tx ++ T) H' -> R J H'):tMC f σ H R
noncomputable abbrev DC (X:Cx) (tg iter:Expr) (f:M Its):Prop := PI X tg iter (tMC f)
theorem dc_of (h:DI X tg iter fi):DC X tg iter fi := piOf h fun σ H R ⟨c,δ,S,T,it,δ',s,e,k⟩ => ⟨c,δ,S,T,it,δ',s,e,fun J Sx Tx H' l hJ s' => k J Sx Tx H' l (fun c δ S T H i => hJ c δ S σ T H i) s'⟩
theorem dc_own (i:Nat) {x:Str} {pos:Pos} (hN:X.N[i]? = some x := by rfl) (hv:Vis X.env.scope x := by first | exact Or.inl rfl | exact Or.inr (Or.inl rfl) | exact Or.inr (Or.inr rfl)) (hd:(x == ("__debug__":Str)) = false := by decide)
  (hcd:(x == ("__classdict__":Str)) = false := by decide):DC X tg (.Name x pos) (do let xs <- peekO i; pure (ownIts i xs.length)) := piOf (pi_list (pe_var hN hv hd hcd)) fun σ H R ⟨c,δ,S,T,it,δ',s,e,k⟩ => by
 obtain ⟨xs,δ1,e1,e⟩ := bind_some e
 obtain ⟨rfl,rfl⟩ := pure_some e
 obtain ⟨⟨b,hi⟩,rfl⟩ := peekO_some e1
 obtain ⟨a,vs,ea,hH,hv,_⟩ := s.ow i b xs hi
 refine ⟨_,ea,a,rfl,⟨vs,.of hH⟩,k _ [] [] H rfl ?_ s⟩
 intro c δ S T H j s
 refine ⟨fun act d ha hd => ?_,fun ej hf => ?_⟩
 ·unfold ownIts at ha
  rw [List.getElem?_map] at ha
  have hj:j < xs.length:= by
   by_cases hj:j < xs.length
   ·exact hj
   ·rw [List.getElem?_eq_none (by simp; omega)] at ha; cases ha
  rw [List.getElem?_range hj] at ha
  cases ha
  dsimp only at hd
  split at hd
  ·rename_i b' ys hy
   split at hd
   ·obtain ⟨a',ws,ea',hH',hv',_⟩ := s.ow i b' ys hy
    rw [ea] at ea'; cases ea'
    obtain ⟨v,hv2,r⟩ := hv'.get hd
    refine ⟨⟨ws,v,.of hH',hv2⟩,fun x H' y => ?_⟩
    obtain ⟨rfl,y⟩ := y
    have := y ws (.of hH')
    rw [hv2] at this; cases this
    exact s.stk (.cons r s.st)
   ·cases hd
  ·cases hd
 ·unfold ownIts at hf ej
  dsimp only at hf
  split at hf
  ·rename_i b' ys hy
   obtain ⟨a',ws,ea',hH',hv',_⟩ := s.ow i b' ys hy
   rw [ea] at ea'; cases ea'
   have hl:ys.length = xs.length := of_decide_eq_true hf
   refine ⟨ws,.of hH',?_⟩
   rw [hv'.length,ej]
   simp
   omega
  ·cases hf
noncomputable def turnC (gt:D -> M Unit) (tt:M Bool) (te:M D) (d:D):M (Option D) := do
 gt d
 let b <- tt
 if b = true then do
  let x <- te
  pure (some x)
 else pure none
noncomputable def compM (own:Nat) (turn:D -> M (Option D)) (fin:DS -> Bool):List (DS -> Option D) -> M (List D)
 | [] => fun δ => if fin δ = true then some ([],δ) else none
 | a :: r => fun δ => match a δ with
  | none => none
  | some d => match turn d (δ ++ List.replicate own .un) with
   | none => none
   | some (o,δ2) => match compM own turn fin r (δ2.take δ.length) with
    | none => none
    | some (xs,δ3) => some (o.toList ++ xs,δ3)
noncomputable def lenIs (n:Nat):M Unit := fun δ => if δ.length = n then some ((),δ) else none
noncomputable def mComp (lo own:Nat) (fi:M Its) (turn:D -> M (Option D)):M (List D) := do
 lenIs lo
 let it <- fi
 let _ <- lift (few it.1.length)
 compM own turn it.2 it.1
theorem comp_imp {lo own:Nat}:∀ σ H Q,tMF (mComp lo own fi (turnC gt tt te)) σ H Q -> tComp (tMC fi) own (tMG lo gt) (tMT tt) (tM te) σ H Q := fun σ H Q ⟨c,δ0,S,T,xs,δ',s0,e,k⟩ => by
 obtain ⟨u,δ1,e0,e⟩ := bind_some e
 have hlo:σ.length = lo ∧ δ0 = δ1:= by
  unfold lenIs at e0
  split at e0
  ·cases e0; exact ⟨by rw [<- s0.len]; assumption,rfl⟩
  ·cases e0
 obtain ⟨hlo,rfl⟩ := hlo
 obtain ⟨it,δ2,e1,e⟩ := bind_some e
 obtain ⟨u',δ3,e2,e⟩ := bind_some e
 obtain ⟨e3,rfl⟩ := lift_some e2
 have hfew := (few_some e3).2
 refine ⟨c,δ0,S,T,it,δ2,s0,e1,fun J Sx Tx H1 l hJ s1 q hq => ?_⟩
 obtain ⟨items,fin⟩ := it
 dsimp only at e hfew
 obtain ⟨f1,f2,f3⟩ := s1.fresh hq
 refine ⟨fun i m acc H => ∃ δi accD xsR,m = items.length - i ∧ i ≤ items.length ∧ acc.length = accD.length ∧ acc.length ≤ i ∧ Sl { c with Z := upd c.Z q (.lst acc) } δi (accD ++ (Sx ++ S)) σ (acc ++ (Tx ++ T)) H ∧
  compM own (turnC gt tt te) fin (items.drop i) δi = some (xsR,δ') ∧ accD ++ xsR = xs,⟨_,δ2,[],xs,rfl,Nat.zero_le _,rfl,Nat.le_refl _,s1.hide hq,e,rfl⟩,?_⟩
 rintro i m acc H ⟨δi,accD,xsR,rfl,hi,la,li,s,em,ex⟩
 have hacc:H q = some (.lst acc) := s.zz q _ upd_same
 refine ⟨hacc,?_⟩
 have sr := s.rot la l
 by_cases hlt:i < items.length
 ·rw [List.drop_eq_getElem_cons hlt] at em
  unfold compM at em
  cases ea:items[i] δi with
  | none => rw [ea] at em; cases em
  | some d =>
   rw [ea] at em
   dsimp only at em
   cases et:turnC gt tt te d (δi ++ List.replicate own .un) with
   | none => rw [et] at em; cases em
   | some p =>
    obtain ⟨o,δt⟩ := p
    rw [et] at em
    dsimp only at em
    cases ec:compM own (turnC gt tt te) fin (items.drop (i + 1)) (δt.take δi.length) with
    | none => rw [ec] at em; cases em
    | some p =>
     obtain ⟨xs3,δ3⟩ := p
     rw [ec] at em
     cases em
     obtain ⟨u1,δa,ea1,et⟩ := bind_some et
     obtain ⟨b,δb,eb1,et⟩ := bind_some et
     obtain ⟨go,yld⟩ := (hJ { c with Z := upd c.Z q (.lst acc) } δi (accD ++ S) (acc ++ T) H i sr).1 items[i] d (List.getElem?_eq_getElem hlt) ea
     refine .inr ⟨go,fun x H' y => ?_⟩
     refine ⟨{ c with Z := upd c.Z q (.lst acc) },δi ++ List.replicate own .un,Sx ++ (accD ++ S),Tx ++ (acc ++ T),d,δa,(yld x H' y).ext own,ea1,fun σ2 H2 hn s2 => ?_⟩
     have ht:σ2.take σ.length = σ:= by
      rw [hn _ (Nat.le_of_eq hlo)]
      exact List.take_left' rfl
     refine ⟨ht,{ c with Z := upd c.Z q (.lst acc) },δa,Sx ++ (accD ++ S),Tx ++ (acc ++ T),b,δb,s2,eb1,fun H3 s3 => ?_⟩
     have cutL:δi.length = σ.length := s.len
     cases b with
     | true =>
      rw [if_pos rfl] at et
      refine iteT ?_
      obtain ⟨y1,δy,ey,et⟩ := bind_some et
      obtain ⟨rfl,rfl⟩ := pure_some et
      refine ⟨{ c with Z := upd c.Z q (.lst acc) },δb,Sx ++ (accD ++ S),Tx ++ (acc ++ T),y1,δy,s3,ey,fun v H4 s4 => ?_⟩
      refine ⟨s4.zz q _ upd_same,by omega,items.length - (i + 1),by omega,δy.take δi.length,accD ++ [y1],xs3,rfl,hlt,by simp [la],by simp; omega,?_,ec,by rw [<- ex]; simp⟩
      have s5 := s4.cut σ.length
      rw [ht,<- cutL] at s5
      have s6 := Sl.hideSet (.lst (acc ++ [v])) s5 f2 f3
      refine s6.stk ?_
      have h1 := s6.st.head
      have h2 := s6.st.tail.left l
      have h3 := s6.st.tail.right l
      have h4 := h3.left la
      have h5 := h3.right la
      exact (h4.append (.cons h1 .nil)).append (h2.append h5)
     | false =>
      rw [if_neg Bool.false_ne_true] at et
      refine iteF ?_
      obtain ⟨rfl,rfl⟩ := pure_some et
      refine ⟨items.length - (i + 1),by omega,δb.take δi.length,accD,xs3,rfl,hlt,la,by omega,?_,ec,ex⟩
      have s5 := s3.cut σ.length
      rw [ht,<- cutL] at s5
      exact s5.rot l la
 ·have ei:i = items.length := by omega
  subst ei
  rw [List.drop_length] at em
  unfold compM at em
  by_cases hf:fin δi = true
  ·rw [if_pos hf] at em
   cases em
   rw [List.append_nil] at ex
   subst ex
   refine .inl ⟨(hJ { c with Z := upd c.Z q (.lst acc) } _ (accD ++ S) (acc ++ T) H _ sr).2 rfl hf,k q acc H la ?_ f1 f2 f3⟩
   exact s.stk ((s.st.left la).append ((s.st.right la).right l))
  ·rw [if_neg hf] at em; cases em
theorem dts_nil:PTs X [] (tMT (pure true)) := fun pins s σ H Q I ⟨c,δ,S,T,b,δ',sl,e,k⟩ => by
 obtain ⟨rfl,rfl⟩ := pure_some e
 exact pts_nil pins s σ H Q I (k H sl)
theorem dts_one {t:Expr} (h:DT X t tt):PTs X [t] (tMT tt) := pts_one h
variable {N' own:List Str} {scope:Scope} {ifs:List Expr} {lo:Nat}
theorem df_comp (hi:DC X tg iter fi) (hg:∀ s H fp pins,DG (blk X N' own scope s H fp pins) lo tg gt) (ht:∀ s H fp pins,PTs (blk X N' own scope s H fp pins) ifs (tMT tt)) (he:∀ s H fp pins,DE (blk X N' own scope s H fp pins) elt te)
  (hS:compOk N' own X.env.scope scope = true := by rfl) (hM:maskOk X.N N' scope = true := by rfl) (hk:scope.kind = .function := by rfl) (hc:X.calm = true := by rfl) (hs:∀ x,foldedSetIterable iter X.env x = pure x := by intro _; rfl) :
  DF X (.ListComp elt [⟨tg,iter,ifs,0⟩] scope pos) (mComp lo own.length fi (turnC gt tt te)) := peOf (pe_comp hi hg ht he hS hM hk hc hs) comp_imp
theorem ofF {te:TE} {f:M (List D)} (w:∀ σ H Q,tMF f σ H Q -> te σ H Q):∀ σ H Q,tM (do let xs <- f; pure (.lst xs)) σ H Q -> te σ H Q := fun σ H Q ⟨c,δ,S,T,d,δ',s,e,k⟩ => by
 obtain ⟨xs,δ1,e1,e2⟩ := bind_some e
 obtain ⟨rfl,rfl⟩ := pure_some e2
 exact w _ _ _ ⟨c,δ,S,T,xs,δ1,s,e1,fun l vs H' hl s' hz _ _ => k _ _ (s'.unhideL hl hz)⟩
theorem ds_setCP (i:Nat) {x:Str} {pos'' pos1:Pos} (hN:X.N.Nodup) (hi:DC X tg iter fi) (hg:∀ s H fp pins,DG (blk X N' own scope s H fp pins) lo tg gt) (ht:∀ s H fp pins,PTs (blk X N' own scope s H fp pins) ifs (tMT tt)) (he:∀ s H fp pins,DE (blk X N' own scope s H fp pins) elt te)
  (hx0:X.N[i]? = some x := by rfl) (hx:X.env.scope.names.lookup x = some .local := by rfl)
  (hsw:swapsWith (.ListComp elt [⟨tg,iter,ifs,0⟩] scope pos) (some (.Name x pos'')) pos1.line X.env = pure true := by rfl)
  (hS:compOk N' own X.env.scope scope = true := by rfl) (hM:maskOk X.N N' scope = true := by rfl) (hk:scope.kind = .function := by rfl) (hc:X.calm = true := by rfl) (hs:∀ x,foldedSetIterable iter X.env x = pure x := by intro _; rfl) :
  DSt X (.Assign [.Name x pos''] (.ListComp elt [⟨tg,iter,ifs,0⟩] scope pos) pos1) (stP i (do let xs <- mComp lo own.length fi (turnC gt tt te); pure (.lst xs))) :=
 psOf (ps_setC hN hx0 hx hi hg ht he hsw hS hM hk hc hs) (asgP (ofF comp_imp))
end
end Jt
namespace Jt
open PySem L2
noncomputable def hz (Z H:Hp):Hp := hid (fun a => ∃ o,Z a = some o) H
noncomputable def spP (n:Nat) (mf:List D -> Option D):Sp := fun vs H Q _ => vs.length = n ∧ ∃ (Z:Hp) (ds:List D) (d:D),(∀ a o,Z a = some o -> H a = some o) ∧ Rs (hz Z H) ds vs ∧ mf ds = some d ∧ ∀ v H',Same H H' -> R (hz Z H') d v -> Q v H'
noncomputable def spF (n:Nat) (mf:List D -> Option (List D)):Sp := fun vs H Q _ => vs.length = n ∧ ∃ (Z:Hp) (ds:List D) (xs:List D),(∀ a o,Z a = some o -> H a = some o) ∧ Rs (hz Z H) ds vs ∧ mf ds = some xs ∧
 ∀ l ws H',Same H H' -> H l = none -> H' l = some (.lst ws) -> Rs (hz (upd Z l (.lst ws)) H') xs ws -> Q (.ref l) H'
noncomputable def spB (n:Nat) (mf:List D -> List D -> Option (D × List D)):Sp := fun vs H Q _ => vs.length = n ∧ ∃ (Z:Hp) (a:Addr) (ws:List V) (xs:List D) (us:List V) (ds:List D) (d:D) (xs':List D),vs = .ref a :: us ∧ (∀ b o,Z b = some o -> H b = some o) ∧ Z a = none ∧ H a = some (.lst ws) ∧
 Rs (hz (upd Z a (.lst ws)) H) xs ws ∧ Rs (hz (upd Z a (.lst ws)) H) ds us ∧ mf xs ds = some (d,xs') ∧
 ∀ v ws' H',(∀ b o,b ≠ a -> H b = some o -> H' b = some o) -> H' a = some (.lst ws') -> Rs (hz (upd Z a (.lst ws')) H') xs' ws' -> R (hz (upd Z a (.lst ws')) H') d v -> Q v H'
section
variable {c:Ct} {δ:DS} {S:List D} {σ:St} {T:List V} {H:Hp}
open Classical in
noncomputable def zOf (c:Ct) (δ:DS) (σ:St) (H:Hp):Hp := fun a => if Hd c δ σ a then H a else none
theorem zOf_iff (s:Sl c δ S σ T H) (a:Addr):(∃ o,zOf c δ σ H a = some o) ↔ Hd c δ σ a:= by
 unfold zOf
 by_cases h:Hd c δ σ a
 ·rw [if_pos h]; exact Iff.intro (fun _ => h) fun _ => s.hdSome h
 ·rw [if_neg h]; exact Iff.intro (fun ⟨o,z⟩ => nomatch z) fun z => absurd z h
theorem zOf_le (a:Addr) (o:HO) (h:zOf c δ σ H a = some o):H a = some o:= by
 unfold zOf at h
 split at h
 ·exact h
 ·cases h
end
section
variable {X:Cx} {a b e:Expr} {fa fb:M D} {fs:M (List D)} {pos p:Pos} {es:List Expr} {x:Str} {k:Nat} {f:Addr} {fd:FuncData} {ps:List Str}
theorem de_call {mf:List D -> Option D} {n:Nat} (F:FnOk X.prog X.w X.K X.mg X.base CX0 k f fd ps (spP n mf)) (hr:Room k X.A) (hm:X.mg x = some (.ref f)) (hk:PySem.W.keepIn X.K (.ref f) = true) (hb:Binds X.K fd ps []) (ha:DA X (a :: es) fs)
  (hg:Gl X x := by rfl) (hdb:(x == ("__debug__":Str)) = false := by decide) (he:starEach (a :: es) X.env = (false,eval a X.env) :: starEach es X.env := by rfl) (hpl:(backTo pos (starEach es X.env)).any (·.1) = false := by rfl) :
  DE X (.Call (.Name x p) (a :: es) [] pos) (mC (fun ds => if ds.length = n then mf ds else none) fs) := peOf (pe_call F hr hg hm hk hb .nil pass0 ha hdb he hpl) fun σ H Q ⟨c,δ,S,T,d,δ',s,e,k⟩ => by
 obtain ⟨ds,δ1,e1,e⟩ := bind_some e
 obtain ⟨e2,rfl⟩ := lift_some e
 refine ⟨c,δ,S,T,ds,δ1,s,e1,fun vs H1 l s1 => ?_⟩
 dsimp only at e2 ⊢
 split at e2
 ·rename_i hn
  rw [List.append_nil]
  refine ⟨l.trans hn,zOf c δ1 σ H1,ds,d,zOf_le,(s1.st.left l).mono (hid_mono (fun a o _ z => (zOf_iff s1 a).mp z) fun _ _ _ h => h),e2,fun v H' g r => k v H' ?_⟩
  have s2 := s1.grow g
  exact s2.stk (.cons (r.mono (hid_mono (fun a o _ z => (zOf_iff s1 a).mpr z) fun _ _ _ h => h)) (s2.st.right l))
 ·cases e2
theorem df_call {mf:List D -> Option (List D)} {n:Nat} (F:FnOk X.prog X.w X.K X.mg X.base CX0 k f fd ps (spF n mf)) (hr:Room k X.A) (hm:X.mg x = some (.ref f)) (hk:PySem.W.keepIn X.K (.ref f) = true) (hb:Binds X.K fd ps []) (ha:DA X (a :: es) fs)
  (hg:Gl X x := by rfl) (hdb:(x == ("__debug__":Str)) = false := by decide) (he:starEach (a :: es) X.env = (false,eval a X.env) :: starEach es X.env := by rfl) (hpl:(backTo pos (starEach es X.env)).any (·.1) = false := by rfl) :
  DF X (.Call (.Name x p) (a :: es) [] pos) (mC (fun ds => if ds.length = n then mf ds else none) fs) := peOf (pe_call F hr hg hm hk hb .nil pass0 ha hdb he hpl) fun σ H Q ⟨c,δ,S,T,d,δ',s,e,k⟩ => by
 obtain ⟨ds,δ1,e1,e⟩ := bind_some e
 obtain ⟨e2,rfl⟩ := lift_some e
 refine ⟨c,δ,S,T,ds,δ1,s,e1,fun vs H1 l s1 => ?_⟩
 dsimp only at e2 ⊢
 split at e2
 ·rename_i hn
  rw [List.append_nil]
  refine ⟨l.trans hn,zOf c δ1 σ H1,ds,d,zOf_le,(s1.st.left l).mono (hid_mono (fun a o _ z => (zOf_iff s1 a).mp z) fun _ _ _ h => h),e2,fun q ws H' g hq hq' r => ?_⟩
  obtain ⟨f1,f2,f3⟩ := s1.fresh hq
  -- the new list is hidden in the caller's view
  have s2:Sl { c with Z := upd c.Z q (.lst ws) } δ1 S σ T H':= by
   have h0 := (s1.drop l).hide (o := .lst ws) hq
   refine h0.grow fun b o hb => ?_
   by_cases eb:b = q
   ·subst eb; rw [upd_same] at hb; cases hb; exact hq'
   ·rw [upd_ne eb] at hb; exact g b o hb
  refine k q ws H' r.length (s2.stk ((r.mono (hid_mono (fun a o ha z => ?_) fun _ _ _ h => h)).append s2.st)) f1 f2 f3
  rcases z with ⟨w,z⟩ | z
  ·have z':upd c.Z q (.lst ws) a = some w := z
   by_cases ea:a = q
   ·subst ea; exact ⟨_,upd_same⟩
   ·rw [upd_ne ea] at z'
    obtain ⟨o',h'⟩ := (zOf_iff s1 a).mpr (.inl ⟨w,z'⟩)
    exact ⟨o',by rw [upd_ne ea]; exact h'⟩
  ·have ea:a ≠ q := fun ea => s1.hdNew hq (.inr (by rw [<- ea]; exact z))
   obtain ⟨o',h'⟩ := (zOf_iff s1 a).mpr (.inr z)
   exact ⟨o',by rw [upd_ne ea]; exact h'⟩
 ·cases e2
noncomputable def mBox (i n:Nat) (mf:List D -> List D -> Option (D × List D)) (fs:M (List D)):M D := fun δ => match fs δ with
 | none => none
 | some (ds,δ1) => match δ1[i]? with
  | some (.ow b xs) => if ds.length + 1 = n then (match mf xs ds with
   | none => none
   | some (d,xs') => some (d,δ1.set i (.ow b xs'))) else none
  | _ => none
theorem de_callB1 (i:Nat) {mf:List D -> List D -> Option (D × List D)} {n:Nat} {y:Str} {py:Pos} (F:FnOk X.prog X.w X.K X.mg X.base CX0 k f fd ps (spB n mf)) (hr:Room k X.A) (hm:X.mg x = some (.ref f)) (hk:PySem.W.keepIn X.K (.ref f) = true) (hb:Binds X.K fd ps []) (ha:DA X es fs)
  (hN:X.N[i]? = some y := by rfl) (hv:Vis X.env.scope y := by first | exact Or.inl rfl | exact Or.inr (Or.inl rfl) | exact Or.inr (Or.inr rfl)) (hd:(y == ("__debug__":Str)) = false := by decide) (hcd:(y == ("__classdict__":Str)) = false := by decide)
  (hg:Gl X x := by rfl) (hdb:(x == ("__debug__":Str)) = false := by decide) (he:starEach (.Name y py :: es) X.env = (false,eval (.Name y py) X.env) :: starEach es X.env := by rfl) (hpl:(backTo pos (starEach es X.env)).any (·.1) = false := by rfl) :
  DE X (.Call (.Name x p) (.Name y py :: es) [] pos) (do let _ <- peekO i; mBox i n mf fs) := peOf (pe_call F hr hg hm hk hb .nil pass0 (pa_cons (pe_var hN hv hd hcd) ha he) hdb he hpl) fun σ H Q ⟨c,δ,S,T,d,δ',s,e,k⟩ => by
 obtain ⟨xs0,δ0,e0,e⟩ := bind_some e
 obtain ⟨⟨b0,hi0⟩,rfl⟩ := peekO_some e0
 obtain ⟨a,vs0,ea,_⟩ := s.ow i b0 xs0 hi0
 unfold mBox at e
 cases e1:fs δ with
 | none => rw [e1] at e; cases e
 | some q =>
  obtain ⟨ds,δ1⟩ := q
  rw [e1] at e
  dsimp only at e
  split at e
  ·rename_i b xs hi
   split at e
   ·rename_i hn
    cases e2:mf xs ds with
    | none => rw [e2] at e; cases e
    | some q =>
     obtain ⟨d',xs'⟩ := q
     rw [e2] at e
     cases e
     refine ⟨_,ea,c,δ,S,T,ds,δ1,s,e1,fun vs H1 l s1 => ?_⟩
     dsimp only
     rw [List.append_nil]
     obtain ⟨a',ws,ea',hH,hxs,hB,hB',hZ⟩ := s1.ow i b xs hi
     rw [ea] at ea'; cases ea'
     have hda:Hd c δ1 σ a := .inr ⟨i,b,xs,hi,ea⟩
     have zi:∀ (o:HO) (y:Addr),(∃ u,upd (fun z => if z = a then none else zOf c δ1 σ H1 z) a o y = some u) ↔ Hd c δ1 σ y := fun o y => by
      by_cases ey:y = a
      ·subst ey; rw [upd_same]; exact Iff.intro (fun _ => hda) fun _ => ⟨o,rfl⟩
      ·rw [upd_ne ey,if_neg ey]; exact zOf_iff s1 y
     refine ⟨by simp [l]; omega,fun z => if z = a then none else zOf c δ1 σ H1 z,a,ws,xs,vs,ds,d,xs',rfl,fun b o h => ?_,if_pos rfl,hH,hxs.mono (hid_mono (fun y o _ z => (zi _ y).mp z) fun _ _ _ h => h),
      (s1.st.left l).mono (hid_mono (fun y o _ z => (zi _ y).mp z) fun _ _ _ h => h),e2,fun v ws' H' g ga r1 r2 => k v H' ?_⟩
     ·dsimp only at h; split at h
      ·cases h
      ·exact zOf_le _ _ h
     ·have gr:Same H1 (upd H' a (.lst ws)) := fun y o hy => by
       by_cases ey:y = a
       ·subst ey; rw [hH] at hy; cases hy; exact upd_same
       ·rw [upd_ne ey]; exact g y o ey hy
      have s2 := (s1.drop l).grow gr
      have m2:∀ y o,hz (upd (fun z => if z = a then none else zOf c δ1 σ H1 z) a (.lst ws')) H' y = some o -> vis c δ1 σ (upd H' a (.lst ws)) y = some o :=
       hid_mono (fun y o _ z => (zi _ y).mpr z) fun y o hy h => by
        have:y ≠ a := fun ey => hy (by rw [ey]; exact ⟨_,upd_same⟩)
        rw [upd_ne this]; exact h
      have s3 := (s2.stk (.cons (r2.mono m2) s2.st)).mut hi ea (r1.mono m2)
      have eH:upd (upd H' a (.lst ws)) a (.lst ws') = H':= by
       rw [upd_upd]
       funext y
       by_cases ey:y = a
       ·subst ey; rw [upd_same,ga]
       ·rw [upd_ne ey]
      rw [eH] at s3
      exact s3
   ·cases e
  ·cases e
end
noncomputable def entry (N:List Str) (ds:List D):DS := ds.map .pu ++ List.replicate (N.length - ds.length) .un
noncomputable def runP (N:List Str) (body:M Fl) (ds:List D):Option D := match body (entry N ds) with
 | some (.rt d,_) => some d
 | some (.nx,_) => some .non
 | _ => none
noncomputable def runF (N:List Str) (body:M Fl) (ds:List D):Option (List D) := match body (entry N ds) with
 | some (.rf xs,_) => some xs
 | _ => none
noncomputable def entryB (N:List Str) (xs ds:List D):DS := .ow true xs :: (ds.map .pu ++ List.replicate (N.length - (ds.length + 1)) .un)
noncomputable def runB (N:List Str) (body:M Fl) (xs ds:List D):Option (D × List D) := match body (entryB N xs ds) with
 | some (.rt d,δ) => (match (show DS from δ)[0]? with
  | some (Slot.ow true xs') => some (d,xs')
  | _ => none)
 | _ => none
theorem entry_pu {ds:List D} {n:Nat} {i:Nat} {x:Slot} (h:(ds.map Slot.pu ++ List.replicate n .un)[i]? = some x):(∃ d,x = .pu d ∧ ds[i]? = some d) ∨ x = .un:= by
 by_cases hi:i < ds.length
 ·rw [List.getElem?_append_left (by simpa using hi),List.getElem?_map] at h
  cases q:ds[i]? with
  | none => rw [q] at h; cases h
  | some d => rw [q] at h; cases h; exact .inl ⟨d,rfl,rfl⟩
 ·rw [List.getElem?_append_right (by simpa using hi),List.getElem?_replicate] at h
  split at h
  ·cases h; exact .inr rfl
  ·cases h
theorem sl_entry {Z H:Hp} {N:List Str} {ds:List D} {vs:List V} (hZ:∀ a o,Z a = some o -> H a = some o) (r:Rs (hz Z H) ds vs) (hl:vs.length ≤ N.length):Sl ⟨Z,[],H⟩ (entry N ds) [] (L2.start N vs) [] H:= by
 have noow:∀ a,¬ OwA (entry N ds) (L2.start N vs) a := fun a ⟨i,b,xs,h1,_⟩ => by
  rcases entry_pu h1 with ⟨d,e,_⟩ | e <;> cases e
 have m:∀ b o,hz Z H b = some o -> vis ⟨Z,[],H⟩ (entry N ds) (L2.start N vs) H b = some o := hid_mono (fun a o _ z => z.elim (fun z => z) fun z => absurd z (noow a)) fun _ _ _ h => h
 refine ⟨?_,fun i d h => ?_,fun i b xs h => ?_,fun i j b b' xs ys a h => ?_,.nil,fun b o _ h => h,fun b hb => (nomatch hb),hZ⟩
 ·have := r.length
  simp only [entry,L2.start,List.length_append,List.length_map,List.length_replicate]
  omega
 ·rcases entry_pu h with ⟨d',e,hd⟩ | e
  ·cases e
   obtain ⟨v,hv,rv⟩ := r.get hd
   refine ⟨v,?_,rv.mono m⟩
   have hi:i < vs.length := (List.getElem?_eq_some_iff.mp hv).1
   unfold L2.start
   rw [List.getElem?_append_left (by simpa using hi),List.getElem?_map,hv]; rfl
  ·cases e
 ·rcases entry_pu h with ⟨d',e,hd⟩ | e <;> cases e
 ·rcases entry_pu h with ⟨d',e,hd⟩ | e <;> cases e
section
variable {P:Program} {w:World} {K:PySem.W.Frag} {mg:Str -> Option Value} {base:Heap} {x qual:Str} {st:Stmt} {f:Addr} {fd:FuncData} {N ps:List Str} {k:Nat} {body:M Fl}
theorem fnP (F:Fun K x qual st f fd) (S:FnScope N ps (defScope st)) (hb:∀ (cdv:Value) (A:Around) (outer:List Env) (s:Shared) (H:Hp) (E:XK),Room k (A.deeper (PyProof.Rows.envOfC qual (defScope st) s.heap.objs.size f cdv)) -> DSs (cxOf CX0 P w K mg base N qual (defScope st) f cdv A outer s H E).nox (defBody st) body) :
  FnOk P w K mg base CX0 (k + 1) f fd ps (spP ps.length (runP N body)):= by
 refine F.ok S (fun vs H Q E h => h.1) (fun cdv A outer s H vs Q E hr h => ⟨_,hb cdv A outer s H E hr,?_⟩)
 obtain ⟨hl,Z,ds,d,hZ,r,e,q⟩ := h
 have hpl:ps.length ≤ N.length := by have := congrArg List.length S.pre; rw [List.length_take] at this; omega
 have s0 := sl_entry (N := N) hZ r (by rw [hl]; exact hpl)
 have fin:∀ {δ':DS} {σ':St} {v:V} {H':Hp},Sl ⟨Z,[],H⟩ δ' [d] σ' [v] H' -> Q v H' := fun {δ' σ' v H'} s' =>
  q v H' (fun b o hb => s'.keep b o (by simp) hb) (s'.st.head.mono (hid_mono (fun a o _ z => .inl z) fun _ _ _ h => h))
 unfold runP at e
 split at e
 ·rename_i d' δ' eb
  cases e
  exact ⟨_,_,_,_,_,_,s0,eb,fun v σ' H' s' => fin s'⟩
 ·rename_i δ' eb
  cases e
  exact ⟨_,_,_,_,_,_,s0,eb,fun σ' H' s' => fin (v := .non) (s'.stk (.cons .mkN .nil))⟩
 ·cases e
theorem fnF (F:Fun K x qual st f fd) (S:FnScope N ps (defScope st)) (hb:∀ (cdv:Value) (A:Around) (outer:List Env) (s:Shared) (H:Hp) (E:XK),Room k (A.deeper (PyProof.Rows.envOfC qual (defScope st) s.heap.objs.size f cdv)) -> DSs (cxOf CX0 P w K mg base N qual (defScope st) f cdv A outer s H E).nox (defBody st) body) :
  FnOk P w K mg base CX0 (k + 1) f fd ps (spF ps.length (runF N body)):= by
 refine F.ok S (fun vs H Q E h => h.1) (fun cdv A outer s H vs Q E hr h => ⟨_,hb cdv A outer s H E hr,?_⟩)
 obtain ⟨hl,Z,ds,d,hZ,r,e,q⟩ := h
 have hpl:ps.length ≤ N.length := by have := congrArg List.length S.pre; rw [List.length_take] at this; omega
 have s0 := sl_entry (N := N) hZ r (by rw [hl]; exact hpl)
 unfold runF at e
 split at e
 ·rename_i d' δ' eb
  cases e
  refine ⟨_,_,_,_,_,_,s0,eb,fun l vs' σ' H' h1 s' h3 h4 h5 => ?_⟩
  refine q l vs' H' (fun b o hb => s'.keep b o (by simp) hb) h5 (s'.zz l _ upd_same) ?_
  exact (s'.st.left h1).mono (hid_mono (fun a o _ z => .inl z) fun _ _ _ h => h)
 ·cases e
theorem fnB (F:Fun K x qual st f fd) (S:FnScope N ps (defScope st)) (hb:∀ (cdv:Value) (A:Around) (outer:List Env) (s:Shared) (H:Hp) (E:XK),Room k (A.deeper (PyProof.Rows.envOfC qual (defScope st) s.heap.objs.size f cdv)) -> DSs (cxOf CX0 P w K mg base N qual (defScope st) f cdv A outer s H E).nox (defBody st) body) :
  FnOk P w K mg base CX0 (k + 1) f fd ps (spB ps.length (runB N body)):= by
 refine F.ok S (fun vs H Q E h => h.1) (fun cdv A outer s H vs Q E hr h => ⟨_,hb cdv A outer s H E hr,?_⟩)
 obtain ⟨hl,Z,a,ws,xs,us,ds,d,xs',rfl,hZ,hZa,hH,hxs,hds,e,q⟩ := h
 have hpl:ps.length ≤ N.length := by have := congrArg List.length S.pre; rw [List.length_take] at this; omega
 have hlu:us.length + 1 ≤ N.length := by rw [<- hl] at hpl; simpa using hpl
 have ld := hds.length
 have ow0:∀ b,OwA (entryB N xs ds) (L2.start N (.ref a :: us)) b -> b = a := fun b ⟨i,bb,ys,h1,h2⟩ => by
  cases i with
  | zero => cases h2; rfl
  | succ i =>
   have h1':(ds.map Slot.pu ++ List.replicate (N.length - (ds.length + 1)) .un)[i]? = some (.ow bb ys) := by simpa [entryB] using h1
   rcases entry_pu h1' with ⟨d,e,_⟩ | e <;> cases e
 have m:∀ b o,hz (upd Z a (.lst ws)) H b = some o -> vis ⟨Z,[a],H⟩ (entryB N xs ds) (L2.start N (.ref a :: us)) H b = some o := hid_mono (fun b o _ z => by
  rcases z with ⟨o',z⟩ | z
  ·have z':Z b = some o' := z
   by_cases eb:b = a
   ·rw [eb,hZa] at z'; cases z'
   ·exact ⟨o',by rw [upd_ne eb]; exact z'⟩
  ·rw [ow0 b z]; exact ⟨_,upd_same⟩) fun _ _ _ h => h
 have s0:Sl ⟨Z,[a],H⟩ (entryB N xs ds) [] (L2.start N (.ref a :: us)) [] H:= by
  refine ⟨?_,fun i d h => ?_,fun i b ys h => ?_,fun i j b b' ys zs y h h' => ?_,.nil,fun b o _ h => h,fun b hb => ?_,hZ⟩
  ·simp only [entryB,L2.start,List.length_append,List.length_map,List.length_replicate,List.length_cons]
   omega
  ·cases i with
   | zero => cases h
   | succ i =>
    have h':(ds.map Slot.pu ++ List.replicate (N.length - (ds.length + 1)) .un)[i]? = some (.pu d) := by simpa [entryB] using h
    rcases entry_pu h' with ⟨d',e,hd⟩ | e
    ·cases e
     obtain ⟨v,hv,rv⟩ := hds.get hd
     refine ⟨v,?_,rv.mono m⟩
     have hi:i < us.length := (List.getElem?_eq_some_iff.mp hv).1
     have:(L2.start N (.ref a :: us))[i + 1]? = some (some v):= by
      unfold L2.start
      rw [List.getElem?_append_left (by simpa using hi),List.getElem?_map,List.getElem?_cons_succ,hv]; rfl
     exact this
    ·cases e
  ·cases i with
   | zero =>
    cases h
    exact ⟨a,ws,rfl,hH,hxs.mono m,(fun _ => List.mem_singleton.mpr rfl),(fun z => absurd z (by simp)),hZa⟩
   | succ i =>
    have h':(ds.map Slot.pu ++ List.replicate (N.length - (ds.length + 1)) .un)[i]? = some (.ow b ys) := by simpa [entryB] using h
    rcases entry_pu h' with ⟨d',e,hd⟩ | e <;> cases e
  ·intro _ _
   have z:∀ (i:Nat) b ys,(entryB N xs ds)[i]? = some (.ow b ys) -> i = 0 := fun i b ys h => by
    cases i with
    | zero => rfl
    | succ i =>
     have h':(ds.map Slot.pu ++ List.replicate (N.length - (ds.length + 1)) .un)[i]? = some (.ow b ys) := by simpa [entryB] using h
     rcases entry_pu h' with ⟨d',e,hd⟩ | e <;> cases e
   rw [z i b ys h,z j b' zs h']
  ·rw [List.mem_singleton.mp hb]; exact ⟨_,hH⟩
 unfold runB at e
 split at e
 ·rename_i d' δ' eb
  split at e
  ·rename_i ys hy
   cases e
   refine ⟨_,_,_,_,_,_,s0,eb,fun v σ' H' s' => ?_⟩
   obtain ⟨a',ws',ea,hH',hv',hB',_,_⟩ := s'.ow 0 true _ hy
   have ea2:a' = a := List.mem_singleton.mp (hB' rfl)
   subst ea2
   have m':∀ b o,vis ⟨Z,[a'],H⟩ δ' σ' H' b = some o -> hz (upd Z a' (.lst ws')) H' b = some o := hid_mono (fun b o _ z => by
    obtain ⟨o',z⟩ := z
    by_cases eb:b = a'
    ·subst eb; exact .inr ⟨0,true,_,hy,ea⟩
    ·rw [upd_ne eb] at z; exact .inl ⟨o',z⟩) fun _ _ _ h => h
   exact q v ws' H' (fun b o hb h => s'.keep b o (fun z => hb (List.mem_singleton.mp z)) h) hH' (hv'.mono m') (s'.st.head.mono m')
  ·cases e
 ·cases e
end
end Jt
namespace Jt
open PySem L2
section
variable {X:Cx} {a b e:Expr} {fa fb:M D} {fs:M (List D)} {pos p apos cpos:Pos} {es:List Expr} {x:Str}
theorem Sl.own {c:Ct} {δ:DS} {S:List D} {σ:St} {T:List V} {H:Hp} (s:Sl c δ S σ T H) {i:Nat} {b:Bool} {xs:List D} (hi:δ[i]? = some (.ow b xs)):∃ a vs,σ[i]? = some (some (.ref a)) ∧ H a = some (.lst vs) ∧ Rs (vis c δ σ H) xs vs:= by
 obtain ⟨a,vs,h1,h2,h3,_⟩ := s.ow i b xs hi
 exact ⟨a,vs,h1,h2,h3⟩
noncomputable def setOw (i:Nat) (xs:List D):M Unit := fun δ => match δ[i]? with
 | some (.ow b _) => some ((),δ.set i (.ow b xs))
 | _ => none
theorem setOw_some {i:Nat} {xs:List D} {δ δ':DS} {u:Unit} (h:setOw i xs δ = some (u,δ')):∃ b ys,δ[i]? = some (.ow b ys) ∧ δ' = δ.set i (.ow b xs):= by
 unfold setOw at h
 split at h
 ·rename_i b ys e; cases h; exact ⟨b,ys,e,rfl⟩
 ·cases h
noncomputable def mAppend (i:Nat) (fs:M (List D)):M Fl := do
 let _ <- peekO i
 let ds <- fs
 match ds with
 | [d] => do
  let xs <- peekO i
  let _ <- lift (few xs.length)
  setOw i (xs ++ [d])
  pure .nx
 | _ => lift none
theorem ds_append (i:Nat) (ha:DA X [a] fs) (hN:X.N[i]? = some x := by rfl) (hv:Vis X.env.scope x := by first | exact Or.inl rfl | exact Or.inr (Or.inl rfl) | exact Or.inr (Or.inr rfl)) (hd:(x == ("__debug__":Str)) = false := by decide) (hcd:(x == ("__classdict__":Str)) = false := by decide)
  (hfew:((backTo cpos (starEach [a] X.env)).all (fun x => !x.1) && (backToKw cpos (keywordEach [] X.env)).all (fun x => x.1.isSome)
   && decide (([a]:List Expr).length + ([]:List Keyword).length + (if ([]:List Keyword).isEmpty then 0 else 1) < 30)) = true := by rfl)
  (hline:(apos.endLine == cpos.line) = true := by rfl) (hs:starEach [a] X.env = [(false,eval a X.env)] := by rfl) (hsw:swapsWith (.Call (.Attribute (.Name x p) "append" apos) [a] [] cpos) none pos.line X.env = pure false := by rfl) :
  DSt X (.Expr (.Call (.Attribute (.Name x p) "append" apos) [a] [] cpos) pos) (mAppend i fs) :=
 psOf (ps_expr (pe_bm PySem.F.plainAttrs_list PySem.F.slot_list_append PySem.F.type_list_append mt_append (pe_var hN hv hd hcd) ha rfl hfew hline hs rfl) hsw) fun E σ H ⟨c,δ,S,T,fl,δ',s,e,k⟩ => by
  obtain ⟨xs0,δ0,e0,e⟩ := bind_some e
  obtain ⟨⟨b0,hi0⟩,rfl⟩ := peekO_some e0
  obtain ⟨q,vs0,eq,hq,_⟩ := s.own hi0
  obtain ⟨ds,δ1,e1,e⟩ := bind_some e
  refine ⟨_,eq,.inl ⟨rfl,vs0,.of hq⟩,c,δ,S,T,ds,δ1,s,e1,fun vs H1 l s1 => ?_⟩
  split at e
  ·rename_i d
   obtain ⟨xs,δ2,e2,e⟩ := bind_some e
   obtain ⟨⟨b1,hi1⟩,rfl⟩ := peekO_some e2
   obtain ⟨_,δ3,e3,e⟩ := bind_some e
   obtain ⟨e4,rfl⟩ := lift_some e3
   obtain ⟨_,δ4,e5,e⟩ := bind_some e
   obtain ⟨rfl,rfl⟩ := pure_some e
   obtain ⟨b2,ys,hi2,rfl⟩ := setOw_some e5
   rw [hi1] at hi2; cases hi2
   obtain ⟨q',ws,eq',hq',hx⟩ := s1.own hi1
   rw [eq] at eq'; cases eq'
   obtain ⟨v,rfl,r⟩ := rs1 (s1.st.left l)
   refine ⟨q,ws,v,rfl,rfl,hq',by rw [hx.length]; exact (few_some e4).2,k _ _ ?_⟩
   exact (s1.drop l).mut hi1 eq (hx.append (.cons r .nil))
  ·cases e
noncomputable def mPop (i:Nat) (fs:M (List D)):M D := do
 let _ <- peekO i
 let ds <- fs
 match ds with
 | [.int j] => do
  let xs <- peekO i
  let d <- lift (if 0 ≤ j ∧ j < 100000 then xs[j.toNat]? else none)
  setOw i (xs.eraseIdx j.toNat)
  pure d
 | _ => lift none
theorem Rs.erase {H:Hp}:∀ {ds:List D} {vs:List V} (i:Nat),Rs H ds vs -> Rs H (ds.eraseIdx i) (vs.eraseIdx i)
 | [],vs,i,h => by rw [h.inv0]; simpa using Rs.nil
 | d :: ds,vs,0,h => by obtain ⟨v,r,e,_,h2⟩ := h.inv; subst e; exact h2
 | d :: ds,vs,i + 1,h => by obtain ⟨v,r,e,h1,h2⟩ := h.inv; subst e; exact .cons h1 (Rs.erase i h2)
theorem de_pop (i:Nat) (ha:DA X [a] fs) (hN:X.N[i]? = some x := by rfl) (hv:Vis X.env.scope x := by first | exact Or.inl rfl | exact Or.inr (Or.inl rfl) | exact Or.inr (Or.inr rfl)) (hd:(x == ("__debug__":Str)) = false := by decide) (hcd:(x == ("__classdict__":Str)) = false := by decide)
  (hfew:((backTo cpos (starEach [a] X.env)).all (fun x => !x.1) && (backToKw cpos (keywordEach [] X.env)).all (fun x => x.1.isSome)
   && decide (([a]:List Expr).length + ([]:List Keyword).length + (if ([]:List Keyword).isEmpty then 0 else 1) < 30)) = true := by rfl)
  (hline:(apos.endLine == cpos.line) = true := by rfl) (hs:starEach [a] X.env = [(false,eval a X.env)] := by rfl) :
  DE X (.Call (.Attribute (.Name x p) "pop" apos) [a] [] cpos) (mPop i fs) :=
 peOf (pe_bm PySem.F.plainAttrs_list PySem.F.slot_list_pop PySem.F.type_list_pop mt_popAt (pe_var hN hv hd hcd) ha rfl hfew hline hs rfl) fun σ H Q ⟨c,δ,S,T,fl,δ',s,e,k⟩ => by
  obtain ⟨xs0,δ0,e0,e⟩ := bind_some e
  obtain ⟨⟨b0,hi0⟩,rfl⟩ := peekO_some e0
  obtain ⟨q,vs0,eq,hq,_⟩ := s.own hi0
  obtain ⟨ds,δ1,e1,e⟩ := bind_some e
  refine ⟨_,eq,.inl ⟨rfl,vs0,.of hq⟩,c,δ,S,T,ds,δ1,s,e1,fun vs H1 l s1 => ?_⟩
  split at e
  ·rename_i j
   obtain ⟨xs,δ2,e2,e⟩ := bind_some e
   obtain ⟨⟨b1,hi1⟩,rfl⟩ := peekO_some e2
   obtain ⟨d,δ3,e3,e⟩ := bind_some e
   obtain ⟨e4,rfl⟩ := lift_some e3
   obtain ⟨_,δ4,e5,e⟩ := bind_some e
   obtain ⟨rfl,rfl⟩ := pure_some e
   obtain ⟨b2,ys,hi2,rfl⟩ := setOw_some e5
   rw [hi1] at hi2; cases hi2
   obtain ⟨q',ws,eq',hq',hx⟩ := s1.own hi1
   rw [eq] at eq'; cases eq'
   obtain ⟨v,rfl,r⟩ := rs1 (s1.st.left l)
   cases r.int
   split at e4
   ·rename_i hj
    obtain ⟨y,hy,ry⟩ := hx.get e4
    have hjl:j.toNat < ws.length := (List.getElem?_eq_some_iff.mp hy).1
    refine ⟨q,ws,j,j.toNat,y,rfl,rfl,hq',by omega,by omega,?_,hy,k _ _ ?_⟩
    ·unfold seqIndex?
     have h1:¬ j < 0 := by omega
     simp only [h1,if_false]
     rw [if_pos]
     simp only [Bool.and_eq_true,decide_eq_true_eq]
     omega
    ·have s2 := s1.drop l
     exact (s2.stk (.cons ry s2.st)).mut hi1 eq (hx.erase j.toNat)
   ·cases e4
  ·cases e
noncomputable def mSetIx (i:Nat) (fa:M D) (k:Int):M Fl := do
 let d <- fa
 let xs <- peekO i
 let j <- lift (ixN xs.length k)
 setOw i (xs.set j d)
 pure .nx
theorem Rs.set {H:Hp} {d:D} {v:V} (r:R H d v):∀ {ds:List D} {vs:List V} (i:Nat),Rs H ds vs -> Rs H (ds.set i d) (vs.set i v)
 | [],vs,i,h => by rw [h.inv0]; simpa using Rs.nil
 | d :: ds,vs,0,h => by obtain ⟨v,q,e,_,h2⟩ := h.inv; subst e; exact .cons r h2
 | d :: ds,vs,i + 1,h => by obtain ⟨v,q,e,h1,h2⟩ := h.inv; subst e; exact .cons h1 (Rs.set r i h2)
theorem ds_setIx (i:Nat) {k:Int} {j:Nat} {pc psub:Pos} (he:DE X e fa) (hN:X.N[i]? = some x := by rfl) (hv:Vis X.env.scope x := by first | exact Or.inl rfl | exact Or.inr (Or.inl rfl) | exact Or.inr (Or.inr rfl)) (hd:(x == ("__debug__":Str)) = false := by decide) (hcd:(x == ("__classdict__":Str)) = false := by decide)
  (ha:∀ v,assign (.Subscript (.Name x p) (.Constant (.int k) j pc) psub) X.env v = (do
   let ov <- holding [v] (eval (.Name x p) X.env)
   let iv <- holding [v,ov] (eval (.Constant (.int k) j pc) X.env)
   standAt psub
   holding [v,ov,iv] (setItem ov iv v)
   release [v,ov,iv] []) := by intro _; rfl)
  (hs:swapsWithSole [.Subscript (.Name x p) (.Constant (.int k) j pc) psub] e pos.line X.env = pure false := by rfl) (hw:swappedStores [.Subscript (.Name x p) (.Constant (.int k) j pc) psub] e X.env = pure none := by rfl)
  (h1:(assignEach [.Subscript (.Name x p) (.Constant (.int k) j pc) psub] X.env).map (·.2) = [assign (.Subscript (.Name x p) (.Constant (.int k) j pc) psub) X.env] := by rfl) :
  DSt X (.Assign [.Subscript (.Name x p) (.Constant (.int k) j pc) psub] e pos) (mSetIx i fa k) :=
 psOf (ps_asg he (pg_sub (pe_var hN hv hd hcd) pe_int set_list ha) hs hw h1) fun E σ H ⟨c,δ,S,T,fl,δ',s,e,kk⟩ => by
  obtain ⟨d,δ1,e1,e⟩ := bind_some e
  obtain ⟨xs,δ2,e2,e⟩ := bind_some e
  obtain ⟨⟨b1,hi1⟩,rfl⟩ := peekO_some e2
  obtain ⟨jj,δ3,e3,e⟩ := bind_some e
  obtain ⟨e4,rfl⟩ := lift_some e3
  obtain ⟨_,δ4,e5,e⟩ := bind_some e
  obtain ⟨rfl,rfl⟩ := pure_some e
  obtain ⟨b2,ys,hi2,rfl⟩ := setOw_some e5
  rw [hi1] at hi2; cases hi2
  refine ⟨c,δ,S,T,d,δ1,s,e1,fun v H1 s1 => ?_⟩
  obtain ⟨q,ws,eq,hq,hx⟩ := s1.own hi1
  refine ⟨_,eq,q,ws,k,jj,rfl,rfl,hq,by rw [hx.length]; exact e4,kk _ _ ?_⟩
  exact s1.pop.mut hi1 eq (hx.set s1.st.head jj)
noncomputable def mIxO (i:Nat) (fb:M D):M D := do
 let _ <- peekO i
 let y <- fb
 let xs <- peekO i
 lift (dIx (.lst xs) y)
theorem de_ixO (i:Nat) {px:Pos} (hb:DE X b fb) (hN:X.N[i]? = some x := by rfl) (hv:Vis X.env.scope x := by first | exact Or.inl rfl | exact Or.inr (Or.inl rfl) | exact Or.inr (Or.inr rfl)) (hd:(x == ("__debug__":Str)) = false := by decide) (hcd:(x == ("__classdict__":Str)) = false := by decide)
  (hs:PlainIx b := by exact fun _ _ => rfl):DE X (.Subscript (.Name x px) b pos) (mIxO i fb) := peOf (pe_ix ix_list (pe_var hN hv hd hcd) hb hs) fun σ H Q ⟨c,δ,S,T,fl,δ',s,e,k⟩ => by
 obtain ⟨xs0,δ0,e0,e⟩ := bind_some e
 obtain ⟨⟨b0,hi0⟩,rfl⟩ := peekO_some e0
 obtain ⟨q,vs0,eq,hq,_⟩ := s.own hi0
 obtain ⟨y,δ1,e1,e⟩ := bind_some e
 obtain ⟨xs,δ2,e2,e⟩ := bind_some e
 obtain ⟨⟨b1,hi1⟩,rfl⟩ := peekO_some e2
 obtain ⟨e3,rfl⟩ := lift_some e
 refine ⟨_,eq,c,δ,S,T,y,δ1,s,e1,fun u H2 s2 => ?_⟩
 obtain ⟨q',ws,eq',hq',hx⟩ := s2.own hi1
 rw [eq] at eq'; cases eq'
 cases y with
 | int j =>
  have e':atI xs j = some fl := e3
  obtain ⟨z,e4,r⟩ := atI_rs hx e'
  exact ⟨q,ws,j,z,rfl,s2.st.head.int,.of hq',e4,k _ _ (s2.stk (.cons r s2.st.tail))⟩
 | _ => cases e3
noncomputable def mLenO (i:Nat):M D := do
 let xs <- peekO i
 pure (.int xs.length)
theorem de_lenO (i:Nat) {px:Pos} (hm:X.mg "len" = none) (hg:Gl X "len" := by rfl) (hN:X.N[i]? = some x := by rfl) (hv:Vis X.env.scope x := by first | exact Or.inl rfl | exact Or.inr (Or.inl rfl) | exact Or.inr (Or.inr rfl)) (hd:(x == ("__debug__":Str)) = false := by decide) (hcd:(x == ("__classdict__":Str)) = false := by decide) :
  DE X (.Call (.Name "len" p) [.Name x px] [] pos) (mLenO i) := peOf (pe_callB call_len_seq hg hm PySem.boot_len (pa_cons (pe_var hN hv hd hcd) pa_nil) (by decide) (by decide) rfl rfl) fun σ H Q ⟨c,δ,S,T,fl,δ',s,e,k⟩ => by
 obtain ⟨xs,δ1,e1,e⟩ := bind_some e
 obtain ⟨rfl,rfl⟩ := pure_some e
 obtain ⟨⟨b1,hi1⟩,rfl⟩ := peekO_some e1
 obtain ⟨q,ws,eq,hq,hx⟩ := s.own hi1
 refine ⟨_,eq,q,ws,rfl,.inl (.of hq),k _ _ (s.stk (.cons ?_ s.st))⟩
 rw [hx.length]; exact .mkI
theorem de_len (hm:X.mg "len" = none) (ha:DA X [a] fs) (hg:Gl X "len" := by rfl) (he:starEach [a] X.env = [(false,eval a X.env)] := by rfl):DE X (.Call (.Name "len" p) [a] [] pos) (mC dLen fs) :=
 de_callB call_len_seq cd_len hg hm PySem.boot_len ha (by decide) (by decide) he rfl
theorem bools_get:∀ {bs:List Bool} {its:List Value} {i:Nat} {v:Value},Vals (bs.map V.bl) its -> its[i]? = some v -> ∃ b,bs[i]? = some b ∧ v = .bool b := fun {bs its i v} h e => by
 have hl := h.length
 rw [List.length_map] at hl
 have hi:i < bs.length := by rw [hl]; exact (List.getElem?_eq_some_iff.mp e).1
 obtain ⟨u,eu,r⟩ := h.get (i := i) (x := V.bl bs[i]) (by rw [List.getElem?_map,List.getElem?_eq_getElem hi]; rfl)
 rw [e] at eu; cases eu
 exact ⟨bs[i],List.getElem?_eq_getElem hi,r⟩
theorem range_allB (bs:List Bool):((List.range bs.length).all fun i => (bs[i]?).getD true) = bs.all id:= by
 rw [Bool.eq_iff_iff,List.all_eq_true,List.all_eq_true]
 constructor
 ·intro h b hb
  obtain ⟨i,hi,rfl⟩ := List.getElem_of_mem hb
  simpa [List.getElem?_eq_getElem hi] using h i (List.mem_range.mpr hi)
 ·intro h i hi
  have hi' := List.mem_range.mp hi
  simpa [List.getElem?_eq_getElem hi'] using h _ (List.getElem_mem hi')
theorem range_anyB (bs:List Bool):((List.range bs.length).any fun i => (bs[i]?).getD false) = bs.any id:= by
 rw [Bool.eq_iff_iff,List.any_eq_true,List.any_eq_true]
 constructor
 ·rintro ⟨i,hi,e⟩
  have hi' := List.mem_range.mp hi
  exact ⟨_,List.getElem_mem hi',by simpa [List.getElem?_eq_getElem hi'] using e⟩
 ·rintro ⟨b,hb,e⟩
  obtain ⟨i,hi,rfl⟩ := List.getElem_of_mem hb
  exact ⟨i,List.mem_range.mpr hi,by simpa [List.getElem?_eq_getElem hi] using e⟩
theorem call_all (hc:X.calm = true):CallR X (.builtin "all") (fun xs H Q => ∃ (p:Addr) (bs:List Bool),xs = [.ref p] ∧ SqL X.K H p (bs.map V.bl) ∧ Q (.bl (bs.all id)) H):= by
 intro pins s σ H xs us Q I r h
 obtain ⟨p,bs,rfl,hq,q⟩ := h
 obtain ⟨u,rfl,rx⟩ := r.one
 cases rx
 obtain ⟨its,rv,pl,hz⟩ := I.list hq
 have hlt:p < s.heap.objs.size := by obtain ⟨_,e,_⟩ := pl.isList; exact Heap.lt_size e
 refine call_all_walk (wpAny_pyIter_list pl.isList ?_)
 refine ⟨s.heap.objs.size,[s.heap.objs.size,p],[s.heap.objs.size],its.toArray.size,_,_,fun i => (bs[i]?).getD true,rfl,Walks.list (A := X.A.in1) (I.ok.hd hc) _ p (Nat.ne_of_lt hlt) its.toArray,
  ⟨⟨_,Heap.get?_push_size _ rfl,rfl,rfl⟩,pl.isList.push _⟩,fun i v s' Q' E' hP hQ => ?_,fun h' tk hk => ?_⟩
 ·obtain ⟨b,e,rfl⟩ := bools_get rv (by simpa using hP)
  simp only [e,Option.getD_some] at hQ
  exact wpAny_truthy_bool hQ
 ·have e:((List.range its.toArray.size).all fun i => (bs[i]?).getD true) = bs.all id:= by
   rw [List.size_toArray,<- rv.length,List.length_map]; exact range_allB bs
  rw [e]
  exact ⟨.bl _,H,I.kept fun b o eb => hk b o (fun hm => absurd (Heap.lt_size eb) (by rw [List.mem_singleton.mp hm]; exact Nat.lt_irrefl _)) (Heap.get?_push_of_some _ eb),rfl,q⟩
theorem call_any (hc:X.calm = true):CallR X (.builtin "any") (fun xs H Q => ∃ (p:Addr) (bs:List Bool),xs = [.ref p] ∧ SqL X.K H p (bs.map V.bl) ∧ Q (.bl (bs.any id)) H):= by
 intro pins s σ H xs us Q I r h
 obtain ⟨p,bs,rfl,hq,q⟩ := h
 obtain ⟨u,rfl,rx⟩ := r.one
 cases rx
 obtain ⟨its,rv,pl,hz⟩ := I.list hq
 have hlt:p < s.heap.objs.size := by obtain ⟨_,e,_⟩ := pl.isList; exact Heap.lt_size e
 refine call_any_walk (wpAny_pyIter_list pl.isList ?_)
 refine ⟨s.heap.objs.size,[s.heap.objs.size,p],[s.heap.objs.size],its.toArray.size,_,_,fun i => (bs[i]?).getD false,rfl,Walks.list (A := X.A.in1) (I.ok.hd hc) _ p (Nat.ne_of_lt hlt) its.toArray,
  ⟨⟨_,Heap.get?_push_size _ rfl,rfl,rfl⟩,pl.isList.push _⟩,fun i v s' Q' E' hP hQ => ?_,fun h' tk hk => ?_⟩
 ·obtain ⟨b,e,rfl⟩ := bools_get rv (by simpa using hP)
  simp only [e,Option.getD_some] at hQ
  exact wpAny_truthy_bool hQ
 ·have e:((List.range its.toArray.size).any fun i => (bs[i]?).getD false) = bs.any id:= by
   rw [List.size_toArray,<- rv.length,List.length_map]; exact range_anyB bs
  rw [e]
  exact ⟨.bl _,H,I.kept fun b o eb => hk b o (fun hm => absurd (Heap.lt_size eb) (by rw [List.mem_singleton.mp hm]; exact Nat.lt_irrefl _)) (Heap.get?_push_of_some _ eb),rfl,q⟩
noncomputable def boolsOf:List D -> Option (List Bool)
 | [] => some []
 | .bl b :: r => (boolsOf r).map (b :: ·)
 | _ => none
theorem rs_bools {H:Hp}:∀ {ds:List D} {vs:List V} {bs:List Bool},Rs H ds vs -> boolsOf ds = some bs -> vs = bs.map V.bl
 | [],vs,bs,h,e => by cases e; exact h.inv0
 | d :: ds,vs,bs,h,e => by
  obtain ⟨v,r,ev,h1,h2⟩ := h.inv
  cases d with
  | bl b =>
   unfold boolsOf at e
   cases q:boolsOf ds with
   | none => rw [q] at e; cases e
   | some bs' =>
    rw [q] at e; cases e
    rw [ev,h1.bl,rs_bools h2 q]; rfl
  | _ => cases e
noncomputable def dAll:List D -> Option D
 | [.lst ds] => (boolsOf ds).map fun bs => .bl (bs.all id)
 | _ => none
noncomputable def dAny:List D -> Option D
 | [.lst ds] => (boolsOf ds).map fun bs => .bl (bs.any id)
 | _ => none
theorem cd_quant {K:PySem.W.Frag} (g:List Bool -> Bool) (f:List D -> Option D) (hf:∀ ds d,f ds = some d -> ∃ es bs,ds = [.lst es] ∧ boolsOf es = some bs ∧ d = .bl (g bs)) :
  CallD (fun xs H Q => ∃ (p:Addr) (bs:List Bool),xs = [.ref p] ∧ SqL K H p (bs.map V.bl) ∧ Q (.bl (g bs)) H) f := fun c δ S σ T H ds vs d Q l s e k => by
 obtain ⟨es,bs,rfl,e2,rfl⟩ := hf _ _ e
 have h := s.st.left l
 have h2 := s.st.right l
 obtain ⟨v,rfl,r⟩ := rs1 h
 obtain ⟨p,ws,rfl,h1,h3⟩ := r.lst
 have := rs_bools h3 e2
 subst this
 exact ⟨p,bs,rfl,.inl (Rd.mono hid_le h1),k _ _ (s.stk (.cons .mkB h2))⟩
theorem dAll_some (ds:List D) (d:D) (h:dAll ds = some d):∃ es bs,ds = [.lst es] ∧ boolsOf es = some bs ∧ d = .bl (bs.all id):= by
 unfold dAll at h
 split at h
 ·rename_i es
  cases q:boolsOf es with
  | none => rw [q] at h; cases h
  | some bs => rw [q] at h; cases h; exact ⟨es,bs,rfl,q,rfl⟩
 ·cases h
theorem dAny_some (ds:List D) (d:D) (h:dAny ds = some d):∃ es bs,ds = [.lst es] ∧ boolsOf es = some bs ∧ d = .bl (bs.any id):= by
 unfold dAny at h
 split at h
 ·rename_i es
  cases q:boolsOf es with
  | none => rw [q] at h; cases h
  | some bs => rw [q] at h; cases h; exact ⟨es,bs,rfl,q,rfl⟩
 ·cases h
theorem de_all (hm:X.mg "all" = none) (ha:DA X [a] fs) (hg:Gl X "all" := by rfl) (hc:X.calm = true := by rfl) (he:starEach [a] X.env = [(false,eval a X.env)] := by rfl):DE X (.Call (.Name "all" p) [a] [] pos) (mC dAll fs) :=
 de_callB (call_all hc) (cd_quant _ dAll dAll_some) hg hm PyProof.Rows.boot_all ha (by decide) (by decide) he rfl
theorem de_any (hm:X.mg "any" = none) (ha:DA X [a] fs) (hg:Gl X "any" := by rfl) (hc:X.calm = true := by rfl) (he:starEach [a] X.env = [(false,eval a X.env)] := by rfl):DE X (.Call (.Name "any" p) [a] [] pos) (mC dAny fs) :=
 de_callB (call_any hc) (cd_quant _ dAny dAny_some) hg hm PyProof.Rows.boot_any ha (by decide) (by decide) he rfl
theorem de_callTy {T:String} {r:List V -> Hp -> VK -> Prop} {f:List D -> Option D} (hc:CallR X (.type T) r) (hd:CallD r f) (hg:Gl X x) (hm:X.mg x = none) (hv:bootBuiltins x = some (.type T)) (ha:DA X (a :: es) fs) (hn:x ≠ "__name__" := by decide) (hdb:(x == ("__debug__":Str)) = false := by decide)
  (he:starEach (a :: es) X.env = (false,eval a X.env) :: starEach es X.env := by rfl) (hpl:(backTo pos (starEach es X.env)).any (·.1) = false := by rfl):DE X (.Call (.Name x p) (a :: es) [] pos) (mC f fs) :=
 peOf (pe_callTy hc hg hm hv ha hn hdb he hpl) (tCBof hd)
noncomputable def seqD:D -> Option (List D)
 | .tup ds => some ds
 | .lst ds => some ds
 | _ => none
noncomputable def dTuple:List D -> Option D
 | [x] => (seqD x).map .tup
 | _ => none
theorem cd_tuple {K:PySem.W.Frag}:CallD (fun xs H Q => ∃ p ys,xs = [.ref p] ∧ ((SqL K H p ys ∧ ∀ l,H l = none -> Q (.ref l) (upd H l (.tup ys))) ∨ (SqT K H p ys ∧ Q (.ref p) H))) dTuple := fun c δ S σ T H ds vs d Q l s e k => by
 unfold dTuple at e
 split at e
 ·rename_i x
  have h := s.st.left l
  have h2 := s.st.right l
  obtain ⟨v,rfl,r⟩ := rs1 h
  cases x with
  | tup es =>
   cases e
   obtain ⟨p,ws,rfl,h1,h3⟩ := r.tup
   exact ⟨p,ws,rfl,.inr ⟨.of (hid_le _ _ h1),k _ _ (s.stk (.cons (.mkT h1 h3) h2))⟩⟩
  | lst es =>
   cases e
   obtain ⟨p,ws,rfl,h1,h3⟩ := r.lst
   exact ⟨p,ws,rfl,.inl ⟨.inl (Rd.mono hid_le h1),fun q hq => k _ _ ((s.stk (h3.append h2)).newTup h3.length hq)⟩⟩
  | _ => cases e
 ·cases e
theorem de_tuple (hm:X.mg "tuple" = none) (ha:DA X [a] fs) (hg:Gl X "tuple" := by rfl) (he:starEach [a] X.env = [(false,eval a X.env)] := by rfl):DE X (.Call (.Name "tuple" p) [a] [] pos) (mC dTuple fs) :=
 de_callTy call_tuple_of cd_tuple hg hm (by decide +kernel) ha (by decide) (by decide) he rfl
noncomputable def flat:D -> Option V
 | .non => some .non
 | .bl b => some (.bl b)
 | .int i => some (.int i)
 | .str x => some (.str x)
 | _ => none
theorem flat_of {H:Hp} {d:D} {v u:V} (r:R H d v) (e:flat d = some u):v = u ∧ flatV u = true:= by
 cases d with
 | non => cases e; exact ⟨r.non,rfl⟩
 | bl b => cases e; exact ⟨r.bl,rfl⟩
 | int b => cases e; exact ⟨r.int,rfl⟩
 | str b => cases e; exact ⟨r.str,rfl⟩
 | _ => cases e
noncomputable def flats:List D -> Option (List V)
 | [] => some []
 | d :: ds => match flat d,flats ds with
  | some v,some vs => some (v :: vs)
  | _,_ => none
theorem flats_of {H:Hp}:∀ {ds:List D} {vs us:List V},Rs H ds vs -> flats ds = some us -> vs = us ∧ us.all flatV = true
 | [],vs,us,h,e => by cases e; exact ⟨h.inv0,rfl⟩
 | d :: ds,vs,us,h,e => by
  obtain ⟨v,r,ev,h1,h2⟩ := h.inv
  unfold flats at e
  split at e
  ·rename_i w ws e1 e2
   cases e
   obtain ⟨a1,a2⟩ := flat_of h1 e1
   obtain ⟨b1,b2⟩ := flats_of h2 e2
   refine ⟨by rw [ev,a1,b1],?_⟩
   rw [List.all_cons,a2,b2]; rfl
  ·cases e
noncomputable def dIn (neg:Bool) (x y:D):Option D := match flat x,seqD y with
 | some v,some ds => (flats ds).map fun vs => .bl (if neg then !inV v vs else inV v vs)
 | _,_ => none
theorem opd_in {K:PySem.W.Frag} {neg:Bool}:OpD (rIn K neg) (dIn neg) := fun c δ S σ T H x y v u d Q s e k => by
 unfold dIn at e
 split at e
 ·rename_i w ds e1 e2
  cases e3:flats ds with
  | none => rw [e3] at e; cases e
  | some vs =>
   rw [e3] at e; cases e
   obtain ⟨rfl,f1⟩ := flat_of s.st.tail.head e1
   cases y with
   | tup es =>
    cases e2
    obtain ⟨p,ws,rfl,h1,h3⟩ := s.st.head.tup
    obtain ⟨rfl,f2⟩ := flats_of h3 e3
    exact ⟨p,ws,rfl,.inr (.of (hid_le _ _ h1)),f1,f2,k _ _ (s.stk (.cons .mkB s.st.tail.tail))⟩
   | lst es =>
    cases e2
    obtain ⟨p,ws,rfl,h1,h3⟩ := s.st.head.lst
    obtain ⟨rfl,f2⟩ := flats_of h3 e3
    exact ⟨p,ws,rfl,.inl (.inl (Rd.mono hid_le h1)),f1,f2,k _ _ (s.stk (.cons .mkB s.st.tail.tail))⟩
   | _ => cases e2
 ·cases e
theorem de_in (ha:DE X a fa) (hb:DE X b fb) (hm:behindInMarks .In b = false := by rfl):DE X (.Compare a [.In] [b] pos) (m2 (dIn false) fa fb) := de_cmp op_in_seq opd_in ha hb hm
theorem dt_in (ha:DE X a fa) (hb:DE X b fb) (hm:behindInMarks .In b = false := by rfl):DT X (.Compare a [.In] [b] pos) (m2 (dIn false) fa fb >>= asB) := dt_cmp op_in_seq opd_in ha hb hm
theorem dt_notIn (ha:DE X a fa) (hb:DE X b fb) (hm:behindInMarks .NotIn b = false := by rfl):DT X (.Compare a [.NotIn] [b] pos) (m2 (dIn true) fa fb >>= asB) := dt_cmp op_notIn_seq opd_in ha hb hm
noncomputable def dEqF (neg:Bool) (x y:D):Option D := match flat x,flat y with
 | some v,some u => if scal v u = true then some (.bl (if neg then !decide (v = u) else decide (v = u))) else none
 | _,_ => none
theorem opd_eqF:OpD rEq (dEqF false) := fun c δ S σ T H x y v u d Q s e k => by
 unfold dEqF at e
 split at e
 ·rename_i w z e1 e2
  split at e
  ·rename_i hs
   cases e
   obtain ⟨rfl,_⟩ := flat_of s.st.tail.head e1
   obtain ⟨rfl,_⟩ := flat_of s.st.head e2
   exact ⟨hs,k _ _ (s.stk (.cons .mkB s.st.tail.tail))⟩
  ·cases e
 ·cases e
theorem opd_neF:OpD rNe (dEqF true) := fun c δ S σ T H x y v u d Q s e k => by
 unfold dEqF at e
 split at e
 ·rename_i w z e1 e2
  split at e
  ·rename_i hs
   cases e
   obtain ⟨rfl,_⟩ := flat_of s.st.tail.head e1
   obtain ⟨rfl,_⟩ := flat_of s.st.head e2
   exact ⟨hs,k _ _ (s.stk (.cons .mkB s.st.tail.tail))⟩
  ·cases e
 ·cases e
theorem de_eqF (ha:DE X a fa) (hb:DE X b fb):DE X (.Compare a [.Eq] [b] pos) (m2 (dEqF false) fa fb) := de_cmp op_eq opd_eqF ha hb
theorem dt_eqF (ha:DE X a fa) (hb:DE X b fb):DT X (.Compare a [.Eq] [b] pos) (m2 (dEqF false) fa fb >>= asB) := dt_cmp op_eq opd_eqF ha hb
theorem dt_neF (ha:DE X a fa) (hb:DE X b fb):DT X (.Compare a [.NotEq] [b] pos) (m2 (dEqF true) fa fb >>= asB) := dt_cmp op_ne opd_neF ha hb
end
end Jt
namespace Jt
open PySem L2
section
variable {X:Cx} {a b e:Expr} {fa fb:M D} {fs:M (List D)} {fF:M (List D)} {pos p apos cpos:Pos} {es rest:List Expr} {x:Str}
noncomputable def dMin:List D -> Option D
 | [.int i,.int j] => some (.int (if j < i then j else i))
 | _ => none
noncomputable def dMax:List D -> Option D
 | [.int i,.int j] => some (.int (if j > i then j else i))
 | _ => none
theorem cd_ii (g:Int -> Int -> Int) (f:List D -> Option D) (hf:∀ ds d,f ds = some d -> ∃ i j,ds = [.int i,.int j] ∧ d = .int (g i j)):CallD (fun xs H Q => ∃ i j,xs = [.int i,.int j] ∧ Q (.int (g i j)) H) f := fun c δ S σ T H ds vs d Q l s e k => by
 obtain ⟨i,j,rfl,rfl⟩ := hf _ _ e
 obtain ⟨v,u,rfl,r1,r2⟩ := rs2 (s.st.left l)
 cases r1.int
 cases r2.int
 exact ⟨i,j,rfl,k _ _ (s.stk (.cons .mkI (s.st.right l)))⟩
theorem dMin_some (ds:List D) (d:D) (h:dMin ds = some d):∃ i j,ds = [.int i,.int j] ∧ d = .int (if j < i then j else i):= by
 unfold dMin at h
 split at h
 ·cases h; exact ⟨_,_,rfl,rfl⟩
 ·cases h
theorem dMax_some (ds:List D) (d:D) (h:dMax ds = some d):∃ i j,ds = [.int i,.int j] ∧ d = .int (if j > i then j else i):= by
 unfold dMax at h
 split at h
 ·cases h; exact ⟨_,_,rfl,rfl⟩
 ·cases h
theorem de_min (hm:X.mg "min" = none) (ha:DA X [a,b] fs) (hg:Gl X "min" := by rfl) (hc:X.calm = true := by rfl) (he:starEach [a,b] X.env = (false,eval a X.env) :: starEach [b] X.env := by rfl) (hp:(backTo pos (starEach [b] X.env)).any (·.1) = false := by rfl):DE X (.Call (.Name "min" p) [a,b] [] pos) (mC dMin fs) :=
 de_callB (call_min2 hc) (cd_ii _ dMin dMin_some) hg hm (by decide +kernel) ha (by decide) (by decide) he hp
theorem de_max (hm:X.mg "max" = none) (ha:DA X [a,b] fs) (hg:Gl X "max" := by rfl) (hc:X.calm = true := by rfl) (he:starEach [a,b] X.env = (false,eval a X.env) :: starEach [b] X.env := by rfl) (hp:(backTo pos (starEach [b] X.env)).any (·.1) = false := by rfl):DE X (.Call (.Name "max" p) [a,b] [] pos) (mC dMax fs) :=
 de_callB (call_max2 hc) (cd_ii _ dMax dMax_some) hg hm (by decide +kernel) ha (by decide) (by decide) he hp
noncomputable def xOr (fa fb:M D):M D := do
 let v <- fa
 let t <- lift (truD v)
 if t = true then pure v else fb
theorem de_orX (ha:DE X a fa) (hb:DE X (.BoolOp .Or (b :: rest) pos) fb):DE X (.BoolOp .Or (a :: b :: rest) pos) (xOr fa fb) := fun pins s σ H Q I ⟨c,δ,S,T,d,δ',sl,e,k⟩ => by
 obtain ⟨v,δ1,e1,e⟩ := bind_some e
 obtain ⟨t,δ2,e2,e⟩ := bind_some e
 obtain ⟨e3,rfl⟩ := lift_some e2
 refine PyProof.Rows.BoolOp_or (thn (ha pins s σ H (fun y H1 => Sl c δ1 (v :: S) σ (y :: T) H1) I ⟨c,δ,S,T,v,δ1,sl,e1,fun y H1 s1 => s1⟩) fun u s1 ⟨y,H1,I1,r1,q1⟩ => ?_)
 refine thn (tru_ok pins s1 σ H1 y u (fun k' H2 => k' = t ∧ H2 = H1) I1 r1 ⟨t,truV_of hid_le q1.st.head e3,rfl,rfl⟩) fun k' s2 ⟨H2,I2,ek,eH⟩ => ?_
 subst ek eH
 cases k' with
 | true =>
  rw [if_pos rfl] at e
  obtain ⟨rfl,rfl⟩ := pure_some e
  rw [if_pos rfl]
  exact ⟨y,H2,I2,r1,k _ _ q1⟩
 | false =>
  rw [if_neg Bool.false_ne_true] at e
  rw [if_neg Bool.false_ne_true]
  exact hb pins s2 σ H2 Q I2 ⟨c,δ1,S,T,d,δ',q1.pop,e,k⟩
noncomputable def dCatT:D -> D -> Option D
 | .tup (x :: xs),.tup ys => if xs.length + 1 + ys.length ≤ 100000 then some (.tup ((x :: xs) ++ ys)) else none
 | _,_ => none
noncomputable def eqD:Nat -> D -> D -> Option Bool
 | 0,_,_ => none
 | n + 1,.tup xs,.tup ys => (go n xs ys).map fun b => b && xs.length == ys.length
 | n + 1,.lst xs,.lst ys => if xs.length = ys.length then go n xs ys else some false
 | _ + 1,x,y => match flat x,flat y with
  | some v,some u => some (eqV v u)
  | _,_ => none
where
 go (n:Nat):List D -> List D -> Option Bool
  | x :: xs,y :: ys => match eqD n x y,go n xs ys with
   | some a,some b => some (a && b)
   | _,_ => none
  | _,_ => some true
mutual
theorem R.inj {H:Hp}:∀ (x y:D) (v:V),R H x v -> R H y v -> x = y
 | .non,y,v,h,g => by
  cases h.non
  cases y with
  | non => rfl
  | bl b => cases g.bl
  | int b => cases g.int
  | str b => cases g.str
  | tup b => obtain ⟨_,_,e,_⟩ := g.tup; cases e
  | lst b => obtain ⟨_,_,e,_⟩ := g.lst; cases e
  | dct => obtain ⟨_,e,_⟩ := g.dct; cases e
 | .bl x,y,v,h,g => by
  cases h.bl
  cases y with
  | non => cases g.non
  | bl b => cases g.bl; rfl
  | int b => cases g.int
  | str b => cases g.str
  | tup b => obtain ⟨_,_,e,_⟩ := g.tup; cases e
  | lst b => obtain ⟨_,_,e,_⟩ := g.lst; cases e
  | dct => obtain ⟨_,e,_⟩ := g.dct; cases e
 | .int x,y,v,h,g => by
  cases h.int
  cases y with
  | non => cases g.non
  | bl b => cases g.bl
  | int b => cases g.int; rfl
  | str b => cases g.str
  | tup b => obtain ⟨_,_,e,_⟩ := g.tup; cases e
  | lst b => obtain ⟨_,_,e,_⟩ := g.lst; cases e
  | dct => obtain ⟨_,e,_⟩ := g.dct; cases e
 | .str x,y,v,h,g => by
  cases h.str
  cases y with
  | non => cases g.non
  | bl b => cases g.bl
  | int b => cases g.int
  | str b => cases g.str; rfl
  | tup b => obtain ⟨_,_,e,_⟩ := g.tup; cases e
  | lst b => obtain ⟨_,_,e,_⟩ := g.lst; cases e
  | dct => obtain ⟨_,e,_⟩ := g.dct; cases e
 | .tup xs,y,v,h,g => by
  obtain ⟨a,vs,rfl,h1,h2⟩ := h.tup
  cases y with
  | non => cases g.non
  | bl b => cases g.bl
  | int b => cases g.int
  | str b => cases g.str
  | tup ys =>
   obtain ⟨a',vs',e,g1,g2⟩ := g.tup
   cases e
   rw [h1] at g1; cases g1
   rw [Rs.inj xs ys vs h2 g2]
  | lst ys =>
   obtain ⟨a',vs',e,g1,g2⟩ := g.lst
   cases e
   rcases g1 with g1 | ⟨o,g1⟩ <;> (rw [h1] at g1; cases g1)
  | dct =>
   obtain ⟨a',e,g1⟩ := g.dct
   cases e
   rw [h1] at g1; cases g1
 | .lst xs,y,v,h,g => by
  obtain ⟨a,vs,rfl,h1,h2⟩ := h.lst
  cases y with
  | non => cases g.non
  | bl b => cases g.bl
  | int b => cases g.int
  | str b => cases g.str
  | tup ys =>
   obtain ⟨a',vs',e,g1,g2⟩ := g.tup
   cases e
   rcases h1 with h1 | ⟨o,h1⟩ <;> (rw [h1] at g1; cases g1)
  | lst ys =>
   obtain ⟨a',vs',e,g1,g2⟩ := g.lst
   cases e
   have:vs' = vs:= by
    rcases h1 with h1 | ⟨o,h1⟩ <;> rcases g1 with g1 | ⟨o',g1⟩ <;> (rw [h1] at g1; first | (cases g1; rfl) | cases g1)
   subst this
   rw [Rs.inj xs ys _ h2 g2]
  | dct =>
   obtain ⟨a',e,g1⟩ := g.dct
   cases e
   rcases h1 with h1 | ⟨o,h1⟩ <;> (rw [h1] at g1; cases g1)
 | .dct,y,v,h,g => by
  obtain ⟨a,rfl,h1⟩ := h.dct
  cases y with
  | non => cases g.non
  | bl b => cases g.bl
  | int b => cases g.int
  | str b => cases g.str
  | tup ys =>
   obtain ⟨a',vs',e,g1,g2⟩ := g.tup
   cases e
   rw [h1] at g1; cases g1
  | lst ys =>
   obtain ⟨a',vs',e,g1,g2⟩ := g.lst
   cases e
   rcases g1 with g1 | ⟨o,g1⟩ <;> (rw [h1] at g1; cases g1)
  | dct => rfl
theorem Rs.inj {H:Hp}:∀ (xs ys:List D) (vs:List V),Rs H xs vs -> Rs H ys vs -> xs = ys
 | [],ys,vs,h,g => by
  cases h.inv0
  cases ys with
  | nil => rfl
  | cons y ys => obtain ⟨_,_,e,_⟩ := g.inv; cases e
 | x :: xs,ys,vs,h,g => by
  obtain ⟨v,r,rfl,h1,h2⟩ := h.inv
  cases ys with
  | nil => cases g.inv0
  | cons y ys => rw [R.inj x y v h1 g.head,Rs.inj xs ys r h2 g.tail]
end
theorem eqD_go {n:Nat}:∀ {xs ys:List D} {b:Bool},eqD.go n xs ys = some b -> ∃ e:Nat -> Bool,(∀ (j:Nat) x y,xs[j]? = some x -> ys[j]? = some y -> eqD n x y = some (e j)) ∧ b = (List.range (min xs.length ys.length)).all e
 | [],ys,b,h => by
  unfold eqD.go at h
  cases h; exact ⟨fun _ => true,fun j x y h1 => by simp at h1,by simp⟩
 | x :: xs,[],b,h => by
  unfold eqD.go at h
  cases h; exact ⟨fun _ => true,fun j x y h1 h2 => by simp at h2,by simp⟩
 | x :: xs,y :: ys,b,h => by
  unfold eqD.go at h
  split at h
  ·rename_i b1 b2 e1 e2
   cases h
   obtain ⟨e,he,hb⟩ := eqD_go e2
   refine ⟨fun j => match j with | 0 => b1 | j + 1 => e j,fun j x' y' h1 h2 => ?_,?_⟩
   ·cases j with
    | zero => cases h1; cases h2; exact e1
    | succ j => exact he j x' y' (by simpa using h1) (by simpa using h2)
   ·rw [List.length_cons,List.length_cons,Nat.add_min_add_right,List.range_succ_eq_map,List.all_cons,List.all_map,hb]; rfl
  ·cases h
theorem eqV_refl {v:V} (h:flatV v = true):eqV v v = true:= by
 cases v with
 | non => rfl
 | bl b => cases b <;> rfl
 | int i => exact beq_self_eq_true i
 | str x => exact beq_self_eq_true x
 | _ => cases h
theorem eqD_refl:∀ (n:Nat) (x:D) (b:Bool),eqD n x x = some b -> b = true:= by
 intro n
 induction n with
 | zero => intro x b h; simp [eqD] at h
 | succ n ih =>
  have go:∀ (xs:List D) (b:Bool),eqD.go n xs xs = some b -> b = true := fun xs b h => by
   obtain ⟨e,he,hb⟩ := eqD_go h
   rw [Nat.min_self] at hb
   subst hb
   rw [List.all_eq_true]
   intro j hj
   have hj' := List.mem_range.mp hj
   exact ih _ _ (he j _ _ (List.getElem?_eq_getElem hj') (List.getElem?_eq_getElem hj'))
  intro x b h
  cases x with
  | tup xs =>
   unfold eqD at h
   cases q:eqD.go n xs xs with
   | none => rw [q] at h; cases h
   | some b' => rw [q] at h; cases h; rw [go xs b' q]; simp
  | lst xs => unfold eqD at h; rw [if_pos rfl] at h; exact go xs b h
  | non => simp [eqD,flat] at h; rw [<- h]; exact eqV_refl rfl
  | bl q => simp [eqD,flat] at h; rw [<- h]; exact eqV_refl rfl
  | int q => simp [eqD,flat] at h; rw [<- h]; exact eqV_refl rfl
  | str q => simp [eqD,flat] at h; rw [<- h]; exact eqV_refl rfl
  | dct => simp [eqD,flat] at h
open SeqAt in
theorem eqAt_D {pins:List (Addr × Obj)} {σ:St} {H Hh:Hp} {s:Shared} (I:Inv X pins σ H s) (m:∀ b o,Hh b = some o -> H b = some o):∀ (n:Nat) (A:Around),A.units + n < cLine -> ∀ (x y:D) (v w:V) (u z:Value) (b:Bool),R Hh x v -> R Hh y w -> RelV v u -> RelV w z -> eqD n x y = some b ->
  EqAt A s u z b ∧ ((∃ xs,x = .tup xs ∨ x = .lst xs) -> RcAt A s u z b):= by
 intro n
 induction n with
 | zero => intro A _ x y v w u z b _ _ _ _ h; simp [eqD] at h
 | succ n ih =>
  intro A hu x y v w u z b rx ry ru rz h
  have hu':A.units < cLine := by omega
  -- the items
  have items:∀ {xs ys:List D} {vs ws:List V} {is js:List Value} {e:Nat -> Bool},Rs Hh xs vs -> Rs Hh ys ws -> Vals vs is -> Vals ws js -> (∀ (j:Nat) x y,xs[j]? = some x -> ys[j]? = some y -> eqD n x y = some (e j)) ->
    ∀ j (h1:j < is.toArray.size) (h2:j < js.toArray.size),EqAt A.in1 s is.toArray[j] js.toArray[j] (e j) := fun {xs ys vs ws is js e} r1 r2 v1 v2 he j h1 h2 => by
   have l1:j < xs.length := by rw [<- r1.length,v1.length]; simpa using h1
   have l2:j < ys.length := by rw [<- r2.length,v2.length]; simpa using h2
   obtain ⟨v',e1,q1⟩ := r1.get (List.getElem?_eq_getElem l1)
   obtain ⟨w',e2,q2⟩ := r2.get (List.getElem?_eq_getElem l2)
   obtain ⟨u',e3,q3⟩ := v1.get e1
   obtain ⟨z',e4,q4⟩ := v2.get e2
   have := (ih A.in1 (by show A.units + 1 + n < _; omega) _ _ v' w' u' z' (e j) q1 q2 q3 q4 (he j _ _ (List.getElem?_eq_getElem l1) (List.getElem?_eq_getElem l2))).1
   have a1:is.toArray[j] = u':= by
    have := (List.getElem?_eq_some_iff.mp e3).2
    simpa using this
   have a2:js.toArray[j] = z':= by
    have := (List.getElem?_eq_some_iff.mp e4).2
    simpa using this
   rw [a1,a2]; exact this
  -- equal addresses or not
  have refs:∀ {l k:Addr},u = .ref l -> z = .ref k -> v = .ref l -> w = .ref k -> RcAt A s u z b -> EqAt A s u z b := fun {l k} eu ez ev ew rc => by
   by_cases hlk:l = k
   ·subst hlk
    rw [ev] at rx; rw [ew] at ry
    have := R.inj x y _ rx ry
    subst this
    rw [eqD_refl _ _ _ h,eu,ez]
    exact EqAt.same _
   ·rw [eu,ez] at rc ⊢; exact EqAt.of_refs hlk rc
  have flatCase:∀ {p q:V},flat x = some p -> flat y = some q -> b = eqV p q -> EqAt A s u z b := fun {p q} e1 e2 eb => by
   obtain ⟨rfl,f1⟩ := flat_of rx e1
   obtain ⟨rfl,f2⟩ := flat_of ry e2
   rw [eb]; exact eqAt_V ru rz f1 f2
  have flatAll:(∀ xs,x ≠ .tup xs) -> (∀ xs,x ≠ .lst xs) -> ∀ p,flat x = some p -> EqAt A s u z b := fun _ _ p e1 => by
   cases y with
   | tup ys => cases x <;> first | (simp [eqD,flat] at h; done) | (cases e1; done)
   | lst ys => cases x <;> first | (simp [eqD,flat] at h; done) | (cases e1; done)
   | dct => cases x <;> first | (simp [eqD,flat] at h; done) | (cases e1; done)
   | non => exact flatCase e1 rfl (by cases x <;> first | (cases e1; simpa [eqD,flat] using h.symm) | cases e1)
   | bl q => exact flatCase e1 rfl (by cases x <;> first | (cases e1; simpa [eqD,flat] using h.symm) | cases e1)
   | int q => exact flatCase e1 rfl (by cases x <;> first | (cases e1; simpa [eqD,flat] using h.symm) | cases e1)
   | str q => exact flatCase e1 rfl (by cases x <;> first | (cases e1; simpa [eqD,flat] using h.symm) | cases e1)
  cases x with
  | dct => simp [eqD,flat] at h
  | non => exact ⟨flatAll (fun _ z => nomatch z) (fun _ z => nomatch z) _ rfl,fun ⟨xs,z⟩ => by rcases z with z | z <;> cases z⟩
  | bl q => exact ⟨flatAll (fun _ z => nomatch z) (fun _ z => nomatch z) _ rfl,fun ⟨xs,z⟩ => by rcases z with z | z <;> cases z⟩
  | int q => exact ⟨flatAll (fun _ z => nomatch z) (fun _ z => nomatch z) _ rfl,fun ⟨xs,z⟩ => by rcases z with z | z <;> cases z⟩
  | str q => exact ⟨flatAll (fun _ z => nomatch z) (fun _ z => nomatch z) _ rfl,fun ⟨xs,z⟩ => by rcases z with z | z <;> cases z⟩
  | tup xs =>
   cases y with
   | tup ys =>
    obtain ⟨l,vs,rfl,h1,h2⟩ := rx.tup
    obtain ⟨k,ws,rfl,g1,g2⟩ := ry.tup
    cases ru; cases rz
    obtain ⟨is,v1,p1,_⟩ := I.tuple (.of (m _ _ h1))
    obtain ⟨js,v2,p2,_⟩ := I.tuple (.of (m _ _ g1))
    have s1:is.toArray.size = xs.length := by rw [List.size_toArray,<- v1.length,h2.length]
    have s2:js.toArray.size = ys.length := by rw [List.size_toArray,<- v2.length,g2.length]
    have rc:RcAt A s (.ref l) (.ref k) b:= by
     unfold eqD at h
     cases q:eqD.go n xs ys with
     | none => rw [q] at h; cases h
     | some b' =>
      rw [q] at h; cases h
      obtain ⟨e,he,hb⟩ := eqD_go q
      have := RcAt.tuples p1 p2 hu' (items h2 g2 v1 v2 he)
      rw [s1,s2,<- hb] at this
      exact this
    exact ⟨refs rfl rfl rfl rfl rc,fun _ => rc⟩
   | _ => simp [eqD,flat] at h
  | lst xs =>
   cases y with
   | lst ys =>
    obtain ⟨l,vs,rfl,h1,h2⟩ := rx.lst
    obtain ⟨k,ws,rfl,g1,g2⟩ := ry.lst
    cases ru; cases rz
    obtain ⟨is,v1,p1,_⟩ := I.list (.inl (Rd.mono m h1))
    obtain ⟨js,v2,p2,_⟩ := I.list (.inl (Rd.mono m g1))
    have s1:is.toArray.size = xs.length := by rw [List.size_toArray,<- v1.length,h2.length]
    have s2:js.toArray.size = ys.length := by rw [List.size_toArray,<- v2.length,g2.length]
    have rc:RcAt A s (.ref l) (.ref k) b:= by
     unfold eqD at h
     split at h
     ·rename_i hl
      obtain ⟨e,he,hb⟩ := eqD_go h
      have := RcAt.lists p1.isList p2.isList (by rw [s1,s2,hl]) hu' (items h2 g2 v1 v2 he)
      rw [hb,<- hl,Nat.min_self,<- s1]; exact this
     ·rename_i hl
      cases h
      exact RcAt.lists_lengths p1.isList p2.isList (by rw [s1,s2]; simpa using hl) hu'
    exact ⟨refs rfl rfl rfl rfl rc,fun _ => rc⟩
   | _ => simp [eqD,flat] at h
theorem room20 {k:Nat} {A:Around} (hr:Room k A):A.units + 20 < cLine := by have := hr.un; omega
noncomputable def seqs:D -> D -> Bool
 | .tup _,.tup _ => true
 | .lst _,.lst _ => true
 | _,_ => false
noncomputable def dEq (neg:Bool) (x y:D):Option D := if seqs x y = true then (eqD 9 x y).map fun b => .bl (if neg then !b else b) else dEqF neg x y
noncomputable def rEqD:R2 := fun v u H Q => rEq v u H Q ∨ ∃ (Hh:Hp) (x y:D) (b:Bool),(∀ b o,Hh b = some o -> H b = some o) ∧ R Hh x v ∧ R Hh y u ∧ seqs x y = true ∧ eqD 9 x y = some b ∧ Q (.bl b) H
theorem op_eqD (hu:X.A.units + 20 < cLine):OpR X (compareOp .Eq) rEqD:= by
 intro pins s σ H v w u z Q I ru rz h
 rcases h with h | ⟨Hh,x,y,b,m,rx,ry,hs,e,q⟩
 ·exact op_eq pins s σ H v w u z Q I ru rz h
 ·have := (eqAt_D I m 9 X.A (by omega) x y v w u z b rx ry ru rz e).2 (by
   cases x <;> first | exact ⟨_,.inl rfl⟩ | exact ⟨_,.inr rfl⟩ | (simp [seqs] at hs))
  exact this _ _ _ _ ⟨.bl b,H,I,rfl,q⟩
theorem opd_eqD:OpD rEqD (dEq false) := fun c δ S σ T H x y v u d Q s e k => by
 unfold dEq at e
 split at e
 ·rename_i hs
  cases q:eqD 9 x y with
  | none => rw [q] at e; cases e
  | some b =>
   rw [q] at e; cases e
   exact .inr ⟨_,x,y,b,hid_le,s.st.tail.head,s.st.head,hs,q,k _ _ (s.stk (.cons .mkB s.st.tail.tail))⟩
 ·exact .inl (opd_eqF c δ S σ T H x y v u d Q s e k)
theorem de_eq {k:Nat} (hr:Room k X.A) (ha:DE X a fa) (hb:DE X b fb):DE X (.Compare a [.Eq] [b] pos) (m2 (dEq false) fa fb) := de_cmp (op_eqD (room20 hr)) opd_eqD ha hb
theorem dt_eq {k:Nat} (hr:Room k X.A) (ha:DE X a fa) (hb:DE X b fb):DT X (.Compare a [.Eq] [b] pos) (m2 (dEq false) fa fb >>= asB) := dt_cmp (op_eqD (room20 hr)) opd_eqD ha hb
end
end Jt
namespace Jt
open PySem L2
section
variable {X:Cx} {a b e:Expr} {fa fb:M D} {fs:M (List D)} {pos p apos cpos:Pos} {es rest:List Expr} {x:Str}
open SeqAt in
theorem neAt_D {pins:List (Addr × Obj)} {σ:St} {H Hh:Hp} {s:Shared} (I:Inv X pins σ H s) (m:∀ b o,Hh b = some o -> H b = some o) {n:Nat} {A:Around} (hu:A.units + (n + 1) < cLine) {x y:D} {v w:V} {u z:Value} {b:Bool} (rx:R Hh x v) (ry:R Hh y w) (ru:RelV v u) (rz:RelV w z)
  (hs:seqs x y = true) (h:eqD (n + 1) x y = some b):RcNeAt A s u z (!b):= by
 have hu':A.units < cLine := by omega
 have items:∀ {xs ys:List D} {vs ws:List V} {is js:List Value} {e:Nat -> Bool},Rs Hh xs vs -> Rs Hh ys ws -> Vals vs is -> Vals ws js -> (∀ (j:Nat) x y,xs[j]? = some x -> ys[j]? = some y -> eqD n x y = some (e j)) ->
   ∀ j (h1:j < is.toArray.size) (h2:j < js.toArray.size),EqAt A.in1 s is.toArray[j] js.toArray[j] (e j) := fun {xs ys vs ws is js e} r1 r2 v1 v2 he j h1 h2 => by
  have l1:j < xs.length := by rw [<- r1.length,v1.length]; simpa using h1
  have l2:j < ys.length := by rw [<- r2.length,v2.length]; simpa using h2
  obtain ⟨v',e1,q1⟩ := r1.get (List.getElem?_eq_getElem l1)
  obtain ⟨w',e2,q2⟩ := r2.get (List.getElem?_eq_getElem l2)
  obtain ⟨u',e3,q3⟩ := v1.get e1
  obtain ⟨z',e4,q4⟩ := v2.get e2
  have := (eqAt_D I m n A.in1 (by show A.units + 1 + n < _; omega) _ _ v' w' u' z' (e j) q1 q2 q3 q4 (he j _ _ (List.getElem?_eq_getElem l1) (List.getElem?_eq_getElem l2))).1
  have a1:is.toArray[j] = u':= by
   have := (List.getElem?_eq_some_iff.mp e3).2
   simpa using this
  have a2:js.toArray[j] = z':= by
   have := (List.getElem?_eq_some_iff.mp e4).2
   simpa using this
  rw [a1,a2]; exact this
 cases x with
 | tup xs =>
  cases y with
  | tup ys =>
   obtain ⟨l,vs,rfl,h1,h2⟩ := rx.tup
   obtain ⟨k,ws,rfl,g1,g2⟩ := ry.tup
   cases ru; cases rz
   obtain ⟨is,v1,p1,_⟩ := I.tuple (.of (m _ _ h1))
   obtain ⟨js,v2,p2,_⟩ := I.tuple (.of (m _ _ g1))
   have s1:is.toArray.size = xs.length := by rw [List.size_toArray,<- v1.length,h2.length]
   have s2:js.toArray.size = ys.length := by rw [List.size_toArray,<- v2.length,g2.length]
   unfold eqD at h
   cases q:eqD.go n xs ys with
   | none => rw [q] at h; cases h
   | some b' =>
    rw [q] at h; cases h
    obtain ⟨e,he,hb⟩ := eqD_go q
    have := RcNeAt.tuples p1 p2 hu' (items h2 g2 v1 v2 he)
    rw [s1,s2,<- hb] at this
    exact this
  | _ => simp [seqs] at hs
 | lst xs =>
  cases y with
  | lst ys =>
   obtain ⟨l,vs,rfl,h1,h2⟩ := rx.lst
   obtain ⟨k,ws,rfl,g1,g2⟩ := ry.lst
   cases ru; cases rz
   obtain ⟨is,v1,p1,_⟩ := I.list (.inl (Rd.mono m h1))
   obtain ⟨js,v2,p2,_⟩ := I.list (.inl (Rd.mono m g1))
   have s1:is.toArray.size = xs.length := by rw [List.size_toArray,<- v1.length,h2.length]
   have s2:js.toArray.size = ys.length := by rw [List.size_toArray,<- v2.length,g2.length]
   unfold eqD at h
   split at h
   ·rename_i hl
    obtain ⟨e,he,hb⟩ := eqD_go h
    have := RcNeAt.lists p1.isList p2.isList (by rw [s1,s2,hl]) hu' (items h2 g2 v1 v2 he)
    rw [hb,<- hl,Nat.min_self,<- s1]; exact this
   ·rename_i hl
    cases h
    exact RcNeAt.lists_lengths p1.isList p2.isList (by rw [s1,s2]; simpa using hl) hu'
  | _ => simp [seqs] at hs
 | _ => simp [seqs] at hs
noncomputable def rNeD:R2 := fun v u H Q => rNe v u H Q ∨ ∃ (Hh:Hp) (x y:D) (b:Bool),(∀ b o,Hh b = some o -> H b = some o) ∧ R Hh x v ∧ R Hh y u ∧ seqs x y = true ∧ eqD 9 x y = some b ∧ Q (.bl (!b)) H
theorem op_neD (hu:X.A.units + 20 < cLine):OpR X (compareOp .NotEq) rNeD:= by
 intro pins s σ H v w u z Q I ru rz h
 rcases h with h | ⟨Hh,x,y,b,m,rx,ry,hs,e,q⟩
 ·exact op_ne pins s σ H v w u z Q I ru rz h
 ·exact neAt_D I m (n := 8) (A := X.A) (by omega) rx ry ru rz hs e _ _ _ _ ⟨.bl (!b),H,I,rfl,q⟩
theorem opd_neD:OpD rNeD (dEq true) := fun c δ S σ T H x y v u d Q s e k => by
 unfold dEq at e
 split at e
 ·rename_i hs
  cases q:eqD 9 x y with
  | none => rw [q] at e; cases e
  | some b =>
   rw [q] at e; cases e
   exact .inr ⟨_,x,y,b,hid_le,s.st.tail.head,s.st.head,hs,q,k _ _ (s.stk (.cons .mkB s.st.tail.tail))⟩
 ·exact .inl (opd_neF c δ S σ T H x y v u d Q s e k)
theorem de_ne {k:Nat} (hr:Room k X.A) (ha:DE X a fa) (hb:DE X b fb):DE X (.Compare a [.NotEq] [b] pos) (m2 (dEq true) fa fb) := de_cmp (op_neD (room20 hr)) opd_neD ha hb
theorem dt_ne {k:Nat} (hr:Room k X.A) (ha:DE X a fa) (hb:DE X b fb):DT X (.Compare a [.NotEq] [b] pos) (m2 (dEq true) fa fb >>= asB) := dt_cmp (op_neD (room20 hr)) opd_neD ha hb
noncomputable def tRng1 (ta:TA):TE := fun σ H Q => ta σ H fun vs H1 => ∃ j:Int,vs = [.int j] ∧ ∀ q,H1 q = none -> Q (.ref q) (upd H1 q (.rng 0 j))
theorem pe_range1 {ta:TA} (hg:Gl X "range") (hm:X.mg "range" = none) (ha:PA X [a] ta) (hs:starEach [a] X.env = [(false,eval a X.env)] := by rfl):PE X (.Call (.Name "range" p) [a] [] pos) (tRng1 ta):= by
 intro pins s σ H Q I h
 refine PyProof.Rows.Call_ (ld_blt I hg hm (show bootBuiltins "range" = some (.type "range") by decide +kernel) (PyProof.Rows.callWith_type1 (thn (ha pos pins s σ H _ I h) fun us s1 ⟨vs,H1,I1,r1,q1⟩ => ?_) hs rfl))
 obtain ⟨j,e,q⟩ := q1
 subst e
 cases r1 with
 | cons r rr =>
  cases rr
  obtain ⟨t,rfl⟩ := r
  refine call_range_1 ⟨.ref s1.heap.objs.size,upd H1 s1.heap.objs.size (.rng 0 j),I1.laid (fun b u e => Heap.get?_push_of_some _ e) (Nat.le_refl _) ?_,rfl,q _ I1.fresh⟩
  exact ⟨_,_,_,Heap.get?_push_size _ rfl⟩
theorem vals_items {lo:Int} {n:Nat} {acc:Array Value} (h:ItemsOf (fun i v => ∃ t,v = .int (lo + i * 1) t) acc n):Vals ((List.range n).map fun (i:Nat) => V.int (lo + (i:Int))) acc.toList:= by
 obtain ⟨hn,hi⟩ := h
 have gen:∀ (us:List Value) (k:Nat),(∀ (j:Nat) v,us[j]? = some v -> ∃ t,v = .int (lo + ((k + j:Nat):Int)) t) -> Vals ((List.range us.length).map fun (i:Nat) => V.int (lo + ((k + i:Nat):Int))) us:= by
  intro us
  induction us with
  | nil => intro k _; exact .nil
  | cons u us ih =>
   intro k hk
   rw [List.length_cons,List.range_succ_eq_map,List.map_cons,List.map_map]
   obtain ⟨t,e⟩ := hk 0 u rfl
   refine .cons ⟨t,by simpa using e⟩ ?_
   have := ih (k + 1) fun j v hj => by
    obtain ⟨t,e⟩ := hk (j + 1) v (by simpa using hj)
    exact ⟨t,by rw [e]; congr 2; omega⟩
   have e2:((fun (i:Nat) => V.int (lo + ((k + i:Nat):Int))) ∘ Nat.succ) = fun (i:Nat) => V.int (lo + ((k + 1 + i:Nat):Int)):= by
    funext i; show V.int _ = V.int _; congr 2; omega
   rw [e2]; exact this
 have := gen acc.toList 0 fun j v hj => by
  obtain ⟨t,e⟩ := hi j v (by simpa using hj)
  exact ⟨t,by rw [e]; simp⟩
 simpa [hn] using this
theorem call_listR (hc:X.calm = true):CallR X (.type "list") (fun xs H Q => ∃ q j,xs = [.ref q] ∧ H q = some (.rng 0 j) ∧ j < 100000 ∧ -(2 ^ 62) ≤ j ∧ ∀ l,H l = none -> Q (.ref l) (upd H l (.lst ((List.range j.toNat).map fun (i:Nat) => V.int (0 + (i:Int)))))):= by
 intro pins s σ H xs us Q I r h
 obtain ⟨q,j,rfl,hq,hj,hj2,k⟩ := h
 obtain ⟨u,rfl,rx⟩ := r.one
 cases rx
 obtain ⟨t,u',v,hr⟩ := I.hok q _ hq
 refine call_list_range (n := j.toNat) (I.ok.hd hc) hr (small_one (by omega) (by omega) hj2 (by omega)) (by rw [rangeSize_one]; split <;> omega) (by omega) fun h' tk acc' c' kp e hi => ?_
 refine ⟨.ref s.heap.objs.size,_,I.laid (t' := tk) kp (Nat.le_refl _) (show ObjOk X.prog X.w _ h' _ (.lst _) from ⟨?_,acc'.toList,c',vals_items hi,by simpa using e⟩),rfl,k _ I.fresh⟩
 have:(100000:Nat) < sizeLine := by rw [sizeLine_eq]; decide
 simp; omega
noncomputable def dRng:List D -> Option (List D)
 | [.int j] => if j < 100000 ∧ -(2 ^ 62) ≤ j then some (rngD 0 j.toNat) else none
 | _ => none
theorem rs_rng {H:Hp} {lo:Int} {n:Nat}:Rs H (rngD lo n) ((List.range n).map fun (i:Nat) => V.int (lo + (i:Int))):= by
 unfold rngD
 induction (List.range n) with
 | nil => exact .nil
 | cons i r ih => exact .cons .mkI ih
theorem df_listR {p2 pos2:Pos} (hml:X.mg "list" = none) (hmr:X.mg "range" = none) (ha:DA X [a] fs) (hgl:Gl X "list" := by rfl) (hgr:Gl X "range" := by rfl) (hc:X.calm = true := by rfl) (hs:starEach [a] X.env = [(false,eval a X.env)] := by rfl) :
  DF X (.Call (.Name "list" p) [.Call (.Name "range" p2) [a] [] pos2] [] pos) (mC dRng fs) :=
 peOf (pe_callTy (call_listR hc) hgl hml (by decide +kernel) (pa_cons (pe_range1 hgr hmr ha hs) pa_nil) (by decide) (by decide) rfl rfl) fun σ H Q ⟨c,δ,S,T,d,δ',s,e,k⟩ => by
  obtain ⟨ds,δ1,e1,e⟩ := bind_some e
  obtain ⟨e2,rfl⟩ := lift_some e
  refine ⟨c,δ,S,T,ds,δ1,s,e1,fun vs H1 l s1 => ?_⟩
  unfold dRng at e2
  split at e2
  ·rename_i j
   split at e2
   ·rename_i hj
    cases e2
    obtain ⟨v,rfl,r⟩ := rs1 (s1.st.left l)
    cases r.int
    refine ⟨j,rfl,fun q hq => ⟨q,j,rfl,upd_same,hj.1,hj.2,fun m hm => ?_⟩⟩
    have s2 := (s1.drop l).grow (same_new hq (.rng 0 j))
    obtain ⟨f1,f2,f3⟩ := s2.fresh hm
    refine k m _ _ (rs_rng (H := H)).length ((s2.hide hm).stk ?_) f1 f2 f3
    exact rs_rng.append (s2.hide hm).st
   ·cases e2
  ·cases e2
end
end Jt
namespace Jt
open PySem L2
section
variable {prog:Program} {w:World} {A:Around} {E:Value -> Shared -> Prop} {s:Shared}
theorem collect_range {Q:List Value -> Shared -> Prop} {r:Addr} {a b c:Int} {t u v:Tok} {n:Nat} (hh:A.handled = none) (hr:IsRange s.heap r a b c t u v) (hsmall:Builtin.Range.small a b c = true) (hn:Builtin.Range.rangeSize a b c = n) (hlen:n ≤ 2 ^ 24)
  (hQ:∀ h' tk acc,(∀ b o',s.heap.get? b = some o' -> h'.get? b = some o') -> ItemsOf (fun i v => ∃ t,v = .int (a + i * c) t) acc n -> Q acc.toList { s with heap := h',toks := tk }) :
  wpAny (model prog w) A (collect (.ref r)) Q E s:= by
 unfold collect
 refine wpAny_bind (wpAny_runValue (codeAny_builtin F.entry_proto_collect ?_))
 rw [Around.under_plainId F.plain_proto_collect _]
 show wpAny _ A.in1 (newList [] >>= fun l => again (.builtin "list.__iadd__" ⟨[l,.ref r],[]⟩)) _ _ s
 refine wpAny_bind (wpAny_newObj_type ?_)
 refine wpAny_pure ⟨plainId_quiet F.plain_list_iadd _,codeAny_builtin F.entry_list_iadd ?_⟩
 rw [Around.under_plainId F.plain_list_iadd _]
 show wpAny _ A.in1 (Builtin.List.listExtendWith (.ref s.heap.objs.size) (.ref r) (.ref s.heap.objs.size)) _ _ _
 have hS:(s.heap.push { cls := .type "list",data := .seq ([]:List Value).toArray }).get? s.heap.objs.size = some { cls := .type "list",data := .seq #[] 0 } := Heap.get?_push_size _ rfl
 refine wpAny_mono (wpAny_extend_range (A := A) (R := fun q s' => q = .ok (.ret (.ref s.heap.objs.size)) ∧ ∃ h' tk acc c',s' = { s with heap := h',toks := tk } ∧ (∀ b o',s.heap.get? b = some o' -> h'.get? b = some o') ∧ h'.get? s.heap.objs.size = some { cls := .type "list",dict := none,data := .seq acc c',slots := #[] } ∧ ItemsOf (fun i v => ∃ t,v = .int (a + i * c) t) acc n)
  (s := { s with heap := s.heap.push { cls := .type "list",data := .seq ([]:List Value).toArray } }) hh (Heap.get?_push_of_some _ hr) hsmall hn hlen _ _ 0 hS fun h' tk acc' c' hk hS' hi => ⟨rfl,h',tk,acc',c',rfl,fun b o e => hk b o (Nat.ne_of_lt (Heap.lt_size e)) (Heap.get?_push_of_some _ e),hS',hi⟩) (fun fin s' h => ?_) (fun e s' h => ?_)
 ·have fin':∀ s',(∃ h' tk acc c',s' = { s with heap := h',toks := tk } ∧ (∀ b o',s.heap.get? b = some o' -> h'.get? b = some o') ∧ h'.get? s.heap.objs.size = some { cls := .type "list",dict := none,data := .seq acc c',slots := #[] } ∧ ItemsOf (fun i v => ∃ t,v = .int (a + i * c) t) acc n) ->
    wpAny (model prog w) A (match Value.ref s.heap.objs.size with
     | Value.ref a => do
      match (<- load a).data with
       | Data.seq xs _ => pure xs.toList
       | _ => unsupported "internal:collect"
     | _ => unsupported "internal:collect") Q E s' := fun s' ⟨h',tk,acc,c',e,hk,hS',hi⟩ => by
   subst e
   show wpAny _ A (load s.heap.objs.size >>= _) _ _ _
   refine wpAny_bind (wpAny_load hS' ?_)
   exact wpAny_pure (hQ h' tk acc hk hi)
  cases fin with
  | done f =>
   obtain ⟨e,h⟩ := h
   cases e
   exact fin' s' h
  | again c' => exact ⟨h.1,codeAny_mono h.2 fun r s'' hr => by obtain ⟨rfl,hr⟩ := hr; exact fin' s'' hr⟩
 ·exact absurd h.1 (by simp)
end
theorem meets_tuple_range (r:Addr) {a b c:Int} {t u v:Tok} {n:Nat} (hsmall:Builtin.Range.small a b c = true) (hn:Builtin.Range.rangeSize a b c = n) (hlen:n ≤ 100000) :
  Meets (Builtin.«tuple.__new__» ⟨[.type "tuple",.ref r],[]⟩)
   (fun A R s => A.handled = none ∧ IsRange s.heap r a b c t u v ∧ ∀ (h':Heap) (tk:Nat) (acc:Array Value),(∀ b o',s.heap.get? b = some o' -> h'.get? b = some o') -> ItemsOf (fun i v => ∃ t,v = .int (a + i * c) t) acc n -> R (.ok (.ret (.ref h'.objs.size))) { s with heap := h'.push { cls := .type "tuple",data := .seq acc },toks := tk }) :=
 .of_wp fun prog w A R s h => by
  obtain ⟨hp,g,d,tk,os⟩ := s; obtain ⟨hh,ht,h⟩ := h
  have hsub := sub_tuple_self
  have hinit := init_tuple_lookup
  have hmh := madeHere_tuple
  have hT:Shared.TypeIs ⟨hp,g,d,tk,os⟩ (.ref r) "range" := ⟨_,ht,rfl⟩
  wp_walk using wpAny_loadPart' ht,wpAny_typeOf hT,collect_range (A := A.in1) (show A.in1.handled = none from hh) ht hsmall hn (show n ≤ 2 ^ 24 by omega)
  intro h' tk' acc hk hi
  show wpAny _ _ (Builtin.Tuple.tupleExact acc.toList.toArray >>= fun v => ret v) _ _ _
  unfold Builtin.Tuple.tupleExact
  have hz:acc.size ≤ sizeLine := by rw [hi.1,sizeLine_eq]; omega
  refine wpAny_bind (wpAny_newObj_type ?_ (by show acc.toList.toArray.size ≤ sizeLine; simpa using hz))
  refine wpAny_pure ⟨_,rfl,?_⟩
  have e:acc.toList.toArray = acc := by simp
  rw [e]
  exact h h' tk' acc hk hi
section
variable {X:Cx} {a b e:Expr} {fa fb:M D} {fs:M (List D)} {pos p apos cpos:Pos}
theorem call_tupleR (hc:X.calm = true):CallR X (.type "tuple") (fun xs H Q => ∃ q j,xs = [.ref q] ∧ H q = some (.rng 0 j) ∧ j < 100000 ∧ -(2 ^ 62) ≤ j ∧ ∀ l,H l = none -> Q (.ref l) (upd H l (.tup ((List.range j.toNat).map fun (i:Nat) => V.int (0 + (i:Int)))))):= by
 intro pins s σ H xs us Q I r h
 obtain ⟨q,j,rfl,hq,hj,hj2,k⟩ := h
 obtain ⟨u,rfl,rx⟩ := r.one
 cases rx
 obtain ⟨t,u',v,hr⟩ := I.hok q _ hq
 refine callType_new F.called_tuple (by decide) (F.typeCall_tuple_1 _) (F.newCall_tuple_1 _) (fun obj => F.args_object_init_2 obj _) F.entry_tuple_new
  (meets_tuple_range q (n := j.toNat) (small_one (by omega) (by omega) hj2 (by omega)) (by rw [rangeSize_one]; split <;> omega) (by omega)) ⟨I.ok.hd hc,hr,fun h' tk acc kp hi => ⟨⟨_,Heap.get?_push_size _ rfl,rfl⟩,?_⟩⟩
 have I1:Inv X pins σ H { s with heap := h',toks := tk } := I.kept kp
 refine ⟨.ref h'.objs.size,_,I1.laid (t' := tk) (fun b o e => Heap.get?_push_of_some _ e) (Nat.le_refl _) (show ObjOk X.prog X.w _ _ _ (.tup _) from ⟨?_,acc.toList,vals_items hi,by simpa using PyProof.Rows.IsTup.new _ _⟩),rfl,k _ (I1.hok.fresh (Nat.le_refl _))⟩
 have:(100000:Nat) < sizeLine := by rw [sizeLine_eq]; decide
 simp; omega
theorem de_tupleR {p2 pos2:Pos} (hml:X.mg "tuple" = none) (hmr:X.mg "range" = none) (ha:DA X [a] fs) (hgl:Gl X "tuple" := by rfl) (hgr:Gl X "range" := by rfl) (hc:X.calm = true := by rfl) (hs:starEach [a] X.env = [(false,eval a X.env)] := by rfl) :
  DE X (.Call (.Name "tuple" p) [.Call (.Name "range" p2) [a] [] pos2] [] pos) (do let xs <- mC dRng fs; pure (.tup xs)) :=
 peOf (pe_callTy (call_tupleR hc) hgl hml (by decide +kernel) (pa_cons (pe_range1 hgr hmr ha hs) pa_nil) (by decide) (by decide) rfl rfl) fun σ H Q ⟨c,δ,S,T,d,δ',s,e,k⟩ => by
  obtain ⟨xs,δ0,e0,e⟩ := bind_some e
  obtain ⟨rfl,rfl⟩ := pure_some e
  obtain ⟨ds,δ1,e1,e⟩ := bind_some e0
  obtain ⟨e2,rfl⟩ := lift_some e
  refine ⟨c,δ,S,T,ds,δ1,s,e1,fun vs H1 l s1 => ?_⟩
  unfold dRng at e2
  split at e2
  ·rename_i j
   split at e2
   ·rename_i hj
    cases e2
    obtain ⟨v,rfl,r⟩ := rs1 (s1.st.left l)
    cases r.int
    refine ⟨j,rfl,fun q hq => ⟨q,j,rfl,upd_same,hj.1,hj.2,fun m hm => ?_⟩⟩
    have s2 := (s1.drop l).grow (same_new hq (.rng 0 j))
    exact k _ _ ((s2.stk (rs_rng.append s2.st)).newTup (rs_rng (H := H)).length hm)
   ·cases e2
  ·cases e2
end
end Jt
namespace Jt
open PySem L2
section
variable {X:Cx} {a b e:Expr} {fa fb:M D} {fs:M (List D)} {pos p apos cpos:Pos}
inductive Ty where
 | int | bool | tup | lst | str
noncomputable def Ty.name:Ty -> String
 | .int => "int"
 | .bool => "bool"
 | .tup => "tuple"
 | .lst => "list"
 | .str => "str"
noncomputable def isiD:Ty -> D -> Option Bool
 | .int,.int _ => some true
 | .int,.bl _ => some true
 | .bool,.bl _ => some true
 | .tup,.tup _ => some true
 | .lst,.lst _ => some true
 | .str,.str _ => some true
 | _,_ => some false
theorem dictAt {pins:List (Addr × Obj)} {σ:St} {H:Hp} {s:Shared} {a:Addr} (I:Inv X pins σ H s) (h:H a = some (dctΦ a)):∃ o,s.heap.get? a = some o ∧ o.cls = .type "dict":= by
 obtain ⟨⟨_,o,_,h1,h2,_⟩,_⟩ := I.hok a _ h
 exact ⟨o,h1,h2⟩
theorem call_isi:CallR X (.builtin "isinstance") (fun xs H Q => ∃ (Hh:Hp) (d:D) (v:V) (T:Ty) (k:Bool),xs = [v,.ty T.name] ∧ (∀ b o,Hh b = some o -> H b = some o) ∧ R Hh d v ∧ isiD T d = some k ∧ Q (.bl k) H):= by
 intro pins s σ H xs us Q I r h
 obtain ⟨Hh,d,v,T,k,rfl,m,rd,ek,q⟩ := h
 obtain ⟨u,z,rfl,ru,rz⟩ := r.two
 cases rz
 have fin:∀ tk,EP X pins σ Q (.bool k) { s with toks := tk } := fun tk => ⟨.bl k,H,I.tok _,rfl,q⟩
 have fin0:EP X pins σ Q (.bool k) s := ⟨.bl k,H,I,rfl,q⟩
 cases d with
 | non =>
  cases rd.non
  cases ru
  cases T <;> cases ek
  ·exact IsiPair.NoneType_int (fin _)
  ·exact IsiPair.NoneType_bool (fin _)
  ·exact IsiPair.NoneType_tuple (fin _)
  ·exact IsiPair.NoneType_list (fin _)
  ·exact IsiPair.NoneType_str (fin _)
 | int i =>
  cases rd.int
  obtain ⟨t,rfl⟩ := ru
  cases T <;> cases ek
  ·exact IsiPair.int_int fin0
  ·exact IsiPair.int_bool (fin _)
  ·exact IsiPair.int_tuple (fin _)
  ·exact IsiPair.int_list (fin _)
  ·exact IsiPair.int_str (fin _)
 | bl i =>
  cases rd.bl
  cases ru
  cases T <;> cases ek
  ·exact IsiPair.bool_int fin0
  ·exact IsiPair.bool_bool fin0
  ·exact IsiPair.bool_tuple (fin _)
  ·exact IsiPair.bool_list (fin _)
  ·exact IsiPair.bool_str (fin _)
 | str i =>
  cases rd.str
  obtain ⟨t,rfl⟩ := ru
  cases T <;> cases ek
  ·exact IsiPair.str_int (fin _)
  ·exact IsiPair.str_bool (fin _)
  ·exact IsiPair.str_tuple (fin _)
  ·exact IsiPair.str_list (fin _)
  ·exact IsiPair.str_str fin0
 | tup ds =>
  obtain ⟨q',vs,rfl,h1,h2⟩ := rd.tup
  cases ru
  obtain ⟨its,_,⟨o,ho,hc,_⟩,_⟩ := I.tuple (.of (m _ _ h1))
  cases T <;> cases ek
  ·exact IsiPair.tuple_int ho hc (fin _)
  ·exact IsiPair.tuple_bool ho hc (fin _)
  ·exact IsiPair.tuple_tuple ho hc fin0
  ·exact IsiPair.tuple_list ho hc (fin _)
  ·exact IsiPair.tuple_str ho hc (fin _)
 | lst ds =>
  obtain ⟨q',vs,rfl,h1,h2⟩ := rd.lst
  cases ru
  obtain ⟨its,_,pl,_⟩ := I.list (.inl (Rd.mono m h1))
  obtain ⟨o,ho,hc,_⟩ := pl.isList
  cases T <;> cases ek
  ·exact IsiPair.list_int ho hc (fin _)
  ·exact IsiPair.list_bool ho hc (fin _)
  ·exact IsiPair.list_tuple ho hc (fin _)
  ·exact IsiPair.list_list ho hc fin0
  ·exact IsiPair.list_str ho hc (fin _)
 | dct =>
  obtain ⟨q',rfl,h1⟩ := rd.dct
  cases ru
  obtain ⟨o,ho,hc⟩ := dictAt I (m _ _ h1)
  cases T <;> cases ek
  ·exact IsiPair.dict_int ho hc (fin _)
  ·exact IsiPair.dict_bool ho hc (fin _)
  ·exact IsiPair.dict_tuple ho hc (fin _)
  ·exact IsiPair.dict_list ho hc (fin _)
  ·exact IsiPair.dict_str ho hc (fin _)
noncomputable def mIsi (T:Ty) (fa:M D):M D := do
 let d <- fa
 let k <- lift (isiD T d)
 pure (.bl k)
theorem pe_ty (T:Ty) {y:Str} {py:Pos} (hg:Gl X y) (hm:X.mg y = none) (hv:bootBuiltins y = some (.type T.name)) (hn:y ≠ "__name__" := by decide) (hd:(y == ("__debug__":Str)) = false := by decide):PE X (.Name y py) (tC (.ty T.name)) := pe_bltn hg hm hv rfl hn hd
theorem de_isi (T:Ty) {y:Str} {py:Pos} (hmi:X.mg "isinstance" = none) (hmy:X.mg y = none) (ha:DE X a fa) (hv:bootBuiltins y = some (.type T.name) := by decide +kernel) (hgi:Gl X "isinstance" := by rfl) (hgy:Gl X y := by rfl) (hn:y ≠ "__name__" := by decide) (hd:(y == ("__debug__":Str)) = false := by decide)
  (he:starEach [a,.Name y py] X.env = (false,eval a X.env) :: starEach [.Name y py] X.env := by rfl):DE X (.Call (.Name "isinstance" p) [a,.Name y py] [] pos) (mIsi T fa) :=
 peOf (pe_callB call_isi hgi hmi (by decide +kernel) (pa_cons ha (pa_cons (pe_ty T hgy hmy hv hn hd) pa_nil) he) (by decide) (by decide) he rfl) fun σ H Q ⟨c,δ,S,TT,d,δ',s,e,k⟩ => by
  obtain ⟨x,δ1,e1,e⟩ := bind_some e
  obtain ⟨b,δ2,e2,e⟩ := bind_some e
  obtain ⟨e3,rfl⟩ := lift_some e2
  obtain ⟨rfl,rfl⟩ := pure_some e
  exact ⟨c,δ,S,TT,x,δ1,s,e1,fun v H1 s1 => ⟨_,x,v,T,b,rfl,hid_le,s1.st.head,e3,k _ _ (s1.stk (.cons .mkB s1.st.tail))⟩⟩
end
end Jt
namespace Jt
open PySem L2
noncomputable def ins1 (x:Int):List Int -> List Int
 | [] => [x]
 | y :: r => if x ≤ y then x :: y :: r else y :: ins1 x r
noncomputable def isort:List Int -> List Int
 | [] => []
 | x :: r => ins1 x (isort r)
theorem ins1_perm (x:Int):∀ l,(ins1 x l).Perm (x :: l)
 | [] => List.Perm.refl _
 | y :: r => by
  unfold ins1
  split
  ·exact List.Perm.refl _
  ·exact ((ins1_perm x r).cons y).trans (List.Perm.swap _ _ _)
theorem isort_perm:∀ l,(isort l).Perm l
 | [] => List.Perm.refl _
 | x :: r => (ins1_perm x _).trans ((isort_perm r).cons x)
theorem ins1_up (x:Int):∀ l:List Int,l.Pairwise (· ≤ ·) -> (ins1 x l).Pairwise (· ≤ ·)
 | [],_ => List.pairwise_singleton _ _
 | y :: r,h => by
  obtain ⟨h1,h2⟩ := List.pairwise_cons.mp h
  unfold ins1
  split
  ·rename_i hx
   refine List.pairwise_cons.mpr ⟨fun z hz => ?_,h⟩
   rcases List.mem_cons.mp hz with e | hz
   ·rw [e]; exact hx
   ·exact Int.le_trans hx (h1 z hz)
  ·rename_i hx
   refine List.pairwise_cons.mpr ⟨fun z hz => ?_,ins1_up x r h2⟩
   rcases List.mem_cons.mp ((ins1_perm x r).mem_iff.mp hz) with e | hz
   ·rw [e]; omega
   ·exact h1 z hz
theorem isort_up:∀ l,(isort l).Pairwise (· ≤ ·)
 | [] => List.Pairwise.nil
 | x :: r => ins1_up x _ (isort_up r)
theorem up_unique:∀ {a b:List Int},a.Perm b -> a.Pairwise (· ≤ ·) -> b.Pairwise (· ≤ ·) -> a = b
 | [],b,p,_,_ => (List.nil_perm.mp p).symm
 | x :: a,[],p,_,_ => absurd p (by simp)
 | x :: a,y :: b,p,ha,hb => by
  obtain ⟨a1,a2⟩ := List.pairwise_cons.mp ha
  obtain ⟨b1,b2⟩ := List.pairwise_cons.mp hb
  have e:x = y:= by
   have hx:x ∈ y :: b := p.mem_iff.mp List.mem_cons_self
   have hy:y ∈ x :: a := p.mem_iff.mpr List.mem_cons_self
   rcases List.mem_cons.mp hx with e | hx
   ·exact e
   ·rcases List.mem_cons.mp hy with e | hy
    ·exact e.symm
    ·exact Int.le_antisymm (a1 y hy) (b1 x hx)
  subst e
  rw [up_unique ((List.perm_cons x).mp p) a2 b2]
theorem eq_isort {a b:List Int} (p:a.Perm b) (h:a.Pairwise (· ≤ ·)):a = isort b := up_unique (p.trans (isort_perm b).symm) h (isort_up b)
noncomputable def ded:List Int -> List Int
 | [] => []
 | x :: r => if x ∈ ded r then ded r else x :: ded r
theorem mem_ded {z:Int}:∀ {l:List Int},z ∈ ded l ↔ z ∈ l
 | [] => Iff.rfl
 | x :: r => by
  unfold ded
  split
  ·rename_i h
   rw [mem_ded,List.mem_cons]
   exact ⟨.inr,fun q => q.elim (fun e => e ▸ mem_ded.mp h) id⟩
  ·rw [List.mem_cons,List.mem_cons,mem_ded]
theorem nodup_ded:∀ (l:List Int),(ded l).Nodup
 | [] => List.nodup_nil
 | x :: r => by
  unfold ded
  split
  ·exact nodup_ded r
  ·rename_i h; exact List.nodup_cons.mpr ⟨h,nodup_ded r⟩
theorem ded_length (l:List Int):(ded l).length ≤ l.length:= by
 induction l with
 | nil => exact Nat.le_refl _
 | cons x r ih => unfold ded; split <;> simp <;> omega
theorem perm_ded {a b:List Int} (nd:a.Nodup) (h:∀ z,z ∈ a ↔ z ∈ b):a.Perm (ded b):= by
 refine (List.perm_ext_iff_of_nodup nd (nodup_ded b)).mpr fun z => ?_
 rw [h z,mem_ded]
inductive tMQ (K:PySem.W.Frag) (f:M (List D)) (σ:St) (H:Hp) (Q:VK):Prop
 | mk (c:Ct) (δ:DS) (S:List D) (T:List V) (xs:List D) (δ':DS) (s:Sl c δ S σ T H) (e:f δ = some (xs,δ')) (q:∀ p vs H',vs.length = xs.length -> (SqL K H' p vs ∨ SqT K H' p vs) -> Sl c δ' (xs ++ S) σ (vs ++ T) H' -> Q (.ref p) H'):tMQ K f σ H Q
noncomputable abbrev DQ (X:Cx) (e:Expr) (f:M (List D)):Prop := PE X e (tMQ X.K f)
section
variable {X:Cx} {a b e:Expr} {fa fb:M D} {fs fF fq:M (List D)} {pos p apos cpos:Pos} {es rest:List Expr} {x:Str}
theorem dq_of (h:DE X e fa):DQ X e (do let x <- fa; lift (seqD x)) := peOf h fun σ H Q ⟨c,δ,S,T,xs,δ',s,e,k⟩ => by
 obtain ⟨d,δ1,e1,e⟩ := bind_some e
 obtain ⟨e2,rfl⟩ := lift_some e
 refine ⟨c,δ,S,T,d,δ1,s,e1,fun v H' s' => ?_⟩
 cases d with
 | tup ds =>
  cases e2
  obtain ⟨q,vs,rfl,h1,h2⟩ := s'.st.head.tup
  exact k q vs H' h2.length (.inr (.of (hid_le _ _ h1))) (s'.stk (h2.append s'.st.tail))
 | lst ds =>
  cases e2
  obtain ⟨q,vs,rfl,h1,h2⟩ := s'.st.head.lst
  exact k q vs H' h2.length (.inl (.inl (Rd.mono hid_le h1))) (s'.stk (h2.append s'.st.tail))
 | _ => cases e2
theorem Inv.kd {pins:List (Addr × Obj)} {σ:St} {H:Hp} {s:Shared} {h':Heap} {t':Nat} {d':Drawn} (I:Inv X pins σ H s) (k:∀ b u,s.heap.get? b = some u -> h'.get? b = some u):Inv X pins σ H { s with heap := h',toks := t',drawn := d' }:= by
 have I1 := I.kept (t' := t') k
 exact ⟨I1.ok,I1.os,I1.bare,I1.base,I1.loc,I1.cell,I1.free,I1.freeC,I1.pin,I1.hok,I1.len⟩
theorem vals_ints {ns:List Int}:∀ {us:List Value},PyProof.Rows.IntsAre us ns -> Vals (ns.map V.int) us:= by
 induction ns with
 | nil => intro us h; cases h; exact .nil
 | cons n ns ih =>
  intro us h
  cases h with
  | cons _ t h => exact .cons ⟨t,rfl⟩ (ih h)
theorem after_sort {pins:List (Addr × Obj)} {σ:St} {H:Hp} {s:Shared} {ns ms:List Int} {Q:VK} {h1 h':Heap} {tk:Nat} {d:Drawn} {out:List Value} {e:Nat} (I:Inv X pins σ H s) (k:∀ b o,s.heap.get? b = some o -> h1.get? b = some o) (k2:∀ b o,h1.get? b = some o -> h'.get? b = some o)
  (hg:h'.get? h1.objs.size = some { cls := .type "list",data := .seq out.toArray e }) (hi:PyProof.Rows.IntsAre out ms) (hp:ms.Perm ns) (hu:ms.Pairwise (· ≤ ·)) (hl:ns.length < 64) (q:∀ l,H l = none -> Q (.ref l) (upd H l (.lst ((isort ns).map V.int)))) :
  EP X pins σ Q (.ref h1.objs.size) { s with heap := h',toks := tk,drawn := d }:= by
 have I1:Inv X pins σ H { s with heap := h1,toks := tk,drawn := d } := Inv.kd I k
 have em := eq_isort hp hu
 refine ⟨.ref h1.objs.size,_,I1.laid (t' := tk) (o := .lst ((isort ns).map V.int)) k2 (Nat.le_refl _) ⟨?_,out,e,em ▸ vals_ints hi,hg⟩,rfl,q _ (I1.hok.fresh (Nat.le_refl _))⟩
 rw [List.length_map,<- em,hp.length_eq,sizeLine_eq]
 omega
theorem call_sorted:CallR X (.builtin "sorted") (fun xs H Q => ∃ p ns,xs = [.ref p] ∧ (SqL X.K H p (ns.map V.int) ∨ SqT X.K H p (ns.map V.int)) ∧ ns.length < 64 ∧ ∀ l,H l = none -> Q (.ref l) (upd H l (.lst ((isort ns).map V.int)))):= by
 intro pins s σ H xs us Q I r h
 obtain ⟨p,ns,rfl,hq,hl,q⟩ := h
 obtain ⟨u,rfl,ru⟩ := r.one
 cases ru
 refine sorted_from (ns := ns) (fun A' Q' E' hA hQ' => ?_) hl fun h1 h' tk d out ms e k k2 hg hi hp hu => after_sort I k k2 hg hi hp hu hl q
 rcases hq with hq | hq
 ·obtain ⟨its,rv,pl,hz⟩ := I.list hq
  obtain ⟨o,ho,hc,n,hd⟩ := pl.isList
  exact wpAny_collect_seq p (.inl rfl) ho hc hd (fun h' k => hQ' _ ns h' s.toks s.drawn (by simpa using intsAre_of rv) (List.Perm.refl _) k) (by rw [List.size_toArray,<- rv.length]; exact hz)
 ·obtain ⟨its,rv,⟨o,ho,hc,n,hd⟩,hz⟩ := I.tuple hq
  exact wpAny_collect_seq p (.inr rfl) ho hc hd (fun h' k => hQ' _ ns h' s.toks s.drawn (by simpa using intsAre_of rv) (List.Perm.refl _) k) (by rw [List.size_toArray,<- rv.length]; exact hz)
noncomputable def intsD:List D -> Option (List Int)
 | [] => some []
 | .int i :: r => (intsD r).map (i :: ·)
 | _ => none
theorem rs_ints {H:Hp}:∀ {ds:List D} {vs:List V} {ns:List Int},Rs H ds vs -> intsD ds = some ns -> vs = ns.map V.int
 | [],vs,ns,h,e => by cases e; exact h.inv0
 | d :: ds,vs,ns,h,e => by
  obtain ⟨v,r,ev,h1,h2⟩ := h.inv
  cases d with
  | int b =>
   unfold intsD at e
   cases q:intsD ds with
   | none => rw [q] at e; cases e
   | some bs' =>
    rw [q] at e; cases e
    rw [ev,h1.int,rs_ints h2 q]; rfl
  | _ => cases e
theorem rs_ofInts {H:Hp}:∀ (ns:List Int),Rs H (ns.map D.int) (ns.map V.int)
 | [] => .nil
 | n :: ns => .cons .mkI (rs_ofInts ns)
noncomputable def sortI (xs:List D):Option (List D) := match intsD xs with
 | some ns => if ns.length < 64 then some ((isort ns).map D.int) else none
 | none => none
noncomputable def mQ {α:Type} (g:List D -> Option α) (f:M (List D)):M α := do
 let xs <- f
 lift (g xs)
theorem df_sorted (hm:X.mg "sorted" = none) (h:DQ X e fq) (hg:Gl X "sorted" := by rfl) (he:starEach [e] X.env = [(false,eval e X.env)] := by rfl):DF X (.Call (.Name "sorted" p) [e] [] pos) (mQ sortI fq) :=
 peOf (pe_callB call_sorted hg hm PyProof.Rows.boot_sorted (pa_cons h pa_nil he) (by decide) (by decide) he rfl) fun σ H Q ⟨c,δ,S,T,xs,δ',s,e,k⟩ => by
  obtain ⟨ds,δ1,e1,e⟩ := bind_some e
  obtain ⟨e2,rfl⟩ := lift_some e
  refine ⟨c,δ,S,T,ds,δ1,s,e1,fun q vs H1 l hq s1 => ?_⟩
  unfold sortI at e2
  split at e2
  ·rename_i ns en
   split at e2
   ·rename_i hn
    cases e2
    have ev := rs_ints (s1.st.left l) en
    subst ev
    refine ⟨q,ns,rfl,hq,hn,fun m hm => ?_⟩
    obtain ⟨f1,f2,f3⟩ := s1.fresh hm
    have s2 := (s1.drop l).hide (o := .lst ((isort ns).map V.int)) hm
    exact k m _ _ (by simp) (s2.stk ((rs_ofInts _).append s2.st)) f1 f2 f3
   ·cases e2
  ·cases e2
noncomputable def SetΦ (w:World) (S:Addr) (ns:List Int):HO := .ext fun h => ∃ l ep t,SetX w h S l ep t ∧ (l.map (·.1)).Perm (ded ns)
theorem call_set (hc:X.calm = true):CallR X (.type "set") (fun xs H Q => ∃ p ns,xs = [.ref p] ∧ (SqL X.K H p (ns.map V.int) ∨ SqT X.K H p (ns.map V.int)) ∧ ns.length < 4000 ∧ ∀ l,H l = none -> Q (.ref l) (upd H l (SetΦ X.w l ns))):= by
 intro pins s σ H xs us Q I r h
 obtain ⟨p,ns,rfl,hq,hl,q⟩ := h
 obtain ⟨u,rfl,ru⟩ := r.one
 cases ru
 have fin:∀ (h':Heap) (tk:Nat) (ls:List (Int × Tok)) (ep:Nat) (t:SetTable),SetX X.w h' s.heap.objs.size ls ep t -> (ls.map (·.1)).Nodup -> (∀ z,z ∈ ls.map (·.1) ↔ z ∈ ns) -> (∀ b o,s.heap.get? b = some o -> h'.get? b = some o) ->
   EP X pins σ Q (.ref s.heap.objs.size) { s with heap := h',toks := tk } := fun h' tk ls ep t x nd mem k => by
  refine ⟨.ref s.heap.objs.size,_,I.laid (t' := tk) (o := SetΦ X.w s.heap.objs.size ns) k (Nat.le_refl _) ⟨⟨ls,ep,t,x,perm_ded nd mem⟩,?_,fun h1 h2 ⟨l,ep,t,x,p⟩ k => ⟨l,ep,t,x.at k,p⟩⟩,rfl,q _ I.fresh⟩
  obtain ⟨o,ho,_⟩ := x.obj
  exact ⟨o,ho⟩
 rcases hq with hq | hq
 ·obtain ⟨its,rv,pl,hz⟩ := I.list hq
  have hn:its.toArray.size = ns.length := by rw [List.size_toArray,<- rv.length,List.length_map]
  exact call_setX (ns := ns) (I.ok.hd hc) pl.isList (by simpa using intsAre_of rv) (by rw [hn]; show _ < 4096; omega) fin
 ·obtain ⟨its,rv,pl,hz⟩ := I.tuple hq
  have hn:its.toArray.size = ns.length := by rw [List.size_toArray,<- rv.length,List.length_map]
  exact call_setT (ns := ns) (I.ok.hd hc) (show s.heap.IsTuple p its.toArray from pl) (by simpa using intsAre_of rv) (by rw [hn]; show _ < 4096; omega) fin
theorem call_sortedSet (hc:X.calm = true):CallR X (.builtin "sorted") (fun xs H Q => ∃ p ns,xs = [.ref p] ∧ H p = some (SetΦ X.w p ns) ∧ ns.length < 64 ∧ ∀ l,H l = none -> Q (.ref l) (upd H l (.lst ((isort (ded ns)).map V.int)))):= by
 intro pins s σ H xs us Q I r h
 obtain ⟨p,ns,rfl,hq,hl,q⟩ := h
 obtain ⟨u,rfl,ru⟩ := r.one
 cases ru
 obtain ⟨⟨l,ep,t,x,pm⟩,_⟩ := I.hok p _ hq
 have hl2:(ded ns).length < 64 := Nat.lt_of_le_of_lt (ded_length ns) hl
 refine sorted_from (ns := ded ns) (fun A' Q' E' hA hQ' => ?_) hl2 fun h1 h' tk d out ms e k k2 hg hi hp hu => after_sort I k k2 hg hi hp hu hl2 q
 refine collect_setX (hA.trans (I.ok.hd hc)) x fun ord h' tk d po k => hQ' _ (ord.map (·.1)) h' tk d ?_ ((po.map _).trans pm) k
 have:∀ o:List (Int × Tok),PyProof.Rows.IntsAre (o.map fun p => Value.int p.1 p.2) (o.map (·.1)) := fun o => by
  induction o with
  | nil => exact .nil
  | cons x r ih => exact .cons _ _ ih
 exact this ord
noncomputable def sortSet (xs:List D):Option (List D) := match intsD xs with
 | some ns => if ns.length < 64 then some ((isort (ded ns)).map D.int) else none
 | none => none
noncomputable def tSetE (K:PySem.W.Frag) (w:World) (te:TE):TE := fun σ H Q => te σ H fun x H1 => ∃ p ns,[x] = [V.ref p] ∧ (SqL K H1 p (ns.map V.int) ∨ SqT K H1 p (ns.map V.int)) ∧ ns.length < 4000 ∧ ∀ l,H1 l = none -> Q (.ref l) (upd H1 l (SetΦ w l ns))
theorem pe_set {te:TE} (hm:X.mg "set" = none) (h:PE X e te) (hg:Gl X "set" := by rfl) (hc:X.calm = true := by rfl) (he:starEach [e] X.env = [(false,eval e X.env)] := by rfl):PE X (.Call (.Name "set" p) [e] [] pos) (tSetE X.K X.w te) :=
 peOf (pe_callTy (call_set hc) hg hm (by decide +kernel) (pa_cons h pa_nil he) (by decide) (by decide) he rfl) fun σ H Q h => h
theorem df_sortedSet {p2 pos2:Pos} (hm:X.mg "sorted" = none) (hm2:X.mg "set" = none) (h:DQ X e fq) (hg:Gl X "sorted" := by rfl) (hg2:Gl X "set" := by rfl) (hc:X.calm = true := by rfl) (he:starEach [e] X.env = [(false,eval e X.env)] := by rfl) :
  DF X (.Call (.Name "sorted" p) [.Call (.Name "set" p2) [e] [] pos2] [] pos) (mQ sortSet fq) :=
 peOf (pe_callB (call_sortedSet hc) hg hm PyProof.Rows.boot_sorted (pa_cons (pe_set hm2 h hg2 hc he) pa_nil rfl) (by decide) (by decide) rfl rfl) fun σ H Q ⟨c,δ,S,T,xs,δ',s,e,k⟩ => by
  obtain ⟨ds,δ1,e1,e⟩ := bind_some e
  obtain ⟨e2,rfl⟩ := lift_some e
  refine ⟨c,δ,S,T,ds,δ1,s,e1,fun q vs H1 l hq s1 => ?_⟩
  unfold sortSet at e2
  split at e2
  ·rename_i ns en
   split at e2
   ·rename_i hn
    cases e2
    have ev := rs_ints (s1.st.left l) en
    subst ev
    refine ⟨q,ns,rfl,hq,by omega,fun m hm => ⟨m,ns,rfl,upd_same,hn,fun m2 hm2 => ?_⟩⟩
    have s2 := (s1.drop l).grow (same_new hm (SetΦ X.w m ns))
    obtain ⟨f1,f2,f3⟩ := s2.fresh hm2
    have s3 := s2.hide (o := .lst ((isort (ded ns)).map V.int)) hm2
    exact k m2 _ _ (by simp) (s3.stk ((rs_ofInts _).append s3.st)) f1 f2 f3
   ·cases e2
  ·cases e2
noncomputable def catL (xs ys:List D):Option (List D) := if xs.length + ys.length ≤ 100000 then some (xs ++ ys) else none
end
end Jt
namespace Jt
open PySem L2
inductive Hn where
 | th (x:D) | ls (j:Nat)
noncomputable def HnOk (c:Ct) (δ:DS) (S:List D) (σ:St) (T:List V) (H:Hp) (v:V):Hn -> Prop
 | .th d => Sl c δ (d :: S) σ (v :: T) H
 | .ls i => Sl c δ S σ T H ∧ σ[i]? = some (some v)
inductive tMH (f:M Hn) (σ:St) (H:Hp) (Q:VK):Prop
 | mk (c:Ct) (δ:DS) (S:List D) (T:List V) (h:Hn) (δ':DS) (s:Sl c δ S σ T H) (e:f δ = some (h,δ')) (q:∀ v H',HnOk c δ' S σ T H' v h -> Q v H'):tMH f σ H Q
noncomputable abbrev DH (X:Cx) (e:Expr) (f:M Hn):Prop := PE X e (tMH f)
noncomputable def Hn.ds:Hn -> List D
 | .th z => [z]
 | .ls _ => []
noncomputable def Hn.vs (v:V):Hn -> List V
 | .th _ => [v]
 | .ls _ => []
theorem Hn.len (v:V) (h:Hn):(h.vs v).length = h.ds.length := by cases h <;> rfl
noncomputable def rdH (h:Hn):M D := fun δ => match h with
 | .th d => some (d,δ)
 | .ls i => match δ[i]? with
  | some (.ow _ xs) => some (.lst xs,δ)
  | _ => none
theorem HnOk.sl {c:Ct} {δ:DS} {S:List D} {σ:St} {T:List V} {H:Hp} {v:V} {h:Hn} (k:HnOk c δ S σ T H v h):Sl c δ (h.ds ++ S) σ (h.vs v ++ T) H:= by
 cases h with
 | th d => exact k
 | ls i => exact k.1
theorem rdH_some {c:Ct} {δ δ':DS} {S:List D} {σ:St} {T:List V} {H:Hp} {v:V} {h:Hn} {d:D} (s:Sl c δ S σ T H) (hs:∀ d',h = .th d' -> R (vis c δ σ H) d' v) (ho:∀ i,h = .ls i -> σ[i]? = some (some v)) (e:rdH h δ = some (d,δ')):δ = δ' ∧ R H d v ∧
  (∀ xs,d = .lst xs -> ∃ p vs,v = .ref p ∧ Rd H p (.lst vs) ∧ Rs (vis c δ σ H) xs vs) ∧ ((∀ xs,d ≠ .lst xs) -> R (vis c δ σ H) d v):= by
 cases h with
 | th d0 =>
  cases e
  have r := hs d rfl
  refine ⟨rfl,r.mono hid_le,fun xs ex => ?_,fun _ => r⟩
  subst ex
  obtain ⟨p,vs,ev,h1,h2⟩ := r.lst
  exact ⟨p,vs,ev,Rd.mono hid_le h1,h2⟩
 | ls i =>
  unfold rdH at e
  dsimp only at e
  split at e
  ·rename_i b xs hx
   cases e
   obtain ⟨p,vs,ev,hp,hr⟩ := s.own hx
   rw [ho i rfl] at ev
   cases ev
   exact ⟨rfl,.mkL (.inl hp) (hr.mono hid_le),fun ys ey => by cases ey; exact ⟨p,vs,rfl,.inl hp,hr⟩,fun z => absurd rfl (z xs)⟩
  ·cases e
section
variable {X:Cx} {a b e:Expr} {fa fb:M D} {ha' hb':M Hn} {fs fF fq:M (List D)} {pos p apos cpos:Pos} {es rest:List Expr} {x:Str}
theorem dh_of (h:DE X e fa):DH X e (do let x <- fa; pure (.th x)) := peOf h fun σ H Q ⟨c,δ,S,T,h,δ',s,e,k⟩ => by
 obtain ⟨d,δ1,e1,e⟩ := bind_some e
 obtain ⟨rfl,rfl⟩ := pure_some e
 exact ⟨c,δ,S,T,d,δ1,s,e1,fun v H' s' => k v H' s'⟩
noncomputable def hOwn (i:Nat):M Hn := do
 let _ <- peekO i
 pure (.ls i)
theorem dh_own (i:Nat) {px:Pos} (hN:X.N[i]? = some x := by rfl) (hv:Vis X.env.scope x := by first | exact Or.inl rfl | exact Or.inr (Or.inl rfl) | exact Or.inr (Or.inr rfl)) (hd:(x == ("__debug__":Str)) = false := by decide) (hcd:(x == ("__classdict__":Str)) = false := by decide) :
  DH X (.Name x px) (hOwn i) := peOf (pe_var hN hv hd hcd) fun σ H Q ⟨c,δ,S,T,h,δ',s,e,k⟩ => by
 obtain ⟨xs,δ1,e1,e⟩ := bind_some e
 obtain ⟨rfl,rfl⟩ := pure_some e
 obtain ⟨⟨b,hi⟩,rfl⟩ := peekO_some e1
 obtain ⟨q,vs,ev,hq,hx⟩ := s.own hi
 exact ⟨_,ev,k _ H ⟨s,ev⟩⟩
noncomputable def m2H {α:Type} (g:D -> D -> Option α) (fa fb:M Hn):M α := do
 let h1 <- fa
 let h2 <- fb
 let x <- rdH h1
 let y <- rdH h2
 lift (g x y)
structure Two (c:Ct) (δ:DS) (S:List D) (σ:St) (T:List V) (H:Hp) (x y:D) (v u:V):Prop where
 sl:Sl c δ S σ T H
 rx:R H x v
 ry:R H y u
 lx:∀ xs,x = .lst xs -> ∃ p vs,v = .ref p ∧ Rd H p (.lst vs) ∧ Rs (vis c δ σ H) xs vs
 ly:∀ xs,y = .lst xs -> ∃ p vs,u = .ref p ∧ Rd H p (.lst vs) ∧ Rs (vis c δ σ H) xs vs
theorem tTwo {α:Type} {r:R2} {g:D -> D -> Option α} {W:Ct -> DS -> List D -> St -> List V -> VK -> α -> Prop}
  (hr:∀ c δ S σ T H x y v u z Q,Two c δ S σ T H x y v u -> g x y = some z -> W c δ S σ T Q z -> r v u H Q) :
  ∀ σ H Q,(∃ c δ S T z δ',Sl c δ S σ T H ∧ m2H g ha' hb' δ = some (z,δ') ∧ W c δ' S σ T Q z) -> tOp r (tMH ha') (tMH hb') σ H Q := fun σ H Q ⟨c,δ,S,T,z,δ',s,e,k⟩ => by
 obtain ⟨h1,δ1,e1,e⟩ := bind_some e
 obtain ⟨h2,δ2,e2,e⟩ := bind_some e
 obtain ⟨x,δ3,e3,e⟩ := bind_some e
 obtain ⟨y,δ4,e4,e⟩ := bind_some e
 obtain ⟨e5,rfl⟩ := lift_some e
 refine ⟨c,δ,S,T,h1,δ1,s,e1,fun v H1 k1 => ?_⟩
 refine ⟨c,δ1,h1.ds ++ S,h1.vs v ++ T,h2,δ2,k1.sl,e2,fun u H2 k2 => ?_⟩
 have s2 := k2.sl
 have s3:Sl c δ2 S σ T H2 := (s2.drop (Hn.len u h2)).drop (Hn.len v h1)
 obtain ⟨rfl,r1,l1,_⟩ := rdH_some s3 (v := v) (h := h1) (fun d' ed => by
  subst ed
  exact (s2.drop (Hn.len u h2)).st.head) (fun i ei => by subst ei; exact k1.2) e3
 obtain ⟨rfl,r2,l2,_⟩ := rdH_some s3 (v := u) (h := h2) (fun d' ed => by
  subst ed
  exact s2.st.head) (fun i ei => by subst ei; exact k2.2) e4
 exact hr c δ2 S σ T H2 x y v u z Q ⟨s3,r1,r2,l1,l2⟩ e5 k
noncomputable def rCatL:R2 := fun x y H Q => ∃ l b xs zs,x = .ref l ∧ y = .ref b ∧ Rd H l (.lst xs) ∧ Rd H b (.lst zs) ∧ xs.length + zs.length ≤ sizeLine ∧ ∀ p,H p = none -> Q (.ref p) (upd H p (.lst (xs ++ zs)))
theorem op_catL:OpR X (binaryOp .Add) rCatL:= by
 intro pins s σ H x y v u Q I rx ry h
 obtain ⟨l,b,xs,zs,rfl,rfl,hH,hB,hz,q⟩ := h
 cases rx
 cases ry
 obtain ⟨z,its,n,r,e⟩ := hH.ok I.hok
 obtain ⟨z2,its2,n2,r2,e2⟩ := hB.ok I.hok
 refine PySem.P.add_list e e2 ?_ (by rw [List.size_toArray,List.size_toArray,<- r.length,<- r2.length]; exact hz)
 rw [show its.toArray ++ its2.toArray = (its ++ its2).toArray by simp]
 exact ⟨.ref _,_,I.lnew (t' := s.toks) (r.append r2) (by rw [List.length_append]; exact hz),rfl,q _ I.fresh⟩
noncomputable def gCat:D -> D -> Option (List D)
 | .lst xs,.lst ys => catL xs ys
 | _,_ => none
theorem df_cat (ha:DH X a ha') (hb:DH X b hb'):DF X (.BinOp a .Add b pos) (m2H gCat ha' hb') := peOf (pe_op op_catL ha hb) fun σ H Q ⟨c,δ,S,T,z,δ',s,e,k⟩ => by
 refine tTwo (W := fun c δ' S σ T Q z => ∀ l vs H',vs.length = z.length -> Sl { c with Z := upd c.Z l (.lst vs) } δ' (z ++ S) σ (vs ++ T) H' -> c.Z l = none -> l ∉ c.B -> c.H0 l = none -> Q (.ref l) H') (fun c δ S σ T H x y v u z Q t eg w => ?_) σ H Q ⟨c,δ,S,T,z,δ',s,e,k⟩
 cases x with
 | lst xs =>
  cases y with
  | lst ys =>
   have eg':(if xs.length + ys.length ≤ 100000 then some (xs ++ ys) else none) = some z := eg
   split at eg'
   ·rename_i hn
    cases eg'
    obtain ⟨p1,vs,rfl,a1,a2⟩ := t.lx xs rfl
    obtain ⟨p2,us,rfl,b1,b2⟩ := t.ly ys rfl
    have hl:(100000:Nat) < sizeLine := by rw [sizeLine_eq]; decide
    refine ⟨p1,p2,vs,us,rfl,rfl,a1,b1,by rw [a2.length,b2.length]; omega,fun q hq => ?_⟩
    have s1 := t.sl.stk ((a2.append b2).append t.sl.st)
    obtain ⟨f1,f2,f3⟩ := s1.fresh hq
    exact w q _ _ (by rw [List.length_append,List.length_append,a2.length,b2.length]) (s1.hide hq) f1 f2 f3
   ·cases eg'
  | _ => cases eg
 | _ => cases eg
noncomputable def gEq (neg:Bool) (x y:D):Option D := if seqs x y = true then (eqD 9 x y).map fun b => .bl (if neg then !b else b) else dEqF neg x y
theorem eqH_two {c:Ct} {δ:DS} {S:List D} {σ:St} {T:List V} {H:Hp} {x y:D} {v u:V} {z:D} {Q:VK} {neg:Bool} {r:R2} (t:Two c δ S σ T H x y v u) (eg:gEq neg x y = some z) (w:∀ v H',Sl c δ (z :: S) σ (v :: T) H' -> Q v H')
  (hs:∀ (b:Bool),seqs x y = true -> eqD 9 x y = some b -> Q (.bl (if neg then !b else b)) H -> r v u H Q) (hf:scal v u = true -> Q (.bl (if neg then !decide (v = u) else decide (v = u))) H -> r v u H Q):r v u H Q:= by
 unfold gEq at eg
 split at eg
 ·rename_i hq
  cases q:eqD 9 x y with
  | none => rw [q] at eg; cases eg
  | some b =>
   rw [q] at eg; cases eg
   exact hs b hq q (w _ _ (t.sl.stk (.cons .mkB t.sl.st)))
 ·unfold dEqF at eg
  split at eg
  ·rename_i w1 z1 e1 e2
   split at eg
   ·rename_i hsc
    cases eg
    obtain ⟨rfl,_⟩ := flat_of t.rx e1
    obtain ⟨rfl,_⟩ := flat_of t.ry e2
    exact hf hsc (w _ _ (t.sl.stk (.cons .mkB t.sl.st)))
   ·cases eg
  ·cases eg
theorem de_neH {k:Nat} (hr:Room k X.A) (ha:DH X a ha') (hb:DH X b hb'):DE X (.Compare a [.NotEq] [b] pos) (m2H (gEq true) ha' hb') := peOf (pe_cmpR (op_neD (room20 hr)) ha hb (nomark _)) fun σ H Q ⟨c,δ,S,T,z,δ',s,e,k⟩ =>
 tTwo (W := fun c δ' S σ T Q z => ∀ v H',Sl c δ' (z :: S) σ (v :: T) H' -> Q v H') (fun c δ S σ T H x y v u z Q t eg w => eqH_two t eg w (fun b hs he q => .inr ⟨H,x,y,b,fun _ _ h => h,t.rx,t.ry,hs,he,q⟩) fun hs q => .inl ⟨hs,q⟩) σ H Q ⟨c,δ,S,T,z,δ',s,e,k⟩
theorem tH2 {g:D -> D -> Option D} {r:R2} (w:∀ σ H Q,tM (m2H g ha' hb') σ H Q -> tOp r (tMH ha') (tMH hb') σ H Q):∀ σ H Q,tMT (m2H g ha' hb' >>= asB) σ H Q -> tTest (tOp r (tMH ha') (tMH hb')) σ H Q := fun σ H Q ⟨c,δ,S,T,d,δ',s,e,k⟩ => by
 obtain ⟨x,δ1,e1,e⟩ := bind_some e
 obtain ⟨rfl,rfl⟩ := asB_some e
 exact w σ H _ ⟨c,δ,S,T,.bl d,δ1,s,e1,fun v H' s' => ⟨d,s'.st.head.bl,k _ s'.pop⟩⟩
theorem dt_neH {k:Nat} (hr:Room k X.A) (ha:DH X a ha') (hb:DH X b hb'):DT X (.Compare a [.NotEq] [b] pos) (m2H (gEq true) ha' hb' >>= asB) := ptOf (pt_cmpR (op_neD (room20 hr)) ha hb (nomark _)) (tH2 fun σ H Q ⟨c,δ,S,T,z,δ',s,e,k⟩ =>
 tTwo (W := fun c δ' S σ T Q z => ∀ v H',Sl c δ' (z :: S) σ (v :: T) H' -> Q v H') (fun c δ S σ T H x y v u z Q t eg w => eqH_two t eg w (fun b hs he q => .inr ⟨H,x,y,b,fun _ _ h => h,t.rx,t.ry,hs,he,q⟩) fun hs q => .inl ⟨hs,q⟩) σ H Q ⟨c,δ,S,T,z,δ',s,e,k⟩)
inductive tMAr (f:M (List D)) (σ:St) (H:Hp) (Q:List V -> Hp -> Prop):Prop
 | mk (c:Ct) (δ:DS) (S:List D) (T:List V) (ds:List D) (δ':DS) (s:Sl c δ S σ T H) (e:f δ = some (ds,δ')) (q:∀ vs H',Sl c δ' S σ T H' -> Rs H' ds vs -> Q vs H'):tMAr f σ H Q
noncomputable abbrev DAr (X:Cx) (es:List Expr) (f:M (List D)):Prop := PA X es (tMAr f)
theorem dar_nil:DAr X [] (pure []) := paOf pa_nil fun σ H Q ⟨c,δ,S,T,d,δ',s,e,k⟩ => by
 obtain ⟨rfl,rfl⟩ := pure_some e
 exact k [] H s .nil
noncomputable def mConsH (fa:M Hn) (fs:M (List D)):M (List D) := do
 let h <- fa
 let xs <- fs
 let x <- rdH h
 pure (x :: xs)
theorem dar_cons (ha:DH X a ha') (hr:DAr X es fs) (hs:starEach (a :: es) X.env = (false,eval a X.env) :: starEach es X.env := by rfl):DAr X (a :: es) (mConsH ha' fs) := paOf (pa_cons ha hr hs) fun σ H Q ⟨c,δ,S,T,d,δ',s,e,k⟩ => by
 obtain ⟨h,δ1,e1,e⟩ := bind_some e
 obtain ⟨xs,δ2,e2,e⟩ := bind_some e
 obtain ⟨x,δ3,e3,e⟩ := bind_some e
 obtain ⟨rfl,rfl⟩ := pure_some e
 refine ⟨c,δ,S,T,h,δ1,s,e1,fun v H1 k1 => ⟨c,δ1,h.ds ++ S,h.vs v ++ T,xs,δ2,k1.sl,e2,fun vs H2 s2 r2 => ?_⟩⟩
 have s3 := s2.drop (Hn.len v h)
 obtain ⟨rfl,rv,_⟩ := rdH_some s3 (v := v) (h := h) (fun d' ed => by
  subst ed
  exact s2.st.head) (fun i ei => by subst ei; exact k1.2) e3
 exact k (v :: vs) H2 s3 (.cons rv r2)
noncomputable def flatOnly (d:D):Option D := match flat d with
 | some _ => some d
 | none => none
theorem flat_any {d:D} {v:V} {H H':Hp} (h:(flatOnly d).isSome = true) (r:R H d v):R H' d v:= by
 cases d with
 | non => rw [r.non]; exact .mkN
 | bl b => rw [r.bl]; exact .mkB
 | int b => rw [r.int]; exact .mkI
 | str b => rw [r.str]; exact .mkS
 | tup _ => cases h
 | lst _ => cases h
 | dct => cases h
noncomputable def lent (n:Nat) (mf:List D -> Option D) (ds:List D):Option D := if ds.length = n then (mf ds).bind flatOnly else none
variable {k:Nat} {f:Addr} {fd:FuncData} {ps:List Str}
theorem de_callR {mf:List D -> Option D} {n:Nat} (F:FnOk X.prog X.w X.K X.mg X.base CX0 k f fd ps (spP n mf)) (hr:Room k X.A) (hm:X.mg x = some (.ref f)) (hk:PySem.W.keepIn X.K (.ref f) = true) (hb:Binds X.K fd ps []) (ha:DAr X (a :: es) fs)
  (hg:Gl X x := by rfl) (hdb:(x == ("__debug__":Str)) = false := by decide) (he:starEach (a :: es) X.env = (false,eval a X.env) :: starEach es X.env := by rfl) (hpl:(backTo pos (starEach es X.env)).any (·.1) = false := by rfl) :
  DE X (.Call (.Name x p) (a :: es) [] pos) (mC (lent n mf) fs) := peOf (pe_call F hr hg hm hk hb .nil pass0 ha hdb he hpl) fun σ H Q ⟨c,δ,S,T,d,δ',s,e,k⟩ => by
 obtain ⟨ds,δ1,e1,e⟩ := bind_some e
 obtain ⟨e2,rfl⟩ := lift_some e
 refine ⟨c,δ,S,T,ds,δ1,s,e1,fun vs H1 s1 rs => ?_⟩
 unfold lent at e2
 split at e2
 ·rename_i hn
  cases q:mf ds with
  | none => rw [q] at e2; cases e2
  | some d0 =>
   rw [q] at e2
   have e3:flatOnly d0 = some d := e2
   have ed:d0 = d:= by
    unfold flatOnly at e3
    split at e3
    ·cases e3; rfl
    ·cases e3
   subst ed
   rw [List.append_nil]
   refine ⟨rs.length.trans hn,fun _ => none,ds,d0,(fun a o z => nomatch z),rs.mono fun b o h => hid_some.mpr ⟨(fun ⟨_,z⟩ => nomatch z),h⟩,q,fun v H' g r => k v H' ?_⟩
   have s2 := s1.grow g
   exact s2.stk (.cons (flat_any (by rw [e3]; rfl) r) s2.st)
 ·cases e2
end
end Jt
namespace Jt
open PySem L2
section
variable {X:Cx} {pins:List (Addr × Obj)} {σ:St} {H:Hp} {s:Shared} {h':Heap}
theorem _root_.L2.Inv.turnedN {t':Nat} {fp:List Addr} {p:Addr} {o:HO} (I:Inv X pins σ H s) (k:∀ b o,b ∉ fp -> s.heap.get? b = some o -> h'.get? b = some o) (hf:∀ b ∈ fp,FpOk X pins H b) (hp:s.heap.objs.size ≤ p) (new:ObjOk X.prog X.w (upd H p o) h' p o) :
  Inv X pins σ (upd H p o) { s with heap := h',toks := t' }:= by
 have hn:H p = none := I.hok.fresh hp
 have nit:∀ b u,H b = some u -> b ∉ fp := fun b u e z => by rw [(hf b z).1] at e; cases e
 refine I.step (g' := s.gens) (d' := s.drawn) (ch := fp) (fun b hb => ?_) (fun b o _ _ hc e _ => k b o hc e) (fun b o _ _ hc e _ => ⟨o.slots,k b o hc e⟩) (fun b o _ e n => ?_)
  (fun b o hc e => ⟨o,k b o hc e⟩) (fun b xs e => by rw [upd_ne (ne_of_none e hn)]; exact e) (fun b o u e => by rw [upd_ne (ne_of_none e hn)]; exact e) (fun b ps e => ⟨#[],by rw [upd_ne (ne_of_none e hn),e]; simp⟩) (fun m hm => ?_) (fun b u e => ?_) I.bare
 ·obtain ⟨_,f1,_,f3,f4,f5⟩ := hf b hb
  exact ⟨f3,f1,f4,f5⟩
 ·rw [upd_ne fun z => by subst z; exact Nat.lt_irrefl _ (Nat.lt_of_lt_of_le (Heap.lt_size e) hp)]; exact n
 ·obtain ⟨o',es,ep,ho,r⟩ := hm
  exact ⟨o',es,ep,k _ o' (fun z => (hf _ z).2.1 rfl) ho,r⟩
 ·by_cases hb:b = p
  ·subst hb; rw [upd_same] at e; cases e; exact new
  ·rw [upd_ne hb] at e
   refine (I.hok b u e).stay (fun c v hc q => k c v ?_ q) (fun c q => by rw [upd_ne (ne_of_none q hn)]; exact q) fun c xs q => by rw [upd_ne (ne_of_none q hn)]; exact q
   rcases hc with z | z
   ·rw [z]; exact nit b u e
   ·exact nit c _ z
theorem _root_.L2.Inv.turnedL {t':Nat} {fp:List Addr} (I:Inv X pins σ H s) (k:∀ b o,b ∉ fp -> s.heap.get? b = some o -> h'.get? b = some o) (hf:∀ b ∈ fp,FpOk X pins H b):Inv X pins σ H { s with heap := h',toks := t' }:= by
 have nit:∀ b u,H b = some u -> b ∉ fp := fun b u e z => by rw [(hf b z).1] at e; cases e
 refine I.step (g' := s.gens) (d' := s.drawn) (ch := fp) (fun b hb => ?_) (fun b o _ _ hc e _ => k b o hc e) (fun b o _ _ hc e _ => ⟨o.slots,k b o hc e⟩) (fun _ _ _ _ n => n)
  (fun b o hc e => ⟨o,k b o hc e⟩) (fun _ _ e => e) (fun _ _ _ e => e) (fun b ps e => ⟨#[],by rw [e]; simp⟩) (fun m hm => ?_) (fun b u e => ?_) I.bare
 ·obtain ⟨_,f1,_,f3,f4,f5⟩ := hf b hb
  exact ⟨f3,f1,f4,f5⟩
 ·obtain ⟨o',es,ep,ho,r⟩ := hm
  exact ⟨o',es,ep,k _ o' (fun z => (hf _ z).2.1 rfl) ho,r⟩
 ·refine (I.hok b u e).stay (fun c v hc q => k c v ?_ q) (fun _ q => q) fun _ _ q => q
  rcases hc with z | z
  ·rw [z]; exact nit b u e
  ·exact nit c _ z
noncomputable def Sq (b:Bool) (K:PySem.W.Frag) (H:Hp) (q:Addr) (xs:List V):Prop := match b with
 | true => SqT K H q xs
 | false => SqL K H q xs
theorem _root_.L2.Inv.sq {b:Bool} {q:Addr} {xs:List V} (I:Inv X pins σ H s) (h:Sq b X.K H q xs):∃ its:List Value,Vals xs its ∧ SqA b s.heap q its.toArray:= by
 cases b with
 | true => obtain ⟨its,r,p,_⟩ := I.tuple h; exact ⟨its,r,p⟩
 | false => obtain ⟨its,r,p,_⟩ := I.list h; exact ⟨its,r,p.isList⟩
theorem _root_.L2.Inv.sq_inj {b:Bool} {q:Addr} {xs ys:List V} (I:Inv X pins σ H s) (h:Sq b X.K H q xs) (h':Sq b X.K H q ys):xs = ys:= by
 cases b with
 | true => exact I.tuple_inj h h'
 | false => exact I.list_inj h h'
noncomputable def Itz (K:PySem.W.Frag) (b1 b2:Bool) (l1 l2:Addr):It :=
 ⟨fun i H => ∃ xs ys x y,Sq b1 K H l1 xs ∧ Sq b2 K H l2 ys ∧ xs[i]? = some x ∧ ys[i]? = some y,
   fun i H x H' => ∃ p v u,x = .ref p ∧ H p = none ∧ H' = upd H p (.tup [v,u]) ∧ (∀ xs,Sq b1 K H l1 xs -> xs[i]? = some v) ∧ ∀ ys,Sq b2 K H l2 ys -> ys[i]? = some u,
   fun i H => ∃ xs ys,Sq b1 K H l1 xs ∧ Sq b2 K H l2 ys ∧ (xs.length ≤ i ∨ ys.length ≤ i)⟩
noncomputable def Zt (b1 b2:Bool) (z TI TO i1 i2 l1 l2:Addr) (k:Nat) (h:Heap):Prop := IsZip h z TI TO .none ∧ IsPair h TI (.ref i1) (.ref i2) ∧ (∃ a c,IsPair h TO a c) ∧ SqI b1 h i1 l1 k ∧ SqI b2 h i2 l2 k
theorem turn_zip {P:Program} {w:World} {K:PySem.W.Frag} {es:List Expr} {x1} {pt:Pos} (b1 b2:Bool) {z TI TO i1 i2 l1 l2:Addr} (D:Zap z TI TO i1 i2 l1 l2) (hfl1:l1 ∉ [z,TI,TO,i1,i2]) (hfl2:l2 ∉ [z,TI,TO,i1,i2]) :
  Turn P w K (.Tuple es x1 pt) (Itz K b1 b2 l1 l2) [z,TI,TO,i1,i2] z (Zt b1 b2 z TI TO i1 i2 l1 l2) where
 mem := by simp
 obj := fun i h st b hb => by
  obtain ⟨s1,s2,⟨a,c,s3⟩,s4,s5⟩ := st
  have itc:∀ {bb:Bool} {it l:Addr},SqI bb h it l i -> ∃ o,h.get? it = some o ∧ ∀ v,o.data ≠ .cell v := fun {bb it l} q => by
   cases bb with
   | true => obtain ⟨o,e,_,d⟩ := q; exact ⟨o,e,fun v z => by rw [d] at z; cases z⟩
   | false => obtain ⟨o,e,_,d⟩ := q; exact ⟨o,e,fun v z => by rw [d] at z; cases z⟩
  simp only [List.mem_cons,List.not_mem_nil,or_false] at hb
  rcases hb with e | e | e | e | e <;> subst e
  ·exact ⟨_,s1,fun v q => by cases q⟩
  ·exact ⟨_,s2,fun v q => by cases q⟩
  ·exact ⟨_,s3,fun v q => by cases q⟩
  ·exact itc s4
  ·exact itc s5
 keep := fun i h h' st k => by
  obtain ⟨s1,s2,⟨a,c,s3⟩,s4,s5⟩ := st
  exact ⟨k z (by simp) _ s1,k TI (by simp) _ s2,⟨a,c,k TO (by simp) _ s3⟩,s4.at (k i1 (by simp)),s5.at (k i2 (by simp))⟩
 item:= by
  intro X hP hw hK hc i pins s σ H E I hf st hg
  subst hP hw hK
  obtain ⟨xs,ys,x,y,hq1,hq2,hx,hy⟩ := hg
  obtain ⟨it1,r1,p1⟩ := I.sq hq1
  obtain ⟨it2,r2,p2⟩ := I.sq hq2
  obtain ⟨u1,e1,ru1⟩ := r1.get hx
  obtain ⟨u2,e2,ru2⟩ := r2.get hy
  obtain ⟨s1,s2,s3,s4,s5⟩ := st
  refine zip_item D ⟨s1,s2,s3,s4,s5,p1,p2⟩ (by simpa using e1) (by simpa using e2) fun h' st' hp kp => ?_
  obtain ⟨t1,t2,⟨a,c,t3⟩,t4,t5,_,_⟩ := st'
  have kp':∀ b o,b ∉ [z,TI,TO,i1,i2] -> s.heap.get? b = some o -> h'.get? b = some o := fun b o hb e => kp b o (fun hm => hb (by
   simp only [List.mem_cons,List.not_mem_nil,or_false] at hm ⊢
   rcases hm with e | e | e | e <;> simp [e])) e
  refine ⟨.ref s.heap.objs.size,rfl,wpAny_letOwnedTupleGo_zip (s := { s with heap := h' }) t1 fun h2 z2 sb => ?_⟩
  obtain ⟨n1,n2,n3,n4,n5,n6,n7,n8,n9,n10,m1,m2,m3,m4,m5,m6,m7,m8⟩ := D.ne
  have hzl:z < s.heap.objs.size := Heap.lt_size s1
  have new2:IsPair h2 s.heap.objs.size u1 u2 := sb.extBut _ _ (Nat.ne_of_gt hzl) hp
  refine ⟨.ref s.heap.objs.size,upd H s.heap.objs.size (.tup [x,y]),I.turnedN (t' := s.toks) (fp := [z,TI,TO,i1,i2]) (fun b o hb e => sb.extBut _ _ (fun q => hb (by rw [q]; simp)) (kp' b o hb e)) hf (Nat.le_refl _) ⟨by rw [sizeLine_eq]; show 2 ≤ _; decide,[u1,u2],.cons ru1 (.cons ru2 .nil),⟨_,new2,rfl,_,rfl⟩⟩,rfl,
   ⟨_,x,y,rfl,I.fresh,rfl,fun zs hz => by rw [I.sq_inj hz hq1]; exact hx,fun zs hz => by rw [I.sq_inj hz hq2]; exact hy⟩,⟨z2,sb.extBut _ _ n1 t2,⟨a,c,sb.extBut _ _ n2 t3⟩,t4.at fun o e => sb.extBut _ _ n3 e,t5.at fun o e => sb.extBut _ _ n4 e⟩,fun b hb => ?_⟩
  have hb0 := (hf b hb).1
  rw [upd_ne fun q => ?_]
  ·exact hb0
  ·have:b < s.heap.objs.size:= by
    simp only [List.mem_cons,List.not_mem_nil,or_false] at hb
    rcases hb with e | e | e | e | e <;> subst e
    ·exact hzl
    ·exact Heap.lt_size s2
    ·obtain ⟨_,_,s3⟩ := s3; exact Heap.lt_size s3
    ·exact s4.lt
    ·exact s5.lt
   rw [q] at this
   exact Nat.lt_irrefl _ this
 done:= by
  intro X hP hw hK hc i pins s σ H E I hf st hg
  subst hP hw hK
  obtain ⟨xs,ys,hq1,hq2,hx⟩ := hg
  obtain ⟨it1,r1,p1⟩ := I.sq hq1
  obtain ⟨it2,r2,p2⟩ := I.sq hq2
  obtain ⟨s1,s2,s3,s4,s5⟩ := st
  have l1 := r1.length
  have l2 := r2.length
  refine zip_end (I.ok.hd hc) D ⟨s1,s2,s3,s4,s5,p1,p2⟩ (hx.elim (fun q => .inl (by simp; omega)) fun q => .inr (by simp; omega)) fun h' kp => ⟨rfl,I.turnedL (t' := s.toks) (fp := [z,TI,TO,i1,i2]) (fun b o hb e => kp b o (fun hm => hb (by
   simp only [List.mem_cons,List.not_mem_nil,or_false] at hm ⊢
   rcases hm with e | e | e | e <;> simp [e])) e) hf⟩
 self := fun A i s Q E st h => wpAny_pyIter_zip st.1 h
end
end Jt
namespace Jt
open PySem L2
section
variable {X:Cx} {a b c0 e tg:Expr} {fa fb fc:M D} {fs fF fq:M (List D)} {pos p p2 apos cpos pt:Pos} {es rest:List Expr} {x:Str} {x1:Nat}
noncomputable def seqK:D -> Option (Bool × List D)
 | .tup ds => some (true,ds)
 | .lst ds => some (false,ds)
 | _ => none
theorem seqK_of {c:Ct} {δ:DS} {σ:St} {H:Hp} {K:PySem.W.Frag} {d:D} {v:V} {b:Bool} {xs:List D} (r:R (vis c δ σ H) d v) (e:seqK d = some (b,xs)):∃ p vs,v = .ref p ∧ Sq b K H p vs ∧ Rs (vis c δ σ H) xs vs:= by
 cases d with
 | tup ds =>
  cases e
  obtain ⟨p,vs,ev,h1,h2⟩ := r.tup
  exact ⟨p,vs,ev,.of (hid_le _ _ h1),h2⟩
 | lst ds =>
  cases e
  obtain ⟨p,vs,ev,h1,h2⟩ := r.lst
  exact ⟨p,vs,ev,.inl (Rd.mono hid_le h1),h2⟩
 | _ => cases e
noncomputable def zipD:List D -> List D -> List D
 | x :: xs,y :: ys => .tup [x,y] :: zipD xs ys
 | _,_ => []
theorem zipD_get:∀ {xs ys:List D} {i:Nat} {d:D},(zipD xs ys)[i]? = some d -> ∃ x y,xs[i]? = some x ∧ ys[i]? = some y ∧ d = .tup [x,y]
 | x :: xs,y :: ys,0,d,h => by cases h; exact ⟨x,y,rfl,rfl,rfl⟩
 | x :: xs,y :: ys,i + 1,d,h => by
  obtain ⟨x',y',h1,h2,h3⟩ := zipD_get (xs := xs) (ys := ys) (i := i) (by simpa [zipD] using h)
  exact ⟨x',y',by simpa using h1,by simpa using h2,h3⟩
 | [],_,i,d,h => by simp [zipD] at h
 | _ :: _,[],i,d,h => by simp [zipD] at h
theorem zipD_len:∀ (xs ys:List D),(zipD xs ys).length = min xs.length ys.length
 | x :: xs,y :: ys => by simp [zipD,zipD_len xs ys,Nat.add_min_add_right]
 | [],_ => by simp [zipD]
 | _ :: _,[] => by simp [zipD]
theorem pi_zip {ta:TA} (hg:Gl X "zip") (hm:X.mg "zip" = none) (ha:PA X [a,b] ta) (hs:starEach [a,b] X.env = [(false,eval a X.env),(false,eval b X.env)] := by rfl) (hs2:starEach [b] X.env = [(false,eval b X.env)] := by rfl) :
  PI X (.Tuple es x1 pt) (.Call (.Name "zip" p) [a,b] [] pos) (fun σ H R => ta σ H fun vs H1 => ∃ b1 b2 l1 l2 xs ys,vs = [.ref l1,.ref l2] ∧ Sq b1 X.K H1 l1 xs ∧ Sq b2 X.K H1 l2 ys ∧ R (Itz X.K b1 b2 l1 l2) H1):= by
 intro pins s σ H R I h
 refine PyProof.Rows.Call_ (ld_blt I hg hm (show bootBuiltins "zip" = some (.type "zip") by decide +kernel) (PyProof.Rows.callWith_type1 (thn (ha pos pins s σ H _ I h) fun us s1 ⟨vs,H1,I1,r1,q1⟩ => ?_) (by rw [hs,hs2]) (by rw [hs2]; rfl)))
 obtain ⟨b1,b2,l1,l2,xs,ys,e,h1,h2,q⟩ := q1
 subst e
 obtain ⟨u1,u2,rfl,ru1,ru2⟩ := r1.two
 cases ru1
 cases ru2
 obtain ⟨i1s,rv1,p1⟩ := I1.sq h1
 obtain ⟨i2s,rv2,p2⟩ := I1.sq h2
 refine new_zip p1 p2 fun h' z TI TO i1 i2 D st kp hnew => ?_
 have I2:Inv X pins σ H1 { s1 with heap := h' } := I1.kept (t' := s1.toks) kp
 obtain ⟨t1,t2,t3,t4,t5,_,_⟩ := st
 refine wpAny_pyIter_zip (s := { s1 with heap := h' }) t1 ⟨z,[z,TI,TO,i1,i2],_,_,H1,rfl,I2,turn_zip b1 b2 D ?_ ?_,⟨t1,t2,t3,t4,t5⟩,fun c hc => ?_,q⟩
 ·intro hc
  exact Nat.lt_irrefl _ (Nat.lt_of_lt_of_le p1.lt (hnew _ hc))
 ·intro hc
  exact Nat.lt_irrefl _ (Nat.lt_of_lt_of_le p2.lt (hnew _ hc))
 ·exact I1.fpOk (hnew c hc) (I1.hok.fresh (hnew c hc))
noncomputable def zipIts:List D -> Option Its
 | [x,y] => match seqK x,seqK y with
  | some (_,xs),some (_,ys) => some (itsOf (zipD xs ys))
  | _,_ => none
 | _ => none
theorem itd_zip {K:PySem.W.Frag} {b1 b2:Bool} {dx dy:D} {xs ys:List D} {l1 l2:Addr} (e1:seqK dx = some (b1,xs)) (e2:seqK dy = some (b2,ys)):ItD (Itz K b1 b2 l1 l2) (itsOf (zipD xs ys)) [dx,dy] [.ref l1,.ref l2] := fun c δ S σ T H i s => by
 obtain ⟨p1,vs,q1,h1,r1⟩ := seqK_of (K := K) s.st.head e1
 obtain ⟨p2,us,q2,h2,r2⟩ := seqK_of (K := K) s.st.tail.head e2
 cases q1
 cases q2
 refine ⟨fun act d ha hd => ?_,fun ei _ => ⟨vs,us,h1,h2,?_⟩⟩
 ·obtain ⟨x,y,g1,g2,rfl⟩ := zipD_get (itsOf_get ha hd)
  obtain ⟨v,gv,rv⟩ := r1.get g1
  obtain ⟨u,gu,ru⟩ := r2.get g2
  refine ⟨⟨vs,us,v,u,h1,h2,gv,gu⟩,fun z H' yl => ?_⟩
  obtain ⟨q,v',u',rfl,hq,rfl,y1,y2⟩ := yl
  have ev := y1 vs h1
  have eu := y2 us h2
  rw [gv] at ev; cases ev
  rw [gu] at eu; cases eu
  exact (s.stk (.cons rv (.cons ru s.st))).newTup (ds := [x,y]) (vs := [v,u]) rfl hq
 ·rw [r1.length,r2.length]
  have:(itsOf (zipD xs ys)).1.length = min xs.length ys.length := by simp [itsOf,zipD_len]
  omega
theorem di_zip (hm:X.mg "zip" = none) (ha:DA X [a,b] fs) (hg:Gl X "zip" := by rfl) (hs:starEach [a,b] X.env = [(false,eval a X.env),(false,eval b X.env)] := by rfl) (hs2:starEach [b] X.env = [(false,eval b X.env)] := by rfl) :
  DI X (.Tuple es x1 pt) (.Call (.Name "zip" p) [a,b] [] pos) (mC zipIts fs) := piOf (pi_zip hg hm ha hs hs2) fun σ H Rr ⟨c,δ,S,T,it,δ',s,e,k⟩ => by
 obtain ⟨ds,δ1,e1,e⟩ := bind_some e
 obtain ⟨e2,rfl⟩ := lift_some e
 refine ⟨c,δ,S,T,ds,δ1,s,e1,fun vs H1 l s1 => ?_⟩
 unfold zipIts at e2
 split at e2
 ·rename_i dx dy
  split at e2
  ·rename_i b1 xs b2 ys q1 q2
   cases e2
   obtain ⟨v,u,rfl,r1,r2⟩ := rs2 (s1.st.left l)
   obtain ⟨p1,vs,rfl,h1,_⟩ := seqK_of (K := X.K) r1 q1
   obtain ⟨p2,us,rfl,h2,_⟩ := seqK_of (K := X.K) r2 q2
   exact ⟨b1,b2,p1,p2,vs,us,rfl,h1,h2,k _ [dx,dy] [.ref p1,.ref p2] H1 rfl (itd_zip q1 q2) s1⟩
  ·cases e2
 ·cases e2
theorem vals_tys:∀ {ts:List Ty} {us:List Value},Vals (ts.map fun T => V.ty T.name) us -> us = ts.map fun T => Value.type T.name
 | [],us,r => by cases r; rfl
 | t :: ts,us,r => by
  rw [List.map_cons] at r
  cases r with
  | cons r1 r2 => rw [List.map_cons,vals_tys r2]; cases r1; rfl
noncomputable def tTys (ts:List Ty):TA := fun _ H Q => Q (ts.map fun T => V.ty T.name) H
theorem pa_ty (T:Ty) {ts:List Ty} {y:Str} {py:Pos} (hmy:X.mg y = none) (h:PA X es (tTys ts)) (hv:bootBuiltins y = some (.type T.name) := by decide +kernel) (hgy:Gl X y := by rfl) (hn:y ≠ "__name__" := by decide) (hd:(y == ("__debug__":Str)) = false := by decide)
  (hs:starEach (.Name y py :: es) X.env = (false,eval (.Name y py) X.env) :: starEach es X.env := by rfl):PA X (.Name y py :: es) (tTys (T :: ts)) := pa_cons (pe_ty T hgy hmy hv hn hd) h hs
theorem pa_ty0:PA X [] (tTys []) := pa_nil
noncomputable def tyObj (ts:List Ty):HO := .frz { cls := .type "tuple",data := .seq (ts.map fun T => Value.type T.name).toArray } (.tup (ts.map fun T => V.ty T.name))
theorem pe_tys {ts:List Ty} (h:PA X es (tTys ts)) (hl:ts.length ≤ 100 := by decide):PE X (.Tuple es x1 pos) (fun σ H Q => ∀ p,H p = none -> Q (.ref p) (upd H p (tyObj ts))) := fun pins s σ H Q I hq => by
 refine wpAny_Tuple_spliced (thn (h pos pins s σ H (fun vs H' => vs = (ts.map fun T => V.ty T.name) ∧ H' = H) I ⟨rfl,rfl⟩) fun us s1 ⟨xs,H1,I1,r,ex,eH⟩ => ?_)
 subst ex; subst eH
 have eu := vals_tys r
 have hz:(ts.map fun T => V.ty T.name).length ≤ sizeLine := by rw [List.length_map,sizeLine_eq]; omega
 refine ⟨by rw [<- r.length]; exact hz,?_⟩
 refine ⟨.ref s1.heap.objs.size,upd H1 s1.heap.objs.size (tyObj ts),I1.laid (t' := s1.toks) (o := tyObj ts) (fun b u e => Heap.get?_push_of_some _ e) (Nat.le_refl _) ⟨?_,hz,us,r,⟨_,Heap.get?_push_size _ rfl,rfl,_,rfl⟩⟩,rfl,hq _ (I1.hok.fresh (Nat.le_refl _))⟩
 rw [<- eu]
 exact Heap.get?_push_size _ rfl
noncomputable def tyD:D -> String
 | .non => "NoneType"
 | .bl _ => "bool"
 | .int _ => "int"
 | .str _ => "str"
 | .tup _ => "tuple"
 | .lst _ => "list"
 | .dct => "dict"
theorem tyIs {pins:List (Addr × Obj)} {σ:St} {H Hh:Hp} {s:Shared} {d:D} {v:V} {u:Value} (I:Inv X pins σ H s) (m:∀ b o,Hh b = some o -> H b = some o) (r:R Hh d v) (ru:RelV v u):s.TypeIs u (tyD d):= by
 cases d with
 | non => cases r.non; cases ru; rfl
 | bl b => cases r.bl; cases ru; rfl
 | int b => cases r.int; obtain ⟨t,rfl⟩ := ru; rfl
 | str b => cases r.str; obtain ⟨t,rfl⟩ := ru; rfl
 | tup ds =>
  obtain ⟨p,vs,rfl,h1,h2⟩ := r.tup
  cases ru
  obtain ⟨its,_,⟨o,ho,hc,_⟩,_⟩ := I.tuple (.of (m _ _ h1))
  exact ⟨o,ho,hc⟩
 | lst ds =>
  obtain ⟨p,vs,rfl,h1,h2⟩ := r.lst
  cases ru
  obtain ⟨its,_,pl,_⟩ := I.list (.inl (Rd.mono m h1))
  obtain ⟨o,ho,hc,_⟩ := pl.isList
  exact ⟨o,ho,hc⟩
 | dct =>
  obtain ⟨p,rfl,h1⟩ := r.dct
  cases ru
  exact dictAt I (m _ _ h1)
theorem ansD {Hh:Hp} {d:D} {v:V} {u:Value} (r:R Hh d v) (ru:RelV v u) (T:Ty) (k:Bool) (ek:isiD T d = some k):Answers (fun s => s.TypeIs u (tyD d)) u (.type T.name) k:= by
 cases d with
 | non =>
  cases r.non; cases ru
  cases T <;> cases ek
  ·exact Answers.of_false_none (by decide +kernel) F.isi_meta_int F.sub_NoneType_int
  ·exact Answers.of_false_none (by decide +kernel) F.isi_meta_bool F.sub_NoneType_bool
  ·exact Answers.of_false_none (by decide +kernel) F.isi_meta_tuple F.sub_NoneType_tuple
  ·exact Answers.of_false_none (by decide +kernel) F.isi_meta_list F.sub_NoneType_list
  ·exact Answers.of_false_none (by decide +kernel) F.isi_meta_str F.sub_NoneType_str
 | bl b =>
  cases r.bl; cases ru
  cases T <;> cases ek
  ·exact Answers.of_true F.isi_meta_int F.sub_bool_int
  ·exact Answers.of_true F.isi_meta_bool F.sub_bool_bool
  ·exact Answers.of_false_bool (by decide +kernel) F.isi_meta_tuple F.sub_bool_tuple
  ·exact Answers.of_false_bool (by decide +kernel) F.isi_meta_list F.sub_bool_list
  ·exact Answers.of_false_bool (by decide +kernel) F.isi_meta_str F.sub_bool_str
 | int b =>
  cases r.int; obtain ⟨t,rfl⟩ := ru
  cases T <;> cases ek
  ·exact Answers.of_true F.isi_meta_int F.sub_int_int
  ·exact Answers.of_false_int (by decide +kernel) F.isi_meta_bool F.sub_int_bool
  ·exact Answers.of_false_int (by decide +kernel) F.isi_meta_tuple F.sub_int_tuple
  ·exact Answers.of_false_int (by decide +kernel) F.isi_meta_list F.sub_int_list
  ·exact Answers.of_false_int (by decide +kernel) F.isi_meta_str F.sub_int_str
 | str b =>
  cases r.str; obtain ⟨t,rfl⟩ := ru
  cases T <;> cases ek
  ·exact Answers.of_false_str (by decide +kernel) F.isi_meta_int F.sub_str_int
  ·exact Answers.of_false_str (by decide +kernel) F.isi_meta_bool F.sub_str_bool
  ·exact Answers.of_false_str (by decide +kernel) F.isi_meta_tuple F.sub_str_tuple
  ·exact Answers.of_false_str (by decide +kernel) F.isi_meta_list F.sub_str_list
  ·exact Answers.of_true F.isi_meta_str F.sub_str_str
 | tup ds =>
  obtain ⟨p,vs,rfl,h1,h2⟩ := r.tup
  cases ru
  cases T <;> cases ek
  ·exact Answers.of_false_tuple (by decide +kernel) F.isi_meta_int F.sub_tuple_int
  ·exact Answers.of_false_tuple (by decide +kernel) F.isi_meta_bool F.sub_tuple_bool
  ·exact Answers.of_true F.isi_meta_tuple F.sub_tuple_tuple
  ·exact Answers.of_false_tuple (by decide +kernel) F.isi_meta_list F.sub_tuple_list
  ·exact Answers.of_false_tuple (by decide +kernel) F.isi_meta_str F.sub_tuple_str
 | lst ds =>
  obtain ⟨p,vs,rfl,h1,h2⟩ := r.lst
  cases ru
  cases T <;> cases ek
  ·exact Answers.of_false_list (by decide +kernel) F.isi_meta_int F.sub_list_int
  ·exact Answers.of_false_list (by decide +kernel) F.isi_meta_bool F.sub_list_bool
  ·exact Answers.of_false_list (by decide +kernel) F.isi_meta_tuple F.sub_list_tuple
  ·exact Answers.of_true F.isi_meta_list F.sub_list_list
  ·exact Answers.of_false_list (by decide +kernel) F.isi_meta_str F.sub_list_str
 | dct =>
  obtain ⟨p,rfl,h1⟩ := r.dct
  cases ru
  cases T <;> cases ek
  ·exact Answers.of_false_dict (by decide +kernel) F.isi_meta_int F.sub_dict_int
  ·exact Answers.of_false_dict (by decide +kernel) F.isi_meta_bool F.sub_dict_bool
  ·exact Answers.of_false_dict (by decide +kernel) F.isi_meta_tuple F.sub_dict_tuple
  ·exact Answers.of_false_dict (by decide +kernel) F.isi_meta_list F.sub_dict_list
  ·exact Answers.of_false_dict (by decide +kernel) F.isi_meta_str F.sub_dict_str
noncomputable def isiB (T:Ty) (d:D):Bool := (isiD T d).getD false
theorem isiD_some (T:Ty) (d:D):isiD T d = some (isiB T d) := by cases T <;> cases d <;> rfl
theorem call_isiT:CallR X (.builtin "isinstance") (fun xs H Q => ∃ (Hh:Hp) (d:D) (v:V) (q:Addr) (ts:List Ty),xs = [v,.ref q] ∧ (∀ b o,Hh b = some o -> H b = some o) ∧ R Hh d v ∧ H q = some (tyObj ts) ∧ Q (.bl (ts.any fun T => isiB T d)) H):= by
 intro pins s σ H xs us Q I r h
 obtain ⟨Hh,d,v,q,ts,rfl,m,rd,hq,k⟩ := h
 obtain ⟨u,z,rfl,ru,rz⟩ := r.two
 cases rz
 obtain ⟨ho,_⟩ := I.hok q _ hq
 have hall:∀ ts:List Ty,AnswersAll (fun s => s.TypeIs u (tyD d)) u (ts.map fun T => Value.type T.name) (ts.map fun T => isiB T d) := fun ts => by
  induction ts with
  | nil => exact trivial
  | cons t ts ih => exact ⟨ansD rd ru t _ (isiD_some t d),ih⟩
 refine IsiPair.tupleOf (hall ts) (tyIs I m rd ru) ho fun tk => ?_
 rw [List.any_map]
 exact ⟨.bl _,H,I.tok _,rfl,k⟩
noncomputable def mIsiT (ts:List Ty) (fa:M D):M D := do
 let d <- fa
 pure (.bl (ts.any fun T => isiB T d))
theorem de_isiT {ts:List Ty} {x2:Nat} {pos2:Pos} (hmi:X.mg "isinstance" = none) (ha:DE X a fa) (ht:PA X es (tTys ts)) (hl:ts.length ≤ 100 := by decide) (hgi:Gl X "isinstance" := by rfl)
  (he:starEach [a,.Tuple es x2 pos2] X.env = (false,eval a X.env) :: starEach [.Tuple es x2 pos2] X.env := by rfl) (he2:starEach [.Tuple es x2 pos2] X.env = [(false,eval (.Tuple es x2 pos2) X.env)] := by rfl):DE X (.Call (.Name "isinstance" p) [a,.Tuple es x2 pos2] [] pos) (mIsiT ts fa) :=
 peOf (pe_callB call_isiT hgi hmi (by decide +kernel) (pa_cons ha (pa_cons (pe_tys ht hl) pa_nil he2) he) (by decide) (by decide) he rfl) fun σ H Q ⟨c,δ,S,TT,d,δ',s,e,k⟩ => by
  obtain ⟨x,δ1,e1,e⟩ := bind_some e
  obtain ⟨rfl,rfl⟩ := pure_some e
  refine ⟨c,δ,S,TT,x,δ1,s,e1,fun v H1 s1 q hq => ⟨_,x,v,q,ts,rfl,?_,s1.st.head,upd_same,?_⟩⟩
  ·exact fun b o hb => (same_new hq _) b o (hid_le b o hb)
  ·have s2 := s1.grow (same_new hq (tyObj ts))
   exact k _ _ (s2.stk (.cons .mkB s2.st.tail))
noncomputable def chn (r1 r2:D -> D -> Option D) (fa fb fc:M D):M D := do
 let x <- fa
 let y <- fb
 let z <- lift (r1 x y)
 match z with
 | .bl true => do
  let w <- fc
  lift (r2 y w)
 | .bl false => pure (.bl false)
 | _ => lift none
noncomputable def whM (tt:M Bool) (body:M Fl):Nat -> M Fl
 | 0 => lift none
 | n + 1 => do
  let b <- tt
  if b = true then do
   let fl <- body
   match fl with
   | .nx => whM tt body n
   | .ct => whM tt body n
   | .bk => pure .nx
   | .rt d => pure (.rt d)
   | .rf d => pure (.rf d)
  else pure .nx
theorem ds_while {t:Expr} {sts:List Stmt} {tt:M Bool} {body:M Fl} (n:Nat) (ht:DT X t tt) (hb:DSs X sts body) (hp:PassesOwn (model X.prog X.w) X.A X.env X.xe := by exact PassesOwn.never):DSt X (.While t sts [] pos) (whM tt body n) :=
 psOf (ps_while hp ht hb) fun E σ0 H0 ⟨c,δ0,S,T,fl,δ',s0,e0,k⟩ => by
  refine ⟨fun m σ H => ∃ δ,Sl c δ S σ T H ∧ whM tt body m δ = some (fl,δ'),⟨n,δ0,s0,e0⟩,?_⟩
  rintro m σ H ⟨δ,s,e⟩
  cases m with
  | zero => cases e
  | succ m =>
   obtain ⟨b,δ1,e1,e⟩ := bind_some e
   refine ⟨c,δ,S,T,b,δ1,s,e1,fun H1 s1 => ?_⟩
   cases b with
   | false =>
    rw [if_neg Bool.false_ne_true] at e ⊢
    obtain ⟨rfl,rfl⟩ := pure_some e
    exact k _ _ s1
   | true =>
    rw [if_pos rfl] at e ⊢
    obtain ⟨fl1,δ2,e2,e⟩ := bind_some e
    refine ⟨fun σ' H' => ∃ δi,Sl c δi S σ' T H' ∧ whM tt body m δi = some (fl,δ'),fun σ' H' q => ⟨m,Nat.lt_succ_self m,q⟩,c,δ1,S,T,fl1,δ2,s1,e2,?_⟩
    cases fl1 with
    | nx => exact fun σ' H' s' => ⟨δ2,s',e⟩
    | ct => exact fun σ' H' s' => ⟨δ2,s',e⟩
    | bk => obtain ⟨rfl,rfl⟩ := pure_some e; exact k
    | rt d' => obtain ⟨rfl,rfl⟩ := pure_some e; exact k
    | rf xs => obtain ⟨rfl,rfl⟩ := pure_some e; exact k
end
end Jt
namespace Jt
open PySem L2
section
variable {X:Cx} {a b e:Expr} {fa fb:M D} {ha' hb':M Hn} {fs fF fq:M (List D)} {pos p p2 apos cpos pt:Pos} {es rest:List Expr} {x:Str}
end
noncomputable abbrev callD {α:Type} (n:Nat) (mf:List D -> Option α):List D -> Option α := fun ds => if ds.length = n then mf ds else none
section
variable {P:Program} {w:World} {K:PySem.W.Frag} {mg:Str -> Option Value} {base:Heap} {f:Addr} {fd:FuncData} {ps:List Str} {k n:Nat}
theorem fnNoneP:FnOk P w K mg base CX0 k f fd ps (spP n fun _ => none):= by
 have no:∀ vs H Q E,¬ spP n (fun _ => none) vs H Q E := fun vs H Q E h => by
  obtain ⟨_,_,_,_,_,_,e,_⟩ := h
  cases e
 exact ⟨fun vs H Q E h => absurd h (no vs H Q E),fun A outer s H args us vs Q E _ _ _ _ h => absurd h (no vs H Q E)⟩
noncomputable def spLaw:Sp := fun vs H Q _ => ∃ (a:Addr) (ns:List Int),vs = [.ref a] ∧ Rd H a (.lst (ns.map V.int)) ∧ ns.length ≤ 63 ∧ ∀ H',Q (.bl true) H'
theorem law_ok {mf:List D -> Option D} (F:FnOk P w K mg base CX0 k f fd ps (spP 1 mf)) (h:∀ ns:List Int,ns.length ≤ 63 -> mf [.lst (ns.map .int)] = some (.bl true)):FnOk P w K mg base CX0 k f fd ps spLaw := F.imp fun vs H Q E ⟨a,ns,ev,hr,hl,q⟩ => by
 subst ev
 refine ⟨rfl,fun _ => none,[.lst (ns.map .int)],.bl true,(fun a o z => nomatch z),.cons (.mkL (Rd.mono (fun b o e => hid_some.mpr ⟨(fun ⟨_,z⟩ => nomatch z),e⟩) hr) (rs_ofInts ns)) .nil,h ns hl,fun v H' g r => ?_⟩
 rw [r.bl]
 exact q H'
noncomputable def noLst (K:PySem.W.Frag):Bool := K.all fun p => !(p.2.cls == Value.type "list")
theorem rd_of {H:Hp} {a:Addr} {xs:List V} (hK:noLst K = true) (h:SqL K H a xs):Rd H a (.lst xs):= by
 rcases h with h | ⟨o,its,n,hk,hc,_⟩
 ·exact h
 ·have hm:∃ p ∈ K,p.2 = o:= by
   clear hK
   induction K with
   | nil => cases hk
   | cons q r ih =>
    rw [List.lookup_cons] at hk
    split at hk
    ·cases hk; exact ⟨q,List.mem_cons_self,rfl⟩
    ·obtain ⟨p,hp,e⟩ := ih hk
     exact ⟨p,List.mem_cons_of_mem _ hp,e⟩
  obtain ⟨p,hp,e⟩ := hm
  have := List.all_eq_true.mp hK p hp
  rw [e,hc] at this
  simp at this
end
theorem walkD {l:PySem.W.OpenLaw} {q:Program} {loose:List Str} {XP:(Str -> Option Value) -> Heap -> Prop} {YP:World -> Heap -> Prop} {d:DefRec} {K:Params -> PySem.W.Frag} {k:Nat} (hn:l.most = some 63) (hdf:d.params.defaults = []) (hr:Room k callerA)
  (hY:∀ (w:World) (h:Heap),YP w h -> (K w.params).In h) (hL:∀ w:World,noLst (K w.params) = true)
  (F:∀ (w:World) (mg:Str -> Option Value) (fa:Addr) (h:Heap),(K w.params).In h -> h.Ns mainGlobals mg -> mg d.name = some (.ref fa) ->
   ∃ fd:FuncData,(∀ (s:Shared) (u:Value),BindsTo s fd ⟨[u],[]⟩ [("_law_script",u)]) ∧ ∀ base:Heap,(K w.params).In base -> base.Ns mainGlobals mg -> FnOk l.prog w (K w.params) mg base CX0 k fa fd ["_law_script"] spLaw) :
  PySem.W.WalkO q loose XP YP l.row.toRowW d [] (fun f vs => PySem.call f vs) :=
 L2.walk_of (n := 63) (k := k) (x := "_law_script") (CX := fun _ => CX0) (sp := fun _ => spLaw) hn (by decide) hdf hr hY F (fun w _ a ns hl _ hS => ⟨a,ns,rfl,rd_of (hL w) hS,hl,fun _ => rfl⟩) fun _ _ _ _ _ z => z
end Jt
namespace Jt
open PySem L2
noncomputable def Ok {α:Type} (m:M α) (δ:DS) (Q:α -> DS -> Prop):Prop := ∃ a δ',m δ = some (a,δ') ∧ Q a δ'
theorem Ok.mono {α:Type} {m:M α} {δ:DS} {Q Q':α -> DS -> Prop} (h:Ok m δ Q) (k:∀ a δ',Q a δ' -> Q' a δ'):Ok m δ Q' := let ⟨a,δ',e,q⟩ := h; ⟨a,δ',e,k a δ' q⟩
section
variable {α β:Type} {δ:DS} {Q:α -> DS -> Prop}
@[simp] theorem Ok_bind {m:M β} {f:β -> M α}:Ok (m >>= f) δ Q ↔ Ok m δ fun a δ' => Ok (f a) δ' Q:= by
 constructor
 ·rintro ⟨a,δ',e,q⟩
  obtain ⟨b,δ1,e1,e2⟩ := bind_some e
  exact ⟨b,δ1,e1,a,δ',e2,q⟩
 ·rintro ⟨b,δ1,e1,a,δ',e2,q⟩
  exact ⟨a,δ',by rw [M.bind_def,e1]; exact e2,q⟩
@[simp] theorem Ok_pure {a:α}:Ok (pure a) δ Q ↔ Q a δ:= by
 constructor
 ·rintro ⟨b,δ',e,q⟩
  obtain ⟨rfl,rfl⟩ := pure_some e
  exact q
 ·exact fun q => ⟨a,δ,rfl,q⟩
@[simp] theorem Ok_some {a:α}:Ok (lift (some a)) δ Q ↔ Q a δ:= by
 constructor
 ·rintro ⟨b,δ',e,q⟩
  obtain ⟨e1,rfl⟩ := lift_some e
  cases e1; exact q
 ·exact fun q => ⟨a,δ,rfl,q⟩
@[simp] theorem Ok_none:Ok (lift (none:Option α)) δ Q ↔ False := ⟨fun ⟨_,_,e,_⟩ => (by cases e),False.elim⟩
theorem Ok_lift {o:Option α} {a:α} (h:o = some a) (q:Q a δ):Ok (lift o) δ Q := by subst h; exact Ok_some.mpr q
@[simp] theorem Ok_ite {c:Prop} [Decidable c] {m n:M α}:Ok (if c then m else n) δ Q ↔ (if c then Ok m δ Q else Ok n δ Q) := by split <;> exact Iff.rfl
end
section
variable {δ:DS}
@[simp] theorem Ok_getS {i:Nat} {Q:D -> DS -> Prop}:Ok (getS i) δ Q ↔ ∃ d,δ[i]? = some (.pu d) ∧ Q d δ:= by
 constructor
 ·rintro ⟨d,δ',e,q⟩
  obtain ⟨e1,rfl⟩ := getS_some e
  exact ⟨d,e1,q⟩
 ·rintro ⟨d,e,q⟩
  exact ⟨d,δ,by unfold getS; rw [e],q⟩
@[simp] theorem Ok_setP {i:Nat} {d:D} {Q:Unit -> DS -> Prop}:Ok (setP i d) δ Q ↔ i < δ.length ∧ Q () (δ.set i (.pu d)):= by
 constructor
 ·rintro ⟨u,δ',e,q⟩
  obtain ⟨h,rfl⟩ := setP_some e
  exact ⟨h,q⟩
 ·rintro ⟨h,q⟩
  exact ⟨(),_,by unfold setP; rw [if_pos h],q⟩
@[simp] theorem Ok_setO {i:Nat} {d:List D} {Q:Unit -> DS -> Prop}:Ok (setO i d) δ Q ↔ i < δ.length ∧ Q () (δ.set i (.ow false d)):= by
 constructor
 ·rintro ⟨u,δ',e,q⟩
  obtain ⟨h,rfl⟩ := setO_some e
  exact ⟨h,q⟩
 ·rintro ⟨h,q⟩
  exact ⟨(),_,by unfold setO; rw [if_pos h],q⟩
@[simp] theorem Ok_peekO {i:Nat} {Q:List D -> DS -> Prop}:Ok (peekO i) δ Q ↔ ∃ b xs,δ[i]? = some (.ow b xs) ∧ Q xs δ:= by
 constructor
 ·rintro ⟨d,δ',e,q⟩
  obtain ⟨⟨b,e1⟩,rfl⟩ := peekO_some e
  exact ⟨b,d,e1,q⟩
 ·rintro ⟨b,d,e,q⟩
  exact ⟨d,δ,by unfold peekO; rw [e],q⟩
@[simp] theorem Ok_setOw {i:Nat} {xs:List D} {Q:Unit -> DS -> Prop}:Ok (setOw i xs) δ Q ↔ ∃ b ys,δ[i]? = some (.ow b ys) ∧ Q () (δ.set i (.ow b xs)):= by
 constructor
 ·rintro ⟨u,δ',e,q⟩
  obtain ⟨b,ys,h,rfl⟩ := setOw_some e
  exact ⟨b,ys,h,q⟩
 ·rintro ⟨b,ys,h,q⟩
  exact ⟨(),_,by unfold setOw; rw [h],q⟩
@[simp] theorem Ok_takeO {i:Nat} {Q:List D -> DS -> Prop}:Ok (takeO i) δ Q ↔ ∃ xs,δ[i]? = some (.ow false xs) ∧ Q xs (δ.set i .un):= by
 constructor
 ·rintro ⟨d,δ',e,q⟩
  unfold takeO at e
  split at e
  ·rename_i ys h; cases e; exact ⟨d,h,q⟩
  ·cases e
 ·rintro ⟨d,e,q⟩
  exact ⟨d,_,by unfold takeO; rw [e],q⟩
@[simp] theorem Ok_stP {i:Nat} {fa:M D} {Q:Fl -> DS -> Prop}:Ok (stP i fa) δ Q ↔ Ok fa δ fun d δ1 => i < δ1.length ∧ Q .nx (δ1.set i (.pu d)):= by
 unfold stP; simp
@[simp] theorem Ok_stO {i:Nat} {fa:M (List D)} {Q:Fl -> DS -> Prop}:Ok (stO i fa) δ Q ↔ Ok fa δ fun d δ1 => i < δ1.length ∧ Q .nx (δ1.set i (.ow false d)):= by
 unfold stO; simp
@[simp] theorem Ok_mSeq {f g:M Fl} {Q:Fl -> DS -> Prop}:Ok (mSeq f g) δ Q ↔ Ok f δ fun fl δ1 => match fl with
  | .nx => Ok g δ1 Q
  | fl => Q fl δ1:= by
 unfold mSeq
 rw [Ok_bind]
 constructor <;>
 ·intro h
  refine h.mono fun fl δ1 q => ?_
  cases fl <;> simpa using q
theorem okSeq {f g:M Fl} {Q:Fl -> DS -> Prop} (P:DS -> Prop) (h:Ok f δ fun fl δ1 => fl = .nx ∧ P δ1) (k:∀ δ1,P δ1 -> Ok g δ1 Q):Ok (mSeq f g) δ Q:= by
 rw [Ok_mSeq]
 refine h.mono fun fl δ1 ⟨e,p⟩ => ?_
 subst e
 exact k δ1 p
theorem okSeqIf {t:M Bool} {fa g:M Fl} {Q:Fl -> DS -> Prop} (b:Bool) (ht:Ok t δ fun b' δ1 => b' = b ∧ δ1 = δ) (h1:b = true -> Ok fa δ fun fl δ1 => ∃ d,fl = .rt d ∧ Q (.rt d) δ1) (h2:b = false -> Ok g δ Q):Ok (mSeq (mIf t fa (pure .nx)) g) δ Q:= by
 rw [Ok_mSeq]
 unfold mIf
 rw [Ok_bind]
 refine ht.mono fun b' δ1 ⟨e1,e2⟩ => ?_
 subst e1; subst e2
 cases b' with
 | true =>
  refine Ok.mono (m := fa) (h1 rfl) fun fl δ2 ⟨d,e,q⟩ => ?_
  subst e
  exact q
 | false => exact (Ok_pure (Q := fun fl δ1 => _)).mpr (h2 rfl)
theorem okIf {α:Type} {t:M Bool} {fa fb:M α} {Q:α -> DS -> Prop} (P:Bool -> DS -> Prop) (ht:Ok t δ P) (h1:∀ δ1,P true δ1 -> Ok fa δ1 Q) (h2:∀ δ1,P false δ1 -> Ok fb δ1 Q):Ok (mIf t fa fb) δ Q:= by
 unfold mIf
 rw [Ok_bind]
 refine ht.mono fun b δ1 p => ?_
 cases b with
 | true => exact h1 δ1 p
 | false => exact h2 δ1 p
@[simp] theorem Ok_mIf {α:Type} {t:M Bool} {fa fb:M α} {Q:α -> DS -> Prop}:Ok (mIf t fa fb) δ Q ↔ Ok t δ fun b δ1 => if b = true then Ok fa δ1 Q else Ok fb δ1 Q:= by
 unfold mIf; simp
@[simp] theorem Ok_mAnd {ta tb:M Bool} {Q:Bool -> DS -> Prop}:Ok (mAnd ta tb) δ Q ↔ Ok ta δ fun b δ1 => if b = true then Ok tb δ1 Q else Q false δ1:= by
 unfold mAnd; simp
@[simp] theorem Ok_mOr {ta tb:M Bool} {Q:Bool -> DS -> Prop}:Ok (mOr ta tb) δ Q ↔ Ok ta δ fun b δ1 => if b = true then Q true δ1 else Ok tb δ1 Q:= by
 unfold mOr; simp
@[simp] theorem Ok_mNot {ta:M Bool} {Q:Bool -> DS -> Prop}:Ok (mNot ta) δ Q ↔ Ok ta δ fun b δ1 => Q (!b) δ1:= by
 unfold mNot; simp
@[simp] theorem Ok_m2 {f:D -> D -> Option D} {fa fb:M D} {Q:D -> DS -> Prop}:Ok (m2 f fa fb) δ Q ↔ Ok fa δ fun x δ1 => Ok fb δ1 fun y δ2 => Ok (lift (f x y)) δ2 Q:= by
 unfold m2; simp
@[simp] theorem Ok_mC {α:Type} {f:List D -> Option α} {fs:M (List D)} {Q:α -> DS -> Prop}:Ok (mC f fs) δ Q ↔ Ok fs δ fun ds δ1 => Ok (lift (f ds)) δ1 Q:= by
 unfold mC; simp
@[simp] theorem Ok_mQ {α:Type} {f:List D -> Option α} {fs:M (List D)} {Q:α -> DS -> Prop}:Ok (mQ f fs) δ Q ↔ Ok fs δ fun ds δ1 => Ok (lift (f ds)) δ1 Q:= by
 unfold mQ; simp
@[simp] theorem Ok_mCons {fa:M D} {fs:M (List D)} {Q:List D -> DS -> Prop}:Ok (mCons fa fs) δ Q ↔ Ok fa δ fun x δ1 => Ok fs δ1 fun xs δ2 => Q (x :: xs) δ2:= by
 unfold mCons; simp
@[simp] theorem Ok_mTup {fs:M (List D)} {Q:D -> DS -> Prop}:Ok (mTup fs) δ Q ↔ Ok fs δ fun xs δ1 => Ok (lift (few xs.length)) δ1 fun _ δ2 => Q (.tup xs) δ2:= by
 unfold mTup; simp
@[simp] theorem Ok_mLst {fs:M (List D)} {Q:List D -> DS -> Prop}:Ok (mLst fs) δ Q ↔ Ok fs δ fun xs δ1 => Ok (lift (few xs.length)) δ1 fun _ δ2 => Q xs δ2:= by
 unfold mLst; simp
@[simp] theorem Ok_few {n:Nat} {Q:Unit -> DS -> Prop}:Ok (lift (few n)) δ Q ↔ n ≤ 100000 ∧ Q () δ:= by
 unfold few
 split
 ·rename_i h; rw [Ok_some]; exact ⟨fun q => ⟨h,q⟩,fun q => q.2⟩
 ·rename_i h; rw [Ok_none]; exact ⟨False.elim,fun q => h q.1⟩
@[simp] theorem Ok_asB {d:D} {Q:Bool -> DS -> Prop}:Ok (asB d) δ Q ↔ ∃ b,d = .bl b ∧ Q b δ:= by
 constructor
 ·rintro ⟨b,δ',e,q⟩
  obtain ⟨e1,rfl⟩ := asB_some e
  exact ⟨b,e1,q⟩
 ·rintro ⟨b,rfl,q⟩
  exact ⟨b,δ,rfl,q⟩
@[simp] theorem Ok_mIxO {i:Nat} {fb:M D} {Q:D -> DS -> Prop}:Ok (mIxO i fb) δ Q ↔ (∃ b xs,δ[i]? = some (.ow b xs)) ∧ Ok fb δ fun y δ1 => ∃ b xs,δ1[i]? = some (.ow b xs) ∧ Ok (lift (dIx (.lst xs) y)) δ1 Q:= by
 unfold mIxO
 simp only [Ok_bind,Ok_peekO]
 constructor
 ·rintro ⟨b,xs,e,h⟩; exact ⟨⟨b,xs,e⟩,h⟩
 ·rintro ⟨⟨b,xs,e⟩,h⟩; exact ⟨b,xs,e,h⟩
@[simp] theorem Ok_mLenO {i:Nat} {Q:D -> DS -> Prop}:Ok (mLenO i) δ Q ↔ ∃ b xs,δ[i]? = some (.ow b xs) ∧ Q (.int xs.length) δ:= by
 unfold mLenO; simp
@[simp] theorem Ok_mSetIx {i:Nat} {fa:M D} {k:Int} {Q:Fl -> DS -> Prop}:Ok (mSetIx i fa k) δ Q ↔ Ok fa δ fun d δ1 => ∃ b xs,δ1[i]? = some (.ow b xs) ∧ Ok (lift (ixN xs.length k)) δ1 fun j δ2 => ∃ b ys,δ2[i]? = some (.ow b ys) ∧ Q .nx (δ2.set i (.ow b (xs.set j d))):= by
 unfold mSetIx; simp
theorem Ok_mAppend {i:Nat} {fs:M (List D)} {Q:Fl -> DS -> Prop} (h0:∃ b xs,δ[i]? = some (.ow b xs)) (h:Ok fs δ fun ds δ1 => ∃ d b xs,ds = [d] ∧ δ1[i]? = some (.ow b xs) ∧ xs.length ≤ 100000 ∧ Q .nx (δ1.set i (.ow b (xs ++ [d])))):Ok (mAppend i fs) δ Q:= by
 unfold mAppend
 obtain ⟨b,xs,e⟩ := h0
 simp only [Ok_bind,Ok_peekO]
 refine ⟨b,xs,e,h.mono fun ds δ1 q => ?_⟩
 obtain ⟨d,b',ys,rfl,e1,hn,q⟩ := q
 simp only [Ok_bind,Ok_peekO,Ok_few,Ok_setOw,Ok_pure]
 exact ⟨b',ys,e1,hn,b',ys,e1,q⟩
theorem Ok_mPop {i:Nat} {fs:M (List D)} {Q:D -> DS -> Prop} (h0:∃ b xs,δ[i]? = some (.ow b xs)) (h:Ok fs δ fun ds δ1 => ∃ (j:Nat) (b:Bool) (xs:List D) (d:D),ds = [.int j] ∧ δ1[i]? = some (.ow b xs) ∧ j < 100000 ∧ xs[j]? = some d ∧ Q d (δ1.set i (.ow b (xs.eraseIdx j)))):Ok (mPop i fs) δ Q:= by
 unfold mPop
 obtain ⟨b,xs,e⟩ := h0
 simp only [Ok_bind,Ok_peekO]
 refine ⟨b,xs,e,h.mono fun ds δ1 q => ?_⟩
 obtain ⟨j,b',ys,d,rfl,e1,hn,e2,q⟩ := q
 simp only [Ok_bind,Ok_peekO,Ok_setOw,Ok_pure]
 refine ⟨b',ys,e1,Ok_lift (a := d) ?_ ⟨b',ys,e1,?_⟩⟩
 ·rw [if_pos (by omega),Int.toNat_natCast]; exact e2
 ·rw [Int.toNat_natCast]; exact q
@[simp] theorem Ok_vAnd {fa fb:M D} {Q:D -> DS -> Prop}:Ok (vAnd fa fb) δ Q ↔ Ok fa δ fun x δ1 => match x with
  | .bl true => Ok fb δ1 Q
  | .bl false => Q (.bl false) δ1
  | _ => False:= by
 unfold vAnd
 rw [Ok_bind]
 constructor <;>
 ·intro h
  refine h.mono fun x δ1 q => ?_
  cases x with
  | bl b => cases b <;> simpa using q
  | _ => simpa using q
@[simp] theorem Ok_mIsi {T:Ty} {fa:M D} {Q:D -> DS -> Prop}:Ok (mIsi T fa) δ Q ↔ Ok fa δ fun d δ1 => Q (.bl (isiB T d)) δ1:= by
 unfold mIsi; simp [isiD_some]
@[simp] theorem Ok_mIsiT {ts:List Ty} {fa:M D} {Q:D -> DS -> Prop}:Ok (mIsiT ts fa) δ Q ↔ Ok fa δ fun d δ1 => Q (.bl (ts.any fun T => isiB T d)) δ1:= by
 unfold mIsiT; simp
@[simp] theorem Ok_xOr {fa fb:M D} {Q:D -> DS -> Prop}:Ok (xOr fa fb) δ Q ↔ Ok fa δ fun v δ1 => Ok (lift (truD v)) δ1 fun t δ2 => if t = true then Q v δ2 else Ok fb δ2 Q:= by
 unfold xOr; simp
@[simp] theorem Ok_m2H {α:Type} {g:D -> D -> Option α} {fa fb:M Hn} {Q:α -> DS -> Prop}:Ok (m2H g fa fb) δ Q ↔ Ok fa δ fun h1 δ1 => Ok fb δ1 fun h2 δ2 => Ok (rdH h1) δ2 fun x δ3 => Ok (rdH h2) δ3 fun y δ4 => Ok (lift (g x y)) δ4 Q:= by
 unfold m2H; simp
@[simp] theorem Ok_rdT {x:D} {Q:D -> DS -> Prop}:Ok (rdH (.th x)) δ Q ↔ Q x δ:= by
 constructor
 ·rintro ⟨b,δ',e,q⟩; cases e; exact q
 ·exact fun q => ⟨x,δ,rfl,q⟩
@[simp] theorem Ok_rdL {i:Nat} {Q:D -> DS -> Prop}:Ok (rdH (.ls i)) δ Q ↔ ∃ b xs,δ[i]? = some (.ow b xs) ∧ Q (.lst xs) δ:= by
 constructor
 ·rintro ⟨d,δ',e,q⟩
  unfold rdH at e
  dsimp only at e
  split at e
  ·rename_i b xs h; cases e; exact ⟨b,xs,h,q⟩
  ·cases e
 ·rintro ⟨b,xs,h,q⟩
  exact ⟨_,δ,by unfold rdH; dsimp only; rw [h],q⟩
@[simp] theorem Ok_hOwn {i:Nat} {Q:Hn -> DS -> Prop}:Ok (hOwn i) δ Q ↔ ∃ b xs,δ[i]? = some (.ow b xs) ∧ Q (.ls i) δ:= by
 unfold hOwn; simp
@[simp] theorem Ok_mConsH {fa:M Hn} {fs:M (List D)} {Q:List D -> DS -> Prop}:Ok (mConsH fa fs) δ Q ↔ Ok fa δ fun h δ1 => Ok fs δ1 fun xs δ2 => Ok (rdH h) δ2 fun x δ3 => Q (x :: xs) δ3:= by
 unfold mConsH; simp
@[simp] theorem Ok_mBox {i n:Nat} {mf:List D -> List D -> Option (D × List D)} {fs:M (List D)} {Q:D -> DS -> Prop}:Ok (mBox i n mf fs) δ Q ↔ Ok fs δ fun ds δ1 => ∃ b xs,δ1[i]? = some (.ow b xs) ∧ ds.length + 1 = n ∧ ∃ r,mf xs ds = some r ∧ Q r.1 (δ1.set i (.ow b r.2)):= by
 constructor
 ·rintro ⟨d,δ',e,q⟩
  unfold mBox at e
  split at e
  ·cases e
  ·rename_i ds δ1 e1
   split at e
   ·rename_i b xs e2
    split at e
    ·rename_i hn
     split at e
     ·cases e
     ·rename_i d' xs' e3
      cases e
      exact ⟨ds,δ1,e1,b,xs,e2,hn,(d,xs'),e3,q⟩
    ·cases e
   ·cases e
 ·rintro ⟨ds,δ1,e,b,xs,e1,hn,⟨d,xs'⟩,e2,q⟩
  exact ⟨d,_,by unfold mBox; rw [e]; dsimp only; rw [e1]; dsimp only; rw [if_pos hn,e2],q⟩
@[simp] theorem Ok_turnC {gt:D -> M Unit} {tt:M Bool} {te:M D} {d:D} {Q:Option D -> DS -> Prop}:Ok (turnC gt tt te d) δ Q ↔ Ok (gt d) δ fun _ δ1 => Ok tt δ1 fun b δ2 => if b = true then Ok te δ2 fun x δ3 => Q (some x) δ3 else Q none δ2:= by
 unfold turnC; simp
@[simp] theorem Ok_gTup {n:Nat} {g:List D -> M Unit} {ds:List D} {Q:Unit -> DS -> Prop}:Ok (gTupM n g (.tup ds)) δ Q ↔ (if ds.length = n then Ok (g ds) δ Q else False):= by
 show Ok (if ds.length = n then g ds else lift none) δ Q ↔ _
 split <;> simp
@[simp] theorem Ok_gsCons {f:D -> M Unit} {g:List D -> M Unit} {d:D} {ds:List D} {Q:Unit -> DS -> Prop}:Ok (gsCons f g (d :: ds)) δ Q ↔ Ok (f d) δ fun _ δ1 => Ok (g ds) δ1 Q:= by
 show Ok (f d >>= fun _ => g ds) δ Q ↔ _
 simp
@[simp] theorem Ok_gsNil {Q:Unit -> DS -> Prop}:Ok (gsNil []) δ Q ↔ Q () δ:= by
 show Ok (pure ()) δ Q ↔ _
 simp
end
section
variable {δ:DS}
theorem ok_comp {lo own:Nat} {fi:M Its} {turn:D -> M (Option D)} {Q:List D -> DS -> Prop} (ds:List D) (g:D -> Option D) (hl:δ.length = lo) (hi:Ok fi δ fun it δ' => it = itsOf ds ∧ δ' = δ) (hn:ds.length ≤ 100000)
  (ht:∀ d ∈ ds,Ok (turn d) (δ ++ List.replicate own .un) fun o δ2 => o = g d ∧ δ2.take lo = δ) (hQ:Q (ds.filterMap g) δ):Ok (mComp lo own fi turn) δ Q:= by
 have gen:∀ es:List D,(∀ d ∈ es,d ∈ ds) -> compM own turn (fun _ => true) (itsOf es).1 δ = some (es.filterMap g,δ):= by
  intro es
  induction es with
  | nil => intro _; rfl
  | cons d es ih =>
   intro hs
   obtain ⟨o,δ2,e,rfl,e2⟩ := ht d (hs d List.mem_cons_self)
   show compM own turn (fun _ => true) ((fun _ => some d) :: (itsOf es).1) δ = _
   unfold compM
   dsimp only
   rw [e]
   dsimp only
   rw [hl,e2,ih fun x hx => hs x (List.mem_cons_of_mem _ hx)]
   dsimp only
   rw [List.filterMap_cons]
   cases g d <;> rfl
 unfold mComp
 simp only [Ok_bind]
 refine ⟨(),δ,by unfold lenIs; rw [if_pos hl],hi.mono fun it δ' ⟨e1,e2⟩ => ?_⟩
 subst e1; subst e2
 refine Ok_few.mpr ⟨by simpa [itsOf] using hn,ds.filterMap g,δ',gen ds fun _ h => h,hQ⟩
theorem ok_compA {α:Type} {lo own:Nat} {fi:M Its} {turn:D -> M (Option D)} {Q:List D -> DS -> Prop} (as:List α) (e:α -> D) (g:α -> Option D) (hl:δ.length = lo) (hi:Ok fi δ fun it δ' => it = itsOf (as.map e) ∧ δ' = δ) (hn:as.length ≤ 100000)
  (ht:∀ a ∈ as,Ok (turn (e a)) (δ ++ List.replicate own .un) fun o δ2 => o = g a ∧ δ2.take lo = δ) (hQ:Q (as.filterMap g) δ):Ok (mComp lo own fi turn) δ Q:= by
 have gen:∀ es:List α,(∀ d ∈ es,d ∈ as) -> compM own turn (fun _ => true) (itsOf (es.map e)).1 δ = some (es.filterMap g,δ):= by
  intro es
  induction es with
  | nil => intro _; rfl
  | cons d es ih =>
   intro hs
   obtain ⟨o,δ2,e1,e0,e2⟩ := ht d (hs d List.mem_cons_self)
   show compM own turn (fun _ => true) ((fun _ => some (e d)) :: (itsOf (es.map e)).1) δ = _
   unfold compM
   dsimp only
   rw [e1]
   dsimp only
   rw [hl,e2,ih fun x hx => hs x (List.mem_cons_of_mem _ hx)]
   dsimp only
   rw [List.filterMap_cons,<- e0]
   cases o <;> rfl
 unfold mComp
 simp only [Ok_bind]
 refine ⟨(),δ,by unfold lenIs; rw [if_pos hl],hi.mono fun it δ' ⟨e1,e2⟩ => ?_⟩
 subst e1; subst e2
 refine Ok_few.mpr ⟨by simpa [itsOf] using hn,as.filterMap g,δ',gen as fun _ h => h,hQ⟩
theorem filterMap_ite {α β:Type} (p:α -> Bool) (f:α -> β) (as:List α):(as.filterMap fun a => if p a = true then some (f a) else none) = (as.filter p).map f:= by
 induction as with
 | nil => rfl
 | cons a r ih =>
  rw [List.filterMap_cons,List.filter_cons,ih]
  cases p a <;> rfl
theorem ok_comp_inv {lo own:Nat} {fi:M Its} {turn:D -> M (Option D)} {Q:List D -> DS -> Prop} (ds:List D) (I:Nat -> List D -> DS -> Prop) (hl:δ.length = lo) (hi:Ok fi δ fun it δ' => it = itsOf ds ∧ δ' = δ) (hn:ds.length ≤ 100000) (h0:I 0 [] δ)
  (ht:∀ k (hk:k < ds.length) acc δ,acc.length ≤ k -> δ.length = lo -> I k acc δ -> Ok (turn ds[k]) (δ ++ List.replicate own .un) fun o δ2 => (δ2.take lo).length = lo ∧ I (k + 1) (acc ++ o.toList) (δ2.take lo)) (hQ:∀ xs δ',xs.length ≤ ds.length -> δ'.length = lo -> I ds.length xs δ' -> Q xs δ'):Ok (mComp lo own fi turn) δ Q:= by
 have gen:∀ (n k:Nat) (acc:List D) (δ:DS),ds.length - k = n -> k ≤ ds.length -> acc.length ≤ k -> δ.length = lo -> I k acc δ -> ∃ xs δ',compM own turn (fun _ => true) (itsOf (ds.drop k)).1 δ = some (xs,δ') ∧ δ'.length = lo ∧ I ds.length (acc ++ xs) δ' ∧ (acc ++ xs).length ≤ ds.length:= by
  intro n
  induction n with
  | zero =>
   intro k acc δ hk hk2 h0 h1 h2
   have:k = ds.length := by omega
   subst this
   rw [List.drop_length]
   exact ⟨[],δ,rfl,h1,by simpa using h2,by simpa using h0⟩
  | succ n ih =>
   intro k acc δ hk hk2 h0 h1 h2
   have hlt:k < ds.length := by omega
   rw [List.drop_eq_getElem_cons hlt]
   obtain ⟨o,δ2,e,q1,q2⟩ := ht k hlt acc δ h0 h1 h2
   have ho:o.toList.length ≤ 1 := by cases o <;> simp
   obtain ⟨xs,δ',e',r1,r2,r3⟩ := ih (k + 1) (acc ++ o.toList) (δ2.take lo) (by omega) hlt (by rw [List.length_append]; omega) q1 q2
   refine ⟨o.toList ++ xs,δ',?_,r1,by simpa using r2,by simpa using r3⟩
   show compM own turn (fun _ => true) ((fun _ => some ds[k]) :: (itsOf (ds.drop (k + 1))).1) δ = _
   unfold compM
   dsimp only
   rw [e]
   dsimp only
   rw [h1,e']
 unfold mComp
 simp only [Ok_bind]
 refine ⟨(),δ,by unfold lenIs; rw [if_pos hl],hi.mono fun it δ' ⟨e1,e2⟩ => ?_⟩
 subst e1; subst e2
 obtain ⟨xs,δ2,e,r1,r2,r3⟩ := gen ds.length 0 [] δ' (by omega) (Nat.zero_le _) (Nat.le_refl _) hl h0
 rw [List.drop_zero] at e
 exact Ok_few.mpr ⟨by simpa [itsOf] using hn,xs,δ2,e,hQ xs δ2 (by simpa using r3) r1 (by simpa using r2)⟩
theorem ownIts_get {i n k:Nat} {b:Bool} {xs:List D} (h:k < (ownIts i n).1.length) (hx:δ[i]? = some (.ow b xs)) (hn:xs.length = n):(ownIts i n).1[k] δ = xs[k]?:= by
 have e := List.getElem_map (fun (j:Nat) (δ:DS) => (match δ[i]? with | some (.ow _ xs) => if xs.length = n then xs[j]? else none | _ => none:Option D)) (l := List.range n) (i := k) (h := by simpa [ownIts] using h)
 refine Eq.trans (congrFun e δ) ?_
 rw [List.getElem_range,hx]
 simp [hn]
theorem ok_compO {α:Type} {lo own i:Nat} {b:Bool} {fi:M Its} {turn:D -> M (Option D)} {Q:List D -> DS -> Prop} (as:List α) (e:α -> D) (g:α -> Option D) (hl:δ.length = lo) (hx:δ[i]? = some (.ow b (as.map e))) (hi:Ok fi δ fun it δ' => it = ownIts i as.length ∧ δ' = δ) (hn:as.length ≤ 100000)
  (ht:∀ a ∈ as,Ok (turn (e a)) (δ ++ List.replicate own .un) fun o δ2 => o = g a ∧ δ2.take lo = δ) (hQ:Q (as.filterMap g) δ):Ok (mComp lo own fi turn) δ Q:= by
 have gen:∀ (n k:Nat),as.length - k = n -> k ≤ as.length -> compM own turn (ownIts i as.length).2 ((ownIts i as.length).1.drop k) δ = some ((as.drop k).filterMap g,δ):= by
  intro n
  induction n with
  | zero =>
   intro k hk hk2
   have:k = as.length := by omega
   subst this
   rw [List.drop_length,List.drop_eq_nil_of_le (by simp [ownIts])]
   have ef:(ownIts i as.length).2 δ = true := by simp [ownIts,hx]
   unfold compM
   rw [if_pos ef]
   rfl
  | succ n ih =>
   intro k hk hk2
   have hlt:k < as.length := by omega
   have hlt2:k < (ownIts i as.length).1.length := by simpa [ownIts] using hlt
   rw [List.drop_eq_getElem_cons hlt,List.drop_eq_getElem_cons hlt2]
   obtain ⟨o,δ2,e1,e0,e2⟩ := ht as[k] (List.getElem_mem hlt)
   unfold compM
   have ea:(ownIts i as.length).1[k] δ = some (e as[k]):= by
    rw [ownIts_get hlt2 hx (by simp)]
    simp [hlt]
   rw [ea]
   dsimp only
   rw [e1]
   dsimp only
   rw [hl,e2,ih (k + 1) (by omega) hlt]
   dsimp only
   rw [List.filterMap_cons,<- e0]
   cases o <;> rfl
 unfold mComp
 simp only [Ok_bind]
 refine ⟨(),δ,by unfold lenIs; rw [if_pos hl],hi.mono fun it δ' ⟨e1,e2⟩ => ?_⟩
 subst e1; subst e2
 refine Ok_few.mpr ⟨by simpa [ownIts] using hn,as.filterMap g,δ',?_,hQ⟩
 have := gen as.length 0 (by omega) (Nat.zero_le _)
 rwa [List.drop_zero,List.drop_zero] at this
noncomputable def forK (gt:D -> M Unit) (body:M Fl) (its:List (DS -> Option D)) (fl:Fl):M Fl := match fl with
 | .nx => forM gt body (fun _ => true) its
 | .ct => forM gt body (fun _ => true) its
 | .bk => pure .nx
 | .rt d => pure (.rt d)
 | .rf d => pure (.rf d)
theorem forM_step (gt:D -> M Unit) (body:M Fl) (its:List (DS -> Option D)) {d:D} {δ δ1 δ2:DS} {u:Unit} {fl:Fl} (e1:gt d δ = some (u,δ1)) (e2:body δ1 = some (fl,δ2)):forM gt body (fun _ => true) ((fun _ => some d) :: its) δ = forK gt body its fl δ2:= by
 rw [forM]
 dsimp only
 rw [M.bind_def,e1]
 dsimp only
 rw [M.bind_def,e2]
 cases fl <;> rfl
theorem ok_for {gt:D -> M Unit} {body:M Fl} {Q:Fl -> DS -> Prop} (ds:List D) (I:Nat -> DS -> Prop) (h0:I 0 δ)
  (ht:∀ k (hk:k < ds.length) δ,I k δ -> Ok (gt ds[k]) δ fun _ δ1 => Ok body δ1 fun fl δ2 => match fl with
   | .nx => I (k + 1) δ2
   | .ct => I (k + 1) δ2
   | .bk => Q .nx δ2
   | .rt d => Q (.rt d) δ2
   | .rf d => Q (.rf d) δ2) (hQ:∀ δ,I ds.length δ -> Q .nx δ):Ok (forM gt body (itsOf ds).2 (itsOf ds).1) δ Q:= by
 have gen:∀ (n k:Nat) (δ:DS),ds.length - k = n -> k ≤ ds.length -> I k δ -> Ok (forM gt body (fun _ => true) (itsOf (ds.drop k)).1) δ Q:= by
  intro n
  induction n with
  | zero =>
   intro k δ hk hk2 h
   have:k = ds.length := by omega
   subst this
   rw [List.drop_length]
   exact ⟨.nx,δ,rfl,hQ δ h⟩
  | succ n ih =>
   intro k δ hk hk2 h
   have hlt:k < ds.length := by omega
   rw [List.drop_eq_getElem_cons hlt]
   have ht' := ht k hlt δ h
   obtain ⟨u,δ1,e1,fl,δ2,e2,q⟩ := ht'
   have st:forM gt body (fun _ => true) (itsOf (ds[k] :: ds.drop (k + 1))).1 δ = forK gt body (itsOf (ds.drop (k + 1))).1 fl δ2:= by
    show forM gt body (fun _ => true) ((fun _ => some ds[k]) :: (itsOf (ds.drop (k + 1))).1) δ = _
    exact forM_step gt body _ e1 e2
   cases fl with
   | nx => obtain ⟨a,δ',e,q'⟩ := ih (k + 1) δ2 (by omega) hlt q; exact ⟨a,δ',st.trans e,q'⟩
   | ct => obtain ⟨a,δ',e,q'⟩ := ih (k + 1) δ2 (by omega) hlt q; exact ⟨a,δ',st.trans e,q'⟩
   | bk => exact ⟨.nx,δ2,st,q⟩
   | rt d => exact ⟨.rt d,δ2,st,q⟩
   | rf d => exact ⟨.rf d,δ2,st,q⟩
 have := gen ds.length 0 δ (by omega) (Nat.zero_le _) h0
 rwa [List.drop_zero] at this
theorem okFor {fi:M Its} {gt:D -> M Unit} {body:M Fl} {Q:Fl -> DS -> Prop} (ds:List D) (I:Nat -> DS -> Prop) (hi:Ok fi δ fun it δ' => it = itsOf ds ∧ δ' = δ) (h0:I 0 δ)
  (ht:∀ k (hk:k < ds.length) δ,I k δ -> Ok (gt ds[k]) δ fun _ δ1 => Ok body δ1 fun fl δ2 => match fl with
   | .nx => I (k + 1) δ2
   | .ct => I (k + 1) δ2
   | .bk => Q .nx δ2
   | .rt d => Q (.rt d) δ2
   | .rf d => Q (.rf d) δ2) (hQ:∀ δ,I ds.length δ -> Q .nx δ):Ok (do let it <- fi; Jt.forM gt body it.2 it.1) δ Q:= by
 rw [Ok_bind]
 refine hi.mono fun it δ' ⟨e1,e2⟩ => ?_
 subst e1; subst e2
 exact ok_for ds I h0 ht hQ
end
theorem runP_of {N:List Str} {body:M Fl} {ds:List D} {d:D} (h:Ok body (entry N ds) fun fl _ => fl = .rt d):runP N body ds = some d:= by
 obtain ⟨fl,δ',e,rfl⟩ := h
 unfold runP
 rw [e]
theorem runF_of {N:List Str} {body:M Fl} {ds:List D} {d:List D} (h:Ok body (entry N ds) fun fl _ => fl = .rf d):runF N body ds = some d:= by
 obtain ⟨fl,δ',e,rfl⟩ := h
 unfold runF
 rw [e]
theorem runB_of {N:List Str} {body:M Fl} {xs ds:List D} {Q:D -> List D -> Prop} (h:Ok body (entryB N xs ds) fun fl δ => ∃ d xs',fl = .rt d ∧ δ[0]? = some (.ow true xs') ∧ Q d xs'):∃ d xs',runB N body xs ds = some (d,xs') ∧ Q d xs':= by
 obtain ⟨fl,δ',e,d,xs',rfl,e1,q⟩ := h
 refine ⟨d,xs',?_,q⟩
 unfold runB
 rw [e]
 dsimp only
 rw [e1]
theorem runP_ex {N:List Str} {body:M Fl} {ds:List D} {Q:D -> Prop} (h:Ok body (entry N ds) fun fl _ => ∃ d,fl = .rt d ∧ Q d):∃ d,runP N body ds = some d ∧ Q d:= by
 obtain ⟨fl,δ',e,d,rfl,q⟩ := h
 exact ⟨d,by unfold runP; rw [e],q⟩
theorem runF_ex {N:List Str} {body:M Fl} {ds:List D} {Q:List D -> Prop} (h:Ok body (entry N ds) fun fl _ => ∃ d,fl = .rf d ∧ Q d):∃ d,runF N body ds = some d ∧ Q d:= by
 obtain ⟨fl,δ',e,d,rfl,q⟩ := h
 exact ⟨d,by unfold runF; rw [e],q⟩
end Jt
namespace Jt
open PySem L2 PySem.Spec PyProof.Rows
section
variable {prog:Program} {w:World} {A:Around} {E:Value -> Shared -> Prop} {s:Shared}
inductive TIs (h:Heap):List Value -> List (List Int) -> Prop
 | nil:TIs h [] []
 | cons {a:Addr} {o:Obj} {xs:Array Value} {n:Nat} {ns:List Int} {vs:List Value} {nss:List (List Int)}:h.get? a = some o -> o.cls = .type "tuple" -> o.data = .seq xs n -> PyProof.Rows.IntsAre xs.toList ns -> TIs h vs nss -> TIs h (.ref a :: vs) (ns :: nss)
theorem TIs.length {h:Heap}:∀ {vs:List Value} {nss:List (List Int)},TIs h vs nss -> vs.length = nss.length
 | _,_,.nil => rfl
 | _,_,.cons _ _ _ _ r => by simp [r.length]
theorem TIs.keep {h h':Heap} {b:Addr} {ob:Obj} (hb:h.get? b = some ob) (hc:ob.cls = .type "list") (k:∀ c o,c ≠ b -> h.get? c = some o -> h'.get? c = some o):∀ {vs:List Value} {nss:List (List Int)},TIs h vs nss -> TIs h' vs nss
 | _,_,.nil => .nil
 | _,_,.cons (a := a) g c d i r => by
  refine .cons (k _ _ (fun e => ?_) g) c d i (r.keep hb hc k)
  subst e
  rw [hb] at g
  cases g
  rw [hc] at c
  exact absurd c (by decide)
theorem TIs.grow {h h':Heap} (k:∀ c o,h.get? c = some o -> h'.get? c = some o):∀ {vs:List Value} {nss:List (List Int)},TIs h vs nss -> TIs h' vs nss
 | _,_,.nil => .nil
 | _,_,.cons g c d i r => .cons (k _ _ g) c d i (r.grow k)
theorem TIs.at {h:Heap}:∀ {vs:List Value} {nss:List (List Int)} {i:Nat},TIs h vs nss -> i < vs.length -> ∃ a o xs n,vs.getD i Value.none = .ref a ∧ h.get? a = some o ∧ o.data = .seq xs n ∧ PyProof.Rows.IntsAre xs.toList (nss.getD i [])
 | _,_,i,.nil,h => by simp at h
 | _,_,0,.cons g c d i r,_ => ⟨_,_,_,_,rfl,g,d,i⟩
 | _,_,i + 1,.cons g c d _ r,h => by
  obtain ⟨a,o,xs,n,e,g',d',i'⟩ := r.at (i := i) (by simpa using h)
  exact ⟨a,o,xs,n,by simpa using e,g',d',by simpa using i'⟩
end
section
variable {X:Cx}
end
section
variable {X:Cx} {e:Expr} {fq:M (List D)} {p pos:Pos}
end
end Jt
namespace Jt
open PySem L2
section
variable {X:Cx}
noncomputable def never {α:Type}:M α := fun _ => none
theorem ds_never {st:Stmt}:DSt X st never := fun pins s σ H E I h => by
 obtain ⟨c,δ,S,T,fl,δ',s,e,k⟩ := h
 cases e
noncomputable def eqI (i:Int):Value -> Bool
 | .int n _ => n == i
 | _ => false
theorem ints_at:∀ {us:List Value} {ns:List Int},PyProof.Rows.IntsAre us ns -> ∀ (j:Nat) (y:Value),us[j]? = some y -> ∃ n t,ns[j]? = some n ∧ y = .int n t
 | _,_,.nil,j,y,h => by simp at h
 | _,_,.cons n t r,0,y,h => by simp at h; exact ⟨n,t,rfl,h.symm⟩
 | _,_,.cons n t r,j + 1,y,h => by
  obtain ⟨m,u,h1,h2⟩ := ints_at r j y (by simpa using h)
  exact ⟨m,u,by simpa using h1,h2⟩
theorem er_map {α β:Type} (f:α -> β):∀ (l:List α) (j:Nat),(l.map f).eraseIdx j = (l.eraseIdx j).map f
 | [],_ => rfl
 | _ :: _,0 => rfl
 | a :: r,j + 1 => by
  show f a :: (r.map f).eraseIdx j = f a :: (r.eraseIdx j).map f
  rw [er_map f r j]
noncomputable def rRemove:V -> List V -> Hp -> VK -> Prop := fun x vs H Q => ∃ (l:Addr) (ns:List Int) (i:Int),x = .ref l ∧ vs = [.int i] ∧ H l = some (.lst (ns.map V.int)) ∧ i ∈ ns ∧ Q .non (upd H l (.lst ((ns.eraseIdx (ns.idxOf i)).map V.int)))
theorem mt_remove:MtM X "list.remove" rRemove:= by
 intro pins s σ H x vs v us Q I rx rv h
 obtain ⟨l,ns,i,rfl,rfl,hH,hi,q⟩ := h
 cases rx
 obtain ⟨u,rfl,ru⟩ := rv.one
 obtain ⟨t,rfl⟩ := ru
 obtain ⟨z,its,n,r,hl,e⟩ := I.lstM hH
 have hia:PyProof.Rows.IntsAre its ns := intsAre_of r
 have hln:its.length = ns.length := hia.length
 have hj:ns.idxOf i < its.length := by rw [hln]; exact List.idxOf_lt_length_iff.mpr hi
 refine call_meets F.slot_list_remove ⟨_,e,rfl⟩ F.entry_list_remove (F.args_list_remove_2 _ _)
  (MeetsSeq.list_remove l its.toArray n (.int i t) (eqI i) (fun y hy => ?_) (ns.idxOf i) (by simpa using hj) ?_ (fun m hm hlt => ?_) (by rw [List.size_toArray]; omega)) ⟨e,?_⟩
 ·obtain ⟨j,hj,e⟩ := List.getElem_of_mem (show y ∈ its by simpa using hy)
  obtain ⟨m,t',_,rfl⟩ := ints_at hia j y (by rw [List.getElem?_eq_getElem hj,e])
  exact MeetsSeq.EqGives.int m i t' t
 ·obtain ⟨m,t',h1,h2⟩ := ints_at hia (ns.idxOf i) (its[ns.idxOf i]) (List.getElem?_eq_getElem hj)
  have e3:ns[ns.idxOf i]? = some i:= by
   rw [List.getElem?_eq_getElem (by omega),List.getElem_idxOf]
  rw [e3] at h1
  cases h1
  have:(its.toArray)[ns.idxOf i]'(by simpa using hj) = its[ns.idxOf i] := by simp
  rw [this,h2]
  simp [eqI]
 ·have hm':m < its.length := by simpa using hm
  obtain ⟨k,t',h1,h2⟩ := ints_at hia m (its[m]) (List.getElem?_eq_getElem hm')
  have:(its.toArray)[m] = its[m] := by simp
  rw [this,h2]
  have hne:k ≠ i:= by
   have := List.not_of_lt_findIdx (p := fun x => x == i) (xs := ns) (i := m) hlt
   rw [List.getElem?_eq_getElem (by omega)] at h1
   simp only [Option.some.injEq] at h1
   rw [h1] at this
   simpa using this
  simpa [eqI] using hne
 ·refine ⟨.non,_,I.lset (ys := (ns.eraseIdx (ns.idxOf i)).map V.int) (its' := its.eraseIdx (ns.idxOf i)) hH e ?_ ?_ ?_,rfl,q⟩
  ·show its.toArray.eraseIdxIfInBounds _ = _
   rw [List.eraseIdxIfInBounds_toArray]
  ·have := r.eraseIdx (ns.idxOf i)
   rwa [er_map] at this
  ·have := List.length_eraseIdx_le ns (ns.idxOf i)
   rw [List.length_map]
   rw [List.length_map] at hl z
   omega
end
section
variable {X:Cx} {a:Expr} {fs:M (List D)} {pos p apos cpos:Pos} {x:Str}
noncomputable def mRemove (i:Nat) (fs:M (List D)):M Fl := do
 let _ <- peekO i
 let ds <- fs
 match ds with
 | [.int j] => do
  let xs <- peekO i
  let ns <- lift (intsD xs)
  let _ <- lift (if j ∈ ns then some () else none)
  setOw i ((ns.eraseIdx (ns.idxOf j)).map .int)
  pure .nx
 | _ => lift none
theorem ds_remove (i:Nat) (ha:DA X [a] fs) (hN:X.N[i]? = some x := by rfl) (hv:Vis X.env.scope x := by first | exact Or.inl rfl | exact Or.inr (Or.inl rfl) | exact Or.inr (Or.inr rfl)) (hd:(x == ("__debug__":Str)) = false := by decide) (hcd:(x == ("__classdict__":Str)) = false := by decide)
  (hfew:((backTo cpos (starEach [a] X.env)).all (fun x => !x.1) && (backToKw cpos (keywordEach [] X.env)).all (fun x => x.1.isSome)
   && decide (([a]:List Expr).length + ([]:List Keyword).length + (if ([]:List Keyword).isEmpty then 0 else 1) < 30)) = true := by rfl)
  (hline:(apos.endLine == cpos.line) = true := by rfl) (hs:starEach [a] X.env = [(false,eval a X.env)] := by rfl) (hsw:swapsWith (.Call (.Attribute (.Name x p) "remove" apos) [a] [] cpos) none pos.line X.env = pure false := by rfl) :
  DSt X (.Expr (.Call (.Attribute (.Name x p) "remove" apos) [a] [] cpos) pos) (mRemove i fs) :=
 psOf (ps_expr (pe_bm PySem.F.plainAttrs_list PySem.F.slot_list_remove PySem.F.type_list_remove mt_remove (pe_var hN hv hd hcd) ha rfl hfew hline hs rfl) hsw) fun E σ H ⟨c,δ,S,T,fl,δ',s,e,k⟩ => by
  obtain ⟨xs0,δ0,e0,e⟩ := bind_some e
  obtain ⟨⟨b0,hi0⟩,rfl⟩ := peekO_some e0
  obtain ⟨q,vs0,eq,hq,_⟩ := s.own hi0
  obtain ⟨ds,δ1,e1,e⟩ := bind_some e
  refine ⟨_,eq,.inl ⟨rfl,vs0,.of hq⟩,c,δ,S,T,ds,δ1,s,e1,fun vs H1 l s1 => ?_⟩
  split at e
  ·rename_i j
   obtain ⟨xs,δ2,e2,e⟩ := bind_some e
   obtain ⟨⟨b1,hi1⟩,rfl⟩ := peekO_some e2
   obtain ⟨ns,δ3,e3,e⟩ := bind_some e
   obtain ⟨e4,rfl⟩ := lift_some e3
   obtain ⟨_,δ5,e6,e⟩ := bind_some e
   obtain ⟨e7,rfl⟩ := lift_some e6
   obtain ⟨_,δ4,e5,e⟩ := bind_some e
   obtain ⟨rfl,rfl⟩ := pure_some e
   obtain ⟨b2,ys,hi2,rfl⟩ := setOw_some e5
   rw [hi1] at hi2; cases hi2
   obtain ⟨q',ws,eq',hq',hx⟩ := s1.own hi1
   rw [eq] at eq'; cases eq'
   obtain ⟨v,rfl,r⟩ := rs1 (s1.st.left l)
   cases r.int
   have ew := rs_ints hx e4
   subst ew
   split at e7
   ·rename_i hj
    exact ⟨q,ns,j,rfl,rfl,hq',hj,k _ _ ((s1.drop l).mut hi1 eq (rs_ofInts _))⟩
   ·cases e7
  ·cases e
end
noncomputable def Hl (c:Ct) (δ:DS) (σ:L2.St) (L:List Addr) (a:Addr):Prop := Hd c δ σ a ∧ a ∉ L
inductive tMAs (f:M (List D)) (σ:St) (H:Hp) (Q:List V -> Hp -> Prop):Prop
 | mk (c:Ct) (δ:DS) (S:List D) (T:List V) (ds:List D) (δ':DS) (s:Sl c δ S σ T H) (e:f δ = some (ds,δ')) (q:∀ vs H' (L:List Addr),Sl c δ' S σ T H' -> (∀ a ∈ L,∃ ws,H' a = some (.lst ws)) -> Rs (hid (Hl c δ' σ L) H') ds vs -> Q vs H'):tMAs f σ H Q
noncomputable abbrev DAs (X:Cx) (es:List Expr) (f:M (List D)):Prop := PA X es (tMAs f)
noncomputable def tupFlat:D -> Bool
 | .tup xs => xs.all fun d => (flat d).isSome
 | d => (flat d).isSome
theorem flat_R {d:D} {v:V} {H H':Hp} (h:(flat d).isSome = true) (r:R H d v):R H' d v:= by
 cases d with
 | non => rw [r.non]; exact .mkN
 | bl b => rw [r.bl]; exact .mkB
 | int b => rw [r.int]; exact .mkI
 | str b => rw [r.str]; exact .mkS
 | tup _ => cases h
 | lst _ => cases h
 | dct => cases h
theorem flats_R {H H':Hp}:∀ {ds:List D} {vs:List V},(ds.all fun d => (flat d).isSome) = true -> Rs H ds vs -> Rs H' ds vs
 | [],vs,_,r => by rw [r.inv0]; exact .nil
 | d :: ds,vs,h,r => by
  obtain ⟨v,q,ev,h1,h2⟩ := r.inv
  subst ev
  simp only [List.all_cons,Bool.and_eq_true] at h
  exact .cons (flat_R h.1 h1) (flats_R h.2 h2)
theorem tupFlat_R {H H':Hp} (m:∀ a vs,H a = some (.tup vs) -> H' a = some (.tup vs)) {d:D} {v:V} (h:tupFlat d = true) (r:R H d v):R H' d v:= by
 cases d with
 | tup xs =>
  obtain ⟨a,vs,ev,h1,h2⟩ := r.tup
  subst ev
  exact .mkT (m a vs h1) (flats_R h h2)
 | non => exact flat_R h r
 | bl b => exact flat_R h r
 | int b => exact flat_R h r
 | str b => exact flat_R h r
 | lst _ => cases h
 | dct => cases h
theorem tupFlats_R {H H':Hp} (m:∀ a vs,H a = some (.tup vs) -> H' a = some (.tup vs)):∀ {ds:List D} {vs:List V},ds.all tupFlat = true -> Rs H ds vs -> Rs H' ds vs
 | [],vs,_,r => by rw [r.inv0]; exact .nil
 | d :: ds,vs,h,r => by
  obtain ⟨v,q,ev,h1,h2⟩ := r.inv
  subst ev
  simp only [List.all_cons,Bool.and_eq_true] at h
  exact .cons (tupFlat_R m h.1 h1) (tupFlats_R m h.2 h2)
section
variable {X:Cx} {a:Expr} {ha':M Hn} {fs:M (List D)} {pos p:Pos} {es:List Expr} {x:Str}
theorem das_nil:DAs X [] (pure []) := paOf pa_nil fun σ H Q ⟨c,δ,S,T,d,δ',s,e,k⟩ => by
 obtain ⟨rfl,rfl⟩ := pure_some e
 exact k [] H [] s (fun _ h => by cases h) .nil
theorem das_cons (ha:DH X a ha') (hr:DAs X es fs) (hs:starEach (a :: es) X.env = (false,eval a X.env) :: starEach es X.env := by rfl):DAs X (a :: es) (mConsH ha' fs) := paOf (pa_cons ha hr hs) fun σ H Q ⟨c,δ,S,T,d,δ',s,e,k⟩ => by
 obtain ⟨h,δ1,e1,e⟩ := bind_some e
 obtain ⟨xs,δ2,e2,e⟩ := bind_some e
 obtain ⟨x,δ3,e3,e⟩ := bind_some e
 obtain ⟨rfl,rfl⟩ := pure_some e
 refine ⟨c,δ,S,T,h,δ1,s,e1,fun v H1 k1 => ⟨c,δ1,h.ds ++ S,h.vs v ++ T,xs,δ2,k1.sl,e2,fun vs H2 L s2 hL r2 => ?_⟩⟩
 have s3 := s2.drop (Hn.len v h)
 cases h with
 | th d0 =>
  have e4:some (d0,δ2) = some (x,δ3) := e3
  injection e4 with e5
  injection e5 with e6 e7
  subst e6
  subst e7
  have r:R (vis c δ2 σ H2) d0 v := s2.st.head
  exact k (v :: vs) H2 L s3 hL (.cons (r.mono fun b o hb => hid_some.mpr ⟨fun z => (hid_some.mp hb).1 z.1,(hid_some.mp hb).2⟩) r2)
 | ls i =>
  unfold rdH at e3
  dsimp only at e3
  split at e3
  ·rename_i b ys hx
   cases e3
   obtain ⟨p,ws,ev,hp,hr⟩ := s3.own hx
   have hv:σ[i]? = some (some v) := k1.2
   rw [hv] at ev
   cases ev
   refine k (.ref p :: vs) H2 (p :: L) s3 (fun q hq => ?_) (.cons (.mkL (.inl (hid_some.mpr ⟨fun z => z.2 List.mem_cons_self,hp⟩)) (hr.mono fun b o hb => hid_some.mpr ⟨fun z => (hid_some.mp hb).1 z.1,(hid_some.mp hb).2⟩)) (r2.mono fun b o hb => hid_some.mpr ⟨fun z => (hid_some.mp hb).1 ⟨z.1,fun hm => z.2 (List.mem_cons_of_mem _ hm)⟩,(hid_some.mp hb).2⟩))
   rcases List.mem_cons.mp hq with rfl | hq
   ·exact ⟨ws,hp⟩
   ·exact hL q hq
  ·cases e3
noncomputable def lentF (n:Nat) (mf:List D -> Option (List D)) (ds:List D):Option (List D) := if ds.length = n then (match mf ds with
 | some xs => if xs.all tupFlat = true then some xs else none
 | none => none) else none
variable {k:Nat} {f:Addr} {fd:FuncData} {ps:List Str}
open Classical in
theorem df_callR {mf:List D -> Option (List D)} {n:Nat} (F:FnOk X.prog X.w X.K X.mg X.base CX0 k f fd ps (spF n mf)) (hr:Room k X.A) (hm:X.mg x = some (.ref f)) (hk:PySem.W.keepIn X.K (.ref f) = true) (hb:Binds X.K fd ps []) (ha:DAs X (a :: es) fs)
  (hg:Gl X x := by rfl) (hdb:(x == ("__debug__":Str)) = false := by decide) (he:starEach (a :: es) X.env = (false,eval a X.env) :: starEach es X.env := by rfl) (hpl:(backTo pos (starEach es X.env)).any (·.1) = false := by rfl) :
  DF X (.Call (.Name x p) (a :: es) [] pos) (mC (lentF n mf) fs) := peOf (pe_call F hr hg hm hk hb .nil pass0 ha hdb he hpl) fun σ H Q ⟨c,δ,S,T,d,δ',s,e,k⟩ => by
 obtain ⟨ds,δ1,e1,e⟩ := bind_some e
 obtain ⟨e2,rfl⟩ := lift_some e
 refine ⟨c,δ,S,T,ds,δ1,s,e1,fun vs H1 L s1 hL rs => ?_⟩
 unfold lentF at e2
 split at e2
 ·rename_i hn
  split at e2
  ·rename_i xs q
   split at e2
   ·rename_i hf
    cases e2
    rw [List.append_nil]
    refine ⟨rs.length.trans hn,fun a => if Hl c δ1 σ L a then H1 a else none,ds,d,fun a o z => ?_,rs.mono (hid_mono (fun a o _ z => ?_) fun _ _ _ h => h),q,fun l ws H' g hq hq' r => ?_⟩
    ·by_cases h:Hl c δ1 σ L a
     ·simpa [h] using z
     ·simp [h] at z
    ·obtain ⟨o',z⟩ := z
     by_cases h:Hl c δ1 σ L a
     ·exact h
     ·simp [h] at z
    obtain ⟨f1,f2,f3⟩ := s1.fresh hq
    have s2:Sl { c with Z := upd c.Z l (.lst ws) } δ1 S σ T H':= by
     have h0 := s1.hide (o := .lst ws) hq
     refine h0.grow fun b o hb => ?_
     by_cases eb:b = l
     ·subst eb; rw [upd_same] at hb; cases hb; exact hq'
     ·rw [upd_ne eb] at hb; exact g b o hb
    refine k l ws H' r.length (s2.stk ((tupFlats_R (fun b us hb => ?_) hf r).append s2.st)) f1 f2 f3
    obtain ⟨h1,h2⟩ := hid_some.mp hb
    refine hid_some.mpr ⟨fun z => ?_,h2⟩
    have hbl:b ≠ l := fun eb => by subst eb; rw [hq'] at h2; cases h2
    have hd:Hd c δ1 σ b:= by
     rcases z with ⟨o,z⟩ | z
     ·have z':upd c.Z l (.lst ws) b = some o := z
      rw [upd_ne hbl] at z'
      exact .inl ⟨o,z'⟩
     ·exact .inr z
    obtain ⟨o,ho⟩ := s1.hdSome hd
    by_cases hL':b ∈ L
    ·obtain ⟨us',hu⟩ := hL b hL'
     rw [g b _ hu] at h2
     cases h2
    ·refine h1 ⟨o,?_⟩
     rw [upd_ne hbl]
     simp only [show Hl c δ1 σ L b from ⟨hd,hL'⟩,if_true]
     exact ho
   ·cases e2
  ·cases e2
 ·cases e2
end
end Jt
namespace Jt
open PySem L2
section
variable {X:Cx} {a:Expr} {fa:M D} {pos:Pos}
noncomputable def dNeg:D -> Option D
 | .int i => some (.int (-i))
 | _ => none
noncomputable def m1 (f:D -> Option D) (fa:M D):M D := do
 let x <- fa
 lift (f x)
theorem de_neg (ha:DE X a fa):DE X (.UnaryOp .USub a pos) (m1 dNeg fa) := peOf (pe_un un_neg ha) fun σ H Q ⟨c,δ,S,T,d,δ',s,e,k⟩ => by
 obtain ⟨x,δ1,e1,e⟩ := bind_some e
 obtain ⟨e2,rfl⟩ := lift_some e
 refine ⟨c,δ,S,T,x,δ1,s,e1,fun v H' s' => ?_⟩
 cases x with
 | int i =>
  cases e2
  exact ⟨i,s'.st.head.int,k _ _ (s'.pop.stk (.cons .mkI s'.pop.st))⟩
 | _ => cases e2
end
end Jt
namespace Jt
open PySem L2
section
variable {δ:DS}
@[simp] theorem Ok_m1 {f:D -> Option D} {fa:M D} {Q:D -> DS -> Prop}:Ok (m1 f fa) δ Q ↔ Ok fa δ fun x δ1 => Ok (lift (f x)) δ1 Q:= by
 unfold m1; simp
@[simp] theorem Ok_chn {r1 r2:D -> D -> Option D} {fa fb fc:M D} {Q:D -> DS -> Prop}:Ok (chn r1 r2 fa fb fc) δ Q ↔ Ok fa δ fun x δ1 => Ok fb δ1 fun y δ2 => Ok (lift (r1 x y)) δ2 fun z δ3 => match z with
  | .bl true => Ok fc δ3 fun w δ4 => Ok (lift (r2 y w)) δ4 Q
  | .bl false => Q (.bl false) δ3
  | _ => False:= by
 unfold chn
 simp only [Ok_bind]
 constructor <;>
 ·intro h
  refine h.mono fun x δ1 h => h.mono fun y δ2 h => h.mono fun z δ3 h => ?_
  cases z with
  | bl b => cases b <;> simpa using h
  | _ => simpa using h
theorem okWhile {tt:M Bool} {body:M Fl} {Q:Fl -> DS -> Prop} (I:Nat -> DS -> Prop) (h:∀ k δ,I k δ -> Ok tt δ fun b δ1 => (b = true -> ∃ j,k = j + 1 ∧ Ok body δ1 fun fl δ2 => fl = .nx ∧ I j δ2) ∧ (b = false -> Q .nx δ1)) :
  ∀ (f n:Nat) (δ:DS),n < f -> I n δ -> Ok (whM tt body f) δ Q
 | 0,n,δ,hf,_ => by omega
 | f + 1,n,δ,hf,hI => by
  unfold whM
  rw [Ok_bind]
  refine (h n δ hI).mono fun b δ1 hb => ?_
  cases b with
  | false => exact Ok_pure.mpr (hb.2 rfl)
  | true =>
   obtain ⟨j,rfl,hj⟩ := hb.1 rfl
   show Ok (body >>= _) δ1 Q
   rw [Ok_bind]
   refine hj.mono fun fl δ2 ⟨e,hI2⟩ => ?_
   subst e
   exact okWhile I h f j δ2 (by omega) hI2
theorem Ok_mRemove {i:Nat} {fs:M (List D)} {Q:Fl -> DS -> Prop} (h0:∃ b xs,δ[i]? = some (.ow b xs)) (h:Ok fs δ fun ds δ1 => ∃ (j:Int) (b:Bool) (ns:List Int),ds = [.int j] ∧ δ1[i]? = some (.ow b (ns.map .int)) ∧ j ∈ ns ∧ Q .nx (δ1.set i (.ow b ((ns.eraseIdx (ns.idxOf j)).map .int)))):Ok (mRemove i fs) δ Q:= by
 have im:∀ h:List Int,intsD (h.map .int) = some h := fun h => by
  induction h with
  | nil => rfl
  | cons a r ih => simp [intsD,ih]
 unfold mRemove
 obtain ⟨b,xs,e⟩ := h0
 simp only [Ok_bind,Ok_peekO]
 refine ⟨b,xs,e,h.mono fun ds δ1 q => ?_⟩
 obtain ⟨j,b',ns,rfl,e1,hj,q⟩ := q
 simp only [Ok_bind,Ok_peekO,Ok_setOw,Ok_pure]
 refine ⟨b',_,e1,?_⟩
 rw [im]
 simp only [Ok_some,hj,if_true]
 exact ⟨b',_,e1,q⟩
end
end Jt
namespace Jt
open PySem L2 PySem.Spec PyProof.Rows
section
variable {prog:Program} {w:World} {A:Around} {E:Value -> Shared -> Prop} {s:Shared}
end
section
variable {X:Cx} {a b e:Expr} {fa fb:M D} {pos:Pos}
end
end Jt
namespace Jt
open PySem L2 PySem.Spec PyProof.Rows
section
variable {prog:Program} {w:World} {A:Around} {E:Value -> Shared -> Prop} {s:Shared}
end
section
variable {X:Cx} {e:Expr} {te:TE} {fa:M D} {j:Nat} {pos p2 p3 p4:Pos}
end
section
variable {X:Cx} {a:Expr} {fa:M D} {fs:M (List D)} {es us:List Expr} {vs:List (Option Expr)} {pos p2:Pos} {j:Nat} {c:Const} {o:UnaryOp} {env:Env}
theorem sw_list {t:Option Expr} {l:Nat}:swapsWith (.List es p2) t l env = pure false := rfl
theorem st_const:starEach (.Constant c j p2 :: es) env = (false,eval (.Constant c j p2) env) :: starEach es env := rfl
end
@[simp] theorem isiB_int_non:isiB .int .non = false := rfl
@[simp] theorem isiB_int_bl (b:Bool):isiB .int (.bl b) = true := rfl
@[simp] theorem isiB_int_int (i:Int):isiB .int (.int i) = true := rfl
@[simp] theorem isiB_int_str (x:Str):isiB .int (.str x) = false := rfl
@[simp] theorem isiB_int_tup (xs:List D):isiB .int (.tup xs) = false := rfl
@[simp] theorem isiB_int_lst (xs:List D):isiB .int (.lst xs) = false := rfl
@[simp] theorem isiB_int_dct:isiB .int .dct = false := rfl
@[simp] theorem isiB_bool_non:isiB .bool .non = false := rfl
@[simp] theorem isiB_bool_bl (b:Bool):isiB .bool (.bl b) = true := rfl
@[simp] theorem isiB_bool_int (i:Int):isiB .bool (.int i) = false := rfl
@[simp] theorem isiB_bool_str (x:Str):isiB .bool (.str x) = false := rfl
@[simp] theorem isiB_bool_tup (xs:List D):isiB .bool (.tup xs) = false := rfl
@[simp] theorem isiB_bool_lst (xs:List D):isiB .bool (.lst xs) = false := rfl
@[simp] theorem isiB_bool_dct:isiB .bool .dct = false := rfl
@[simp] theorem isiB_tup_non:isiB .tup .non = false := rfl
@[simp] theorem isiB_tup_bl (b:Bool):isiB .tup (.bl b) = false := rfl
@[simp] theorem isiB_tup_int (i:Int):isiB .tup (.int i) = false := rfl
@[simp] theorem isiB_tup_str (x:Str):isiB .tup (.str x) = false := rfl
@[simp] theorem isiB_tup_tup (xs:List D):isiB .tup (.tup xs) = true := rfl
@[simp] theorem isiB_tup_lst (xs:List D):isiB .tup (.lst xs) = false := rfl
@[simp] theorem isiB_tup_dct:isiB .tup .dct = false := rfl
@[simp] theorem isiB_lst_non:isiB .lst .non = false := rfl
@[simp] theorem isiB_lst_bl (b:Bool):isiB .lst (.bl b) = false := rfl
@[simp] theorem isiB_lst_int (i:Int):isiB .lst (.int i) = false := rfl
@[simp] theorem isiB_lst_str (x:Str):isiB .lst (.str x) = false := rfl
@[simp] theorem isiB_lst_tup (xs:List D):isiB .lst (.tup xs) = false := rfl
@[simp] theorem isiB_lst_lst (xs:List D):isiB .lst (.lst xs) = true := rfl
@[simp] theorem isiB_lst_dct:isiB .lst .dct = false := rfl
@[simp] theorem isiB_str_non:isiB .str .non = false := rfl
@[simp] theorem isiB_str_bl (b:Bool):isiB .str (.bl b) = false := rfl
@[simp] theorem isiB_str_int (i:Int):isiB .str (.int i) = false := rfl
@[simp] theorem isiB_str_str (x:Str):isiB .str (.str x) = true := rfl
@[simp] theorem isiB_str_tup (xs:List D):isiB .str (.tup xs) = false := rfl
@[simp] theorem isiB_str_lst (xs:List D):isiB .str (.lst xs) = false := rfl
@[simp] theorem isiB_str_dct:isiB .str .dct = false := rfl
end Jt
namespace Jt
open PySem L2 PySem.Spec PyProof.Rows
section
variable {prog:Program} {w:World} {A:Around} {E:Value -> Shared -> Prop} {s:Shared}
end
section
variable {X:Cx} {e:Expr} {fa:M D} {pos:Pos}
end
end Jt
namespace Jt
open PySem L2
open PyProof.Rows (AllBare)
structure Fly (P:Program) (w:World) (l:List Env) (H H':Hp) (h0 h B:Heap):Prop where
 un:Un (frs l) [] H H' h0 h
 hok:HOk P w H' h
 inB:∀ b o,h0.get? b = some o -> b ∉ frs l -> ∃ o',B.get? b = some o'
 hB:∀ b o,H' b = some o -> ∃ o',B.get? b = some o'
 st:B.StaysIn h
theorem Fly.same {P:Program} {w:World} {l:List Env} {H H':Hp} {h0 h h2 B:Heap} (F:Fly P w l H H' h0 h B) (st:B.StaysIn h2) {b:Addr} {o o':Obj} (e:h.get? b = some o) (e':B.get? b = some o'):h2.get? b = some o:= by
 have h1 := F.st b o' e'
 rw [e] at h1; cases h1
 exact st b o e'
theorem Fly.move {P:Program} {w:World} {l:List Env} {H H':Hp} {h0 h h2 B base:Heap} (F:Fly P w l H H' h0 h B) (st:B.StaysIn h2) (up:h.UpToSlots h2) (fr:h.FunFrames base l):Fly P w l H H' h0 h2 B:= by
 have frm:∀ b ∈ frs l,∃ o,h.get? b = some o ∧ ∀ vs,o.data ≠ .fields vs := fun b hb => (fr.mem hb).2
 refine ⟨⟨fun b o e n hb _ => ?_,fun b o e n hb _ => ?_,F.un.free,fun b o e _ => ?_,F.un.tups,F.un.frzs,F.un.tbls⟩,?_,F.inB,F.hB,st⟩
 ·obtain ⟨o',e'⟩ := F.inB b o e hb
  exact F.same st (F.un.keep b o e n hb (by simp)) e'
 ·obtain ⟨sl,e1⟩ := F.un.slot b o e n hb (by simp)
  obtain ⟨o1,e2,hd⟩ := frm b hb
  rw [e1] at e2; cases e2
  obtain ⟨sl2,e3⟩ := up b _ e1 hd
  exact ⟨sl2,e3⟩
 ·by_cases hb:b ∈ frs l
  ·obtain ⟨o1,e2,hd⟩ := frm b hb
   obtain ⟨sl2,e3⟩ := up b _ e2 hd
   exact ⟨_,e3⟩
  ·obtain ⟨o',e'⟩ := F.inB b o e hb
   exact ⟨o',st b o' e'⟩
 ·intro a o e
  refine (F.hok a o e).stay (fun b u hb q => ?_) (fun _ q => q) fun _ _ q => q
  have:∃ o',H' b = some o':= by
   rcases hb with rfl | hb
   ·exact ⟨o,e⟩
   ·exact ⟨_,hb⟩
  obtain ⟨o1,e1⟩ := this
  obtain ⟨o',e'⟩ := F.hB b o1 e1
  exact F.same st q e'
structure Fx (base:Heap) (l:List Env) (e:Addr) (oe:Obj) (vs:Array Value) (fl:Value) (h:Heap):Prop where
 st:base.StaysIn h
 ne:base.get? e = none
 fr:h.FunFrames base l
 sz:1 < vs.size
 tr:∃ T oT ts,h.get? e = some { oe with data := .fields (vs.setIfInBounds 1 (.ref T)) } ∧ base.get? T = none ∧ T ≠ e ∧ h.get? T = some oT ∧ oT.data = .fields ts ∧ ts[3]? = some fl
section
variable {M:Model} {A:Around} {E:Value -> Shared -> Prop} {s:Shared} {base:Heap} {env:Env} {outer:List Env} {L e:Addr} {oe:Obj} {vs ws:Array Value} {head fl:Value} {hadNext:Bool} {Q:Unit -> Shared -> Prop}
theorem fx_entry (hfr:A.frames = some (env :: outer)) (hl:s.heap.FunFrames base (env :: outer)) (hf:env.frame = some L) (he:s.heap.get? e = some { oe with data := .fields ws }) (hw:∀ x,ws.setIfInBounds 1 x = vs.setIfInBounds 1 x) (hsz:1 < vs.size) (hkb:base.StaysIn s.heap) (hen:base.get? e = none)
  (h:∀ h',Fx base (env :: outer) e oe vs (rawInt L) h' -> s.heap.UpToSlots h' -> Q () { s with heap := h' }) :
  wpAny M A (do let a <- frameOf env; let pl <- entryPlaceOf L hadNext; let b <- EntryCells.newEntry head a .none (rawInt L) .none pl; setField (.ref e) 1 b) Q E s:= by
 have hws:1 < ws.size:= by
  have := congrArg Array.size (hw .none)
  simp only [Array.size_setIfInBounds] at this
  omega
 have hene:e ∉ (env :: outer).filterMap (·.frame) := fun hm => by
  obtain ⟨_,o,ho,hnf⟩ := hl.mem hm
  rw [he] at ho; cases ho; exact hnf ws rfl
 refine wpAny_bind (wpAny_frameOf_fun hfr hl hf fun h₁ hs₁ => ?_)
 refine wpAny_bind (wpAny_entryPlaceOf fun pl hpl => ?_)
 unfold EntryCells.newEntry newFields
 refine wpAny_bind (wpAny_newObj_type ?_ (hpl.sizeOk5 _ _ _ _ _))
 have he₁:h₁.get? e = some { oe with data := .fields ws } := (hs₁.2.1 e hene).trans he
 have kb₁:base.StaysIn h₁ := fun b o hbo => (hs₁.2.1 b fun hm => by rw [(hl.mem hm).1] at hbo; cases hbo).trans (hkb b o hbo)
 have hTe:h₁.objs.size ≠ e := Nat.ne_of_gt (Heap.lt_size he₁)
 refine wpAny_setField (Heap.get?_push_of_some _ he₁) rfl hws (h _ ?_ ?_)
 ·refine ⟨fun b o hbo => ?_,hen,hl.of_keeps fun b o hb hnf => ?_,hsz,h₁.objs.size,_,_,(Heap.get?_update_self _ (Heap.get?_push_of_some _ he₁) rfl).trans ?_,kb₁.fresh,hTe,(Heap.get?_update_other _ _ (Ne.symm hTe)).trans (Heap.get?_push_size h₁ rfl),rfl,?_⟩
  ·have hbe:e ≠ b := fun q => by rw [<- q,hen] at hbo; cases hbo
   exact (Heap.get?_update_other _ _ hbe).trans (Heap.get?_push_of_some _ (kb₁ b o hbo))
  ·have hbe:e ≠ b := fun q => by rw [<- q,he] at hb; cases hb; exact hnf ws rfl
   obtain ⟨sl,hs⟩ := hs₁.2.2 b o hb
   exact ⟨_,(Heap.get?_update_other _ _ hbe).trans (Heap.get?_push_of_some _ hs),rfl⟩
  ·show some { oe with data := .fields (ws.setIfInBounds 1 _) } = _
   rw [hw]
  ·first | (simp; done) | (rcases hpl with rfl | ⟨_,_,_,_,_,_,_,rfl⟩ <;> simp)
 ·intro b o hb hnf
  have hbe:e ≠ b := fun q => by rw [<- q,he] at hb; cases hb; exact hnf ws rfl
  obtain ⟨sl,hs⟩ := hs₁.2.2 b o hb
  exact ⟨sl,(Heap.get?_update_other _ _ hbe).trans (Heap.get?_push_of_some _ hs)⟩
theorem fx_note1 (hfr:A.frames = some (env :: outer)) (hl:s.heap.FunFrames base (env :: outer)) (hf:env.frame = some L) (he:s.heap.get? e = some { oe with data := .fields vs }) (hv:vs[1]? = some .none) (hkb:base.StaysIn s.heap) (hen:base.get? e = none)
  (h:∀ h',Fx base (env :: outer) e oe vs (rawInt L) h' -> s.heap.UpToSlots h' -> Q () { s with heap := h' }):wpAny M A (noteFrame (.ref e) env) Q E s:= by
 unfold noteFrame
 simp only [hf]
 refine wpAny_bind (wpAny_field he rfl hv ?_)
 rw [if_neg (by decide)]
 exact fx_entry hfr hl hf he (fun _ => rfl) (Array.getElem?_eq_some_iff.mp hv).1 hkb hen h
theorem fx_note (hfr:A.frames = some (env :: outer)) (hf:env.frame = some L) (F:Fx base (env :: outer) e oe vs .none s.heap)
  (h:∀ h',Fx base (env :: outer) e oe vs (rawInt L) h' -> s.heap.UpToSlots h' -> Q () { s with heap := h' }):wpAny M A (noteFrame (.ref e) env) Q E s:= by
 obtain ⟨hkb,hen,hl,hsz,T,oT,ts,he,hnT,hTe,hT,hdT,h3⟩ := F
 unfold noteFrame
 simp only [hf]
 refine wpAny_bind (wpAny_field he rfl (x := .ref T) (by simp [hsz]) ?_)
 rw [if_pos (show (Value.ref T != Value.none) = true from by simp)]
 refine wpAny_bind (wpAny_field hT hdT h3 ?_)
 rw [if_neg (show ¬ ((Value.none == rawInt L) = true) from by simp [rawInt])]
 refine wpAny_bind (wpAny_setField hT hdT (Array.getElem?_eq_some_iff.mp h3).1 ?_)
 have other:∀ b,b ≠ T -> (s.heap.update T (Obj.mapFields (·.setIfInBounds 3 Value.none))).get? b = s.heap.get? b := fun b hb => Heap.get?_update_other _ _ (Ne.symm hb)
 have noRecord:∀ b o,s.heap.get? b = some o -> (∀ vs,o.data ≠ .fields vs) -> b ≠ T := fun b o hb hnf q => by
  rw [q,hT] at hb; cases hb; exact hnf ts hdT
 refine fx_entry hfr (hl.of_keeps fun b o hb hnf => ⟨o,(other b (noRecord b o hb hnf)).trans hb,rfl⟩) hf ((other e (Ne.symm hTe)).trans he) (fun x => by simp) hsz
  (fun b o hbo => (other b fun q => by rw [q,hnT] at hbo; cases hbo).trans (hkb b o hbo)) hen fun h' F' up => h h' F' fun b o hb hnf => up b o ((other b (noRecord b o hb hnf)).trans hb) hnf
theorem fx_land {l:List Env} (F:Fx base l e oe vs fl s.heap) (h:∀ h',Fx base l e oe vs .none h' -> s.heap.UpToSlots h' -> Q () { s with heap := h' }):wpAny M A (setFlight (.ref e) none) Q E s:= by
 obtain ⟨hkb,hen,hl,hsz,T,oT,ts,he,hnT,hTe,hT,hdT,h3⟩ := F
 have hsz3:3 < ts.size := (Array.getElem?_eq_some_iff.mp h3).1
 have other:∀ b,b ≠ T -> (s.heap.update T (Obj.mapFields (·.setIfInBounds 3 ((none:Option Addr).elim Value.none fun f => rawInt f)))).get? b = s.heap.get? b := fun b hb => Heap.get?_update_other _ _ (Ne.symm hb)
 have noRecord:∀ b o,s.heap.get? b = some o -> (∀ vs,o.data ≠ .fields vs) -> b ≠ T := fun b o hb hnf q => by
  rw [q,hT] at hb; cases hb; exact hnf ts hdT
 unfold setFlight
 refine wpAny_bind (wpAny_field he rfl (x := .ref T) (by simp [hsz]) ?_)
 rw [if_pos (show (Value.ref T != Value.none) = true from by simp)]
 refine wpAny_setField hT hdT hsz3 (h _ ⟨fun b o hbo => (other b fun q => by rw [q,hnT] at hbo; cases hbo).trans (hkb b o hbo),hen,hl.of_keeps fun b o hb hnf => ⟨o,(other b (noRecord b o hb hnf)).trans hb,rfl⟩,hsz,T,_,_,(other e (Ne.symm hTe)).trans he,hnT,hTe,Heap.get?_update_self _ hT (Obj.isFreed_of_fields (Obj.data_mapFields hdT _)),Obj.data_mapFields hdT _,by simp [hsz3]⟩ fun b o hb hnf => ⟨o.slots,(other b (noRecord b o hb hnf)).trans hb⟩)
theorem fx_leave (hfr:A.frames = some (env :: outer)) (hf:env.frame = some L) (F:Fx base (env :: outer) e oe vs .none s.heap)
  (h:∀ h',Fx base outer e oe vs .none h' -> s.heap.UpToSlots h' -> Q () { s with heap := h' }):wpAny M A (leaving env (.ref e)) Q E s:= by
 unfold leaving
 refine wpAny_bind (fx_note hfr hf F fun h₁ F₁ up₁ => fx_land F₁ fun h₂ F₂ up₂ => h h₂ ?_ (up₁.trans up₂))
 obtain ⟨a,b,⟨_,_,c⟩,d,t⟩ := F₂
 exact ⟨a,b,c,d,t⟩
theorem fx_leave1 (hfr:A.frames = some (env :: outer)) (hl:s.heap.FunFrames base (env :: outer)) (hf:env.frame = some L) (he:s.heap.get? e = some { oe with data := .fields vs }) (hv:vs[1]? = some .none) (hkb:base.StaysIn s.heap) (hen:base.get? e = none)
  (h:∀ h',Fx base outer e oe vs .none h' -> s.heap.UpToSlots h' -> Q () { s with heap := h' }):wpAny M A (leaving env (.ref e)) Q E s:= by
 unfold leaving
 refine wpAny_bind (fx_note1 hfr hl hf he hv hkb hen fun h₁ F₁ up₁ => fx_land F₁ fun h₂ F₂ up₂ => h h₂ ?_ (up₁.trans up₂))
 obtain ⟨a,b,⟨_,_,c⟩,d,t⟩ := F₂
 exact ⟨a,b,c,d,t⟩
end
noncomputable def exObj (cls:Value):Obj := { cls := cls,data := .fields #[] }
noncomputable def exFs (t:Addr):Array Value := #[.ref t,.none,.none,.none,.bool false,.none]
noncomputable def CXr (P:Program) (w:World):CXT := fun outer H s E e s' => ∃ (a:Addr) (cls:Value) (t:Addr) (B:Heap) (H':Hp),e = .ref a ∧ s'.os = s.os ∧ AllBare s'.gens ∧ Fly P w outer H H' s.heap s'.heap B ∧ Fx B outer a (exObj cls) (exFs t) .none s'.heap ∧ E cls none H'
section
variable {X:Cx} {pins:List (Addr × Obj)} {σ:St} {H:Hp} {s s':Shared} {h':Heap}
theorem Fly.out {H':Hp} {h2 B:Heap} (I:Inv X pins σ H s) (hx:X.ex = []) (F:Fly X.prog X.w X.stack H H' s.heap h2 B):Fly X.prog X.w X.outer X.H₀ H' X.s₀.heap h2 B:= by
 have neL:∀ b o,X.s₀.heap.get? b = some o -> b ≠ X.env.locals := fun b o e => Nat.ne_of_lt (Nat.lt_of_lt_of_le (Heap.lt_size e) I.ok.above)
 have nin:∀ b o,X.s₀.heap.get? b = some o -> b ∉ X.fs -> b ∉ frs X.stack := fun b o e hb hm => by
  rcases List.mem_cons.mp (I.stkSub b hm) with z | z
  ·exact neL b o e z
  ·exact hb z
 have yin:∀ b ∈ X.fs,b ∈ frs X.stack := fun b hb => by
  rcases I.ok.stk with e | ⟨e,_⟩
  ·rw [e]; exact hb
  ·rw [e]
   unfold frs
   rw [List.filterMap_cons]
   split
   ·exact hb
   ·exact List.mem_cons_of_mem _ hb
 have nex:∀ b,b ∉ X.ex := fun b z => by rw [hx] at z; cases z
 refine ⟨⟨fun b o e n hb _ => ?_,fun b o e n hb _ => ?_,fun b o e n _ => ?_,fun b o e _ => ?_,fun b xs e => F.un.tups b xs (I.base.tups b xs e),fun b o u e => F.un.frzs b o u (I.base.frzs b o u e),fun b ps e => ?_⟩,F.hok,fun b o e hb => ?_,F.hB,F.st⟩
 ·exact F.un.keep b o (I.base.keep b o e n hb (nex b)) (I.base.free b o e n (nex b)) (nin b o e hb) (by simp)
 ·obtain ⟨sl,e1⟩ := I.base.slot b o e n hb (nex b)
  obtain ⟨sl2,e2⟩ := F.un.slot b _ e1 (I.base.free b o e n (nex b)) (yin b hb) (by simp)
  exact ⟨sl2,e2⟩
 ·obtain ⟨o',e1⟩ := I.base.there b o e (nex b)
  exact F.un.free b o' e1 (I.base.free b o e n (nex b)) (by simp)
 ·obtain ⟨o',e1⟩ := I.base.there b o e (nex b)
  exact F.un.there b o' e1 (by simp)
 ·obtain ⟨m1,e1⟩ := I.base.tbls b ps e
  obtain ⟨m2,e2⟩ := F.un.tbls b _ e1
  exact ⟨m1 ++ m2,by rw [e2,Array.append_assoc]⟩
 ·obtain ⟨o',e1⟩ := I.base.there b o e (nex b)
  exact F.inB b o' e1 (nin b o e hb)
theorem leave_on {E E':XK} {e:Value} {Q:Unit -> Shared -> Prop} {X':Value -> Shared -> Prop} (I:Inv X pins σ H s) (hx:X.ex = []) (hst:X.stack = X.env :: X.outer) (hf:X.env.frame = some X.env.locals) (h:CXr X.prog X.w X.stack H s E e s') (hE:∀ c H',E c none H' -> E' c none H')
  (k:∀ s'',CXr X.prog X.w X.outer X.H₀ X.s₀ E' e s'' -> Q () s''):wpAny (model X.prog X.w) X.A (leaving X.env e) Q X' s':= by
 obtain ⟨a,cls,t,B,H',rfl,os,bare,F,fl,q⟩ := h
 rw [hst] at fl
 refine fx_leave (by rw [I.ok.frames,hst]) hf fl fun h' fl' up => k _ ⟨a,cls,t,B,H',rfl,os.trans I.os,bare,?_,fl',hE _ _ q⟩
 have fr:s'.heap.FunFrames B X.stack := by rw [hst]; exact fl.fr
 exact Fly.out I hx (F.move fl'.st up fr)
theorem leave_made {E:XK} {a:Addr} {cls:Value} {args:List Value} {Q:Unit -> Shared -> Prop} {X':Value -> Shared -> Prop} (I:Inv X pins σ H s) (hx:X.ex = []) (hst:X.stack = X.env :: X.outer) (hf:X.env.frame = some X.env.locals) (hm:Heap.MadeExcOf s.heap h' a cls args) (hE:E cls none H)
  (k:∀ s'',CXr X.prog X.w X.outer X.H₀ X.s₀ E (.ref a) s'' -> Q () s''):wpAny (model X.prog X.w) X.A (leaving X.env (.ref a)) Q X' { s with heap := h' }:= by
 have hin:∀ env ∈ X.stack,∀ b,env.frame = some b -> b ∈ frs X.stack := fun env he b hb => List.mem_filterMap.mpr ⟨env,he,hb⟩
 have frB:s.heap.FunFrames (PySem.W.hideAll s.heap (frs X.stack)) X.stack := PySem.W.funFrames_hide I.stack hin
 have inB:∀ b o,s.heap.get? b = some o -> b ∉ frs X.stack -> (PySem.W.hideAll s.heap (frs X.stack)).get? b = some o := fun b o e hb => PySem.W.hideAll_get _ e hb
 have hH:∀ b o,H b = some o -> b ∉ frs X.stack := fun b o e hb => by rw [I.stkFree b hb] at e; cases e
 have hBx:∀ b o,H b = some o -> ∃ o',(PySem.W.hideAll s.heap (frs X.stack)).get? b = some o' := fun b o e => by
  have hl := I.hok.lt e
  cases q:s.heap.get? b with
  | some o' => exact ⟨o',inB b o' q (hH b o e)⟩
  | none =>
   exfalso
   have := I.hok b o e
   revert this
   cases o with
   | lst xs => rintro ⟨_,_,_,_,e⟩; rw [q] at e; cases e
   | tup xs => rintro ⟨_,_,_,ob,e,_⟩; rw [q] at e; cases e
   | dK kvs => rintro ⟨_,_,_,_,ob,_,_,e,_⟩; rw [q] at e; cases e
   | dT kvs => rintro ⟨_,_,_,_,ob,_,_,e,_⟩; rw [q] at e; cases e
   | set S n => rintro ⟨ob,_,_,_,e,_⟩; rw [q] at e; cases e
   | ins C dx fs => rintro ⟨_,_,_,e,_⟩; rw [q] at e; cases e
   | own y => rintro ⟨_,e⟩; rw [q] at e; cases e
   | xd fs => rintro ⟨_,⟨_,_,_,e,_⟩,_⟩; rw [q] at e; cases e
   | rng lo hi => rintro ⟨_,_,_,e⟩; rw [q] at e; cases e
   | frz ob u => rintro ⟨e,_⟩; rw [q] at e; cases e
   | tbl ps => intro z; have e:s.heap.get? b = some _ := z; rw [q] at e; cases e
   | met f y => intro z; have e:s.heap.get? b = some _ := z; rw [q] at e; cases e
   | ext φ => rintro ⟨_,⟨_,e⟩,_⟩; rw [q] at e; cases e
 have F0:Fly X.prog X.w X.stack H H s.heap s.heap (PySem.W.hideAll s.heap (frs X.stack)) := ⟨Un.refl,I.hok,fun b o e hb => ⟨o,inB b o e hb⟩,hBx,fun b o e => PySem.W.of_hideAll _ e⟩
 have frB':s.heap.FunFrames (PySem.W.hideAll s.heap (frs X.stack)) (X.env :: X.outer) := hst ▸ frB
 obtain ⟨t,he,htn,ht⟩ := hm.there
 have hnew:(PySem.W.hideAll s.heap (frs X.stack)).get? a = none:= by
  cases q:(PySem.W.hideAll s.heap (frs X.stack)).get? a with
  | none => rfl
  | some o => have := PySem.W.of_hideAll _ q; rw [hm.new] at this; cases this
 refine fx_leave1 (base := PySem.W.hideAll s.heap (frs X.stack)) (oe := exObj cls) (vs := exFs t) (by rw [I.ok.frames,hst]) (frB'.of_keeps fun b o hb _ => ⟨o,hm.keeps b o hb,rfl⟩) hf he rfl (fun b o e => hm.keeps b o (PySem.W.of_hideAll _ e)) hnew fun h2 fl up => k _ ⟨a,cls,t,_,H,rfl,I.os,I.bare,?_,fl,hE⟩
 have fr:s.heap.FunFrames (PySem.W.hideAll s.heap (frs X.stack)) X.stack := PySem.W.funFrames_hide I.stack hin
 exact Fly.out I hx (F0.move fl.st ((Heap.UpToSlots.of_keeps hm.keeps).trans up) fr)
end
end Jt
namespace Jt
open PySem L2
open PyProof.Rows (AllBare)
noncomputable abbrev XW := St -> Value -> Hp -> Prop
noncomputable def XF (X:Cx) (pins:List (Addr × Obj)) (W:XW) (e:Value) (s':Shared):Prop := ∃ σ H s,Inv X pins σ H s ∧ CXr X.prog X.w X.stack H s (fun c _ H' => W σ c H') e s'
noncomputable def XM (X:Cx) (pins:List (Addr × Obj)) (W:XW) (e:Value) (s':Shared):Prop := ∃ σ H s a cls args h',Inv X pins σ H s ∧ e = .ref a ∧ Heap.MadeExcOf s.heap h' a cls args ∧ s' = { s with heap := h' } ∧ W σ cls H
noncomputable abbrev TXE := St -> Hp -> VK -> XW -> Prop
noncomputable abbrev TXA := St -> Hp -> (List V -> Hp -> Prop) -> XW -> Prop
noncomputable abbrev TXS := Ends -> XW -> XW -> St -> Hp -> Prop
noncomputable def PEX (X:Cx) (e:Expr) (t:TXE):Prop := ∀ (pins:List (Addr × Obj)) (s:Shared) (σ:St) (H:Hp) (Q:VK) (W:XW),Inv X pins σ H s -> t σ H Q W -> wpAny (model X.prog X.w) X.A (eval e X.env) (EP X pins σ Q) (XF X pins W) s
noncomputable def PAX (X:Cx) (es:List Expr) (t:TXA):Prop := ∀ (pos:Pos) (pins:List (Addr × Obj)) (s:Shared) (σ:St) (H:Hp) (Q:List V -> Hp -> Prop) (W:XW),Inv X pins σ H s -> t σ H Q W -> wpAny (model X.prog X.w) X.A (spliced (backTo pos (starEach es X.env))) (AP X pins σ Q) (XF X pins W) s
noncomputable def XS (X:Cx) (pins:List (Addr × Obj)) (W Wm:XW) (e:Value) (s':Shared):Prop := XF X pins W e s' ∨ XM X pins Wm e s'
noncomputable def PSX (X:Cx) (st:Stmt) (t:TXS):Prop := ∀ (pins:List (Addr × Obj)) (s:Shared) (σ:St) (H:Hp) (D:Ends) (W Wm:XW),Inv X pins σ H s -> t D W Wm σ H -> wpAny (model X.prog X.w) X.A (exec st X.env) (SP X pins D) (XS X pins W Wm) s
noncomputable def PSXs (X:Cx) (sts:List Stmt) (t:TXS):Prop := ∀ (pins:List (Addr × Obj)) (s:Shared) (σ:St) (H:Hp) (D:Ends) (W Wm:XW),Inv X pins σ H s -> t D W Wm σ H -> wpAny (model X.prog X.w) X.A (execs sts X.env) (SP X pins D) (XS X pins W Wm) s
section
variable {X:Cx} {e c:Expr} {es:List Expr} {st:Stmt} {rest as bs:List Stmt} {pos p:Pos}
theorem pex_of {t:TE} (h:PE X.nox e t):PEX X e (fun σ H Q _ => t σ H Q) := fun pins s σ H Q W I hw =>
 wpAny_mono (h pins s σ H Q (I.wish _) hw) (fun _ _ ⟨v,H',I',r,q⟩ => ⟨v,H',I'.unwish,r,q⟩) fun _ _ z => False.elim z
theorem pax_nil:PAX X [] (fun σ H Q _ => Q [] H) := fun _ pins s σ H Q W I h => PySem.Calls.spliced_nil ⟨[],H,I,.nil,h⟩
theorem pax_cons {te:TXE} {t:TXA} (ha:PEX X e te) (hr:PAX X es t) (hs:starEach (e :: es) X.env = (false,eval e X.env) :: starEach es X.env := by rfl):PAX X (e :: es) (fun σ H Q W => te σ H (fun x H1 => t σ H1 (fun xs H2 => Q (x :: xs) H2) W) W):= by
 intro pos pins s σ H Q W I h
 rw [hs]
 show wpAny _ _ (spliced ((false,eval e X.env) :: backTo pos (starEach es X.env))) _ _ s
 refine PySem.Calls.spliced_cons (thn (ha pins s σ H _ W I h) fun u s1 ⟨x,H1,I1,r1,q1⟩ => ?_)
 exact thn (hr pos pins s1 σ H1 _ W I1 q1) fun us s2 ⟨xs,H2,I2,r2,q2⟩ => ⟨x :: xs,H2,I2,.cons r1 r2,q2⟩
theorem pex_call {k:Nat} {f:Addr} {fd:FuncData} {ps:List Str} {sp:Sp} {x:Str} {t:TXA} (F:FnOk X.prog X.w X.K X.mg X.base (CXr X.prog X.w) k f fd ps sp) (hr:Room k X.A) (hg:Gl X x) (hm:X.mg x = some (.ref f)) (hk:PySem.W.keepIn X.K (.ref f) = true) (hb:Binds X.K fd ps [])
  (ha:PAX X (e :: es) t) (hdb:(x == ("__debug__":Str)) = false := by decide) (he:starEach (e :: es) X.env = (false,eval e X.env) :: starEach es X.env := by rfl) (hpl:(backTo pos (starEach es X.env)).any (·.1) = false := by rfl) :
  PEX X (.Call (.Name x p) (e :: es) [] pos) (fun σ H Q W => t σ H (fun vs H1 => sp vs H1 Q (fun c _ H' => W σ c H')) W):= by
 intro pins s σ H Q W I h
 refine wpAny_Call_Name_kw (ld_glob I hg hm ?_ hdb)
 refine PySem.W.callWith_K (h₀ := X.base) I.ok.mod.kin hk (thn (ha pos pins s σ H _ W I h) fun us s1 ⟨vs,H1,I1,r,q⟩ => ⟨I1.kIn,?_⟩) he hpl
 have r2:Vals (vs ++ []) (us ++ []) := by simpa using r
 have q2:sp (vs ++ []) H1 Q (fun c _ H' => W σ c H') := by simpa using q
 have hl:(us ++ []).length = ps.length := by rw [<- r2.length]; exact F.len _ _ _ _ q2
 refine wpAny_call (codeAny_mono (F.run X.A X.stack s1 H1 ⟨us,[]⟩ (us ++ []) (vs ++ []) Q (fun c _ H' => W σ c H') hr I1.env0 (hb s1 us I1.kIn hl) r2 q2) fun r s' hq => ?_)
 cases r with
 | error e => exact ⟨σ,H1,s1,I1,hq⟩
 | ok fl =>
  cases fl with
  | ret u => exact I1.after hq
  | next => exact False.elim hq
  | brk => exact False.elim hq
  | cont => exact False.elim hq
theorem psx_of {t:TS} (h:PS X.nox st t):PSX X st (fun D _ _ σ H => t D σ H) := fun pins s σ H D W Wm I hw =>
 wpAny_mono (h pins s σ H D (I.wish _) hw) (fun _ _ q => q.unwish) fun _ _ z => False.elim z
theorem psx_ret {te:TXE} (he:PEX X e te):PSX X (.Return (some e) pos) (fun D W _ σ H => te σ H D.rt W):= by
 intro pins s σ H D W Wm I h
 refine wpAny_Return_some (wpAny_mono (he pins s σ H _ W I h) (fun v s1 ⟨x,H1,I1,r1,q1⟩ => ⟨x,σ,H1,I1,r1,q1⟩) fun _ _ z => .inl z)
theorem psx_if {tc:TT} {t u:TXS} (hc:PT X.nox c tc) (ha:PSXs X as t) (hb:PSXs X bs u):PSX X (.If c as bs pos) (fun D W Wm σ H => tc σ H fun b H1 => if b = true then t D W Wm σ H1 else u D W Wm σ H1):= by
 intro pins s σ H D W Wm I h
 refine wpAny_If (wpAny_mono (hc pins s σ H _ (I.wish _) h) (fun d s1 ⟨H1,I1,q1⟩ => ?_) fun _ _ z => False.elim z)
 cases d with
 | true => exact ha pins s1 σ H1 D W Wm I1.unwish q1
 | false => exact hb pins s1 σ H1 D W Wm I1.unwish q1
theorem pssx_nil:PSXs X [] (fun D _ _ σ H => D.nx σ H) := fun pins s σ H D W Wm I h => wpAny_execs_nil ⟨σ,H,I,h⟩
theorem pssx_cons {t u:TXS} (h1:PSX X st t) (h2:PSXs X rest u):PSXs X (st :: rest) (fun D W Wm σ H => t { D with nx := u D W Wm } W Wm σ H):= by
 intro pins s σ H D W Wm I h
 refine wpAny_execs_cons (thn (h1 pins s σ H { D with nx := u D W Wm } W Wm I h) fun f s1 q => ?_)
 cases f with
 | next =>
  obtain ⟨σ',H',I',q⟩ := q
  exact h2 pins s1 σ' H' D W Wm I' q
 | ret v => exact q
 | brk => exact q
 | cont => exact q
theorem own_obj {K:PySem.W.Frag} {h:Heap} {C:Addr} {bmB:List Value} {newId:String} (Y:K.In h) (q:PySem.W.excIn K C bmB newId = true) :
  ∃ bm N nm qn bs hdct sn sub ab col dd k0 k1 k2 k3 k5 mN,h.get? C = some (excClassObj nm qn C N bs bm hdct sn sub ab col dd k0 k1 k2 k3 k5 newId) ∧ h.Ns N mN ∧ mN "__init__" = none ∧ OwnTail h bmB bm:= by
 unfold PySem.W.excIn at q
 split at q
 ·rename_i dd cd sl ho
  split at q
  ·rename_i C' bm k0 k1 k2 k3 n k5 hm hs
   simp only [Bool.and_eq_true,beq_iff_eq,Bool.not_eq_true'] at q
   obtain ⟨⟨⟨⟨⟨rfl,rfl⟩,hdel⟩,ht⟩,hok⟩,hni⟩ := q
   obtain ⟨nm,bs,mro,ns,qn,hd,sn,sub,ab,col,del⟩ := cd
   dsimp only at hm hdel hok hni
   subst hm hdel
   have hsl:sl = #[k0,k1,k2,k3,some (.builtin n),k5]:= by
    obtain ⟨l⟩ := sl
    simp only at hs
    rw [hs]
   subst hsl
   exact ⟨bm,ns,nm,qn,bs,hd,sn,sub,ab,col,dd,k0,k1,k2,k3,k5,_,Y _ _ ho,.of_isNs (PySem.W.isNs_of_in Y hok),PySem.W.nsMap_none_of_in Y hok hni,PySem.W.tail_of_in Y ht⟩
  ·cases q
 ·cases q
theorem psx_raise {x:Str} {C:Addr} {B newId initId:String} {bm:List Value} {np cpos:Pos} {ta:TA} (FB:ExcBaseFacts B newId initId bm) (hc:X.calm = true) (hg:Gl X x) (hm:X.mg x = some (.ref C)) (hC:PySem.W.excIn X.K C bm newId = true) (ha:PA X.nox (e :: es) ta)
  (hdb:(x == ("__debug__":Str)) = false := by decide) (he:starEach (e :: es) X.env = (false,eval e X.env) :: starEach es X.env := by rfl) (hpl:(backTo cpos (starEach es X.env)).any (·.1) = false := by rfl) :
  PSX X (.Raise (some (.Call (.Name x np) (e :: es) [] cpos)) none pos) (fun _ _ Wm σ H => ta σ H fun vs H1 => vs.length ≤ sizeLine ∧ Wm σ (.ref C) H1):= by
 intro pins s σ H D W Wm I h
 obtain ⟨tl,N,nm,q,bs,hdct,sn,sub,ab,col,dd,k0,k1,k2,k3,k5,mN,hCo,hN,hni,T⟩ := own_obj I.ok.mod.kin hC
 refine wpAny_Raise_call_subT (C := C) (nm := nm) (q := q) (N := N) (bs := bs) (bm := tl) (hdct := hdct) (sn := sn) (sub := sub) (ab := ab) (col := col) (dd := dd) (k0 := k0) (k1 := k1) (k2 := k2) (k3 := k3) (k5 := k5)
  FB (mN := mN) (T.hasType FB.hasBase) (I.ok.hd hc) (by rw [he]; show (false || (backTo cpos (starEach es X.env)).any (·.1)) = false; rw [hpl]; rfl) hni (ld_glob I hg hm ⟨rfl,?_⟩ hdb)
 have hA := ha cpos pins s σ H _ (I.wish _) h
 have he':starEach (e :: es) X.nox.env = (false,eval e X.env) :: starEach es X.env := he
 rw [he'] at hA
 rw [he]
 refine PySem.Calls.evalArgs_plain (wpAny_mono hA (fun us s₂ ⟨vs,H1,I1,r,hz,hw⟩ => ?_) fun _ _ z => False.elim z)
 have I1 := I1.unwish
 exact ⟨rfl,by show us.length ≤ _; rw [<- r.length]; exact hz,I1.bk _ _ hCo,hN.keeps I1.bk,T.keeps I1.bk,fun h' a hme => .inr ⟨σ,H1,s₂,a,_,_,h',I1,rfl,hme,rfl,hw⟩⟩
end
end Jt
namespace Jt
open PySem L2
section
variable {X:Cx} {a b e:Expr} {fa fb:M D} {fs:M (List D)} {pos p:Pos}
end
section
variable {P:Program} {w:World} {K:PySem.W.Frag} {mg:Str -> Option Value} {base:Heap} {k:Nat} {f:Addr} {fd:FuncData} {ps:List Str} {CX:CXT}
end
end Jt
namespace Jt
open PySem PySem.W PySem.Calls PyProof.Rows L2
end Jt
namespace Jt
open PySem L2
open PyProof.Rows (AllBare)
noncomputable def bX {α β:Type} (x:M (α ⊕ Addr)) (f:α -> M (β ⊕ Addr)):M (β ⊕ Addr) := do
 let r <- x
 match r with
 | .inl a => f a
 | .inr C => pure (.inr C)
noncomputable def okX {α:Type} (x:M α):M (α ⊕ Addr) := do
 let a <- x
 pure (.inl a)
theorem bX_some {α β:Type} {x:M (α ⊕ Addr)} {f:α -> M (β ⊕ Addr)} {δ δ':DS} {r:β ⊕ Addr} (h:bX x f δ = some (r,δ')):(∃ a δ1,x δ = some (.inl a,δ1) ∧ f a δ1 = some (r,δ')) ∨ ∃ C,x δ = some (.inr C,δ') ∧ r = .inr C:= by
 obtain ⟨z,δ1,e1,e⟩ := bind_some h
 cases z with
 | inl a => exact .inl ⟨a,δ1,e1,e⟩
 | inr C => obtain ⟨rfl,rfl⟩ := pure_some e; exact .inr ⟨C,e1,rfl⟩
inductive tMXE (f:M (D ⊕ Addr)) (σ:St) (H:Hp) (Q:VK) (W:XW):Prop
 | mk (c:Ct) (δ:DS) (S:List D) (T:List V) (r:D ⊕ Addr) (δ':DS) (s:Sl c δ S σ T H) (e:f δ = some (r,δ')) (q:match (generalizing := false) r with
 | .inl d => ∀ v H',Sl c δ' (d :: S) σ (v :: T) H' -> Q v H'
 | .inr C => ∀ H',Sl c δ' S σ T H' -> W σ (.ref C) H'):tMXE f σ H Q W
inductive tMXA (f:M (List D ⊕ Addr)) (σ:St) (H:Hp) (Q:List V -> Hp -> Prop) (W:XW):Prop
 | mk (c:Ct) (δ:DS) (S:List D) (T:List V) (r:List D ⊕ Addr) (δ':DS) (s:Sl c δ S σ T H) (e:f δ = some (r,δ')) (q:match (generalizing := false) r with
 | .inl ds => ∀ vs H',vs.length = ds.length -> Sl c δ' (ds ++ S) σ (vs ++ T) H' -> Q vs H'
 | .inr C => ∀ H',Sl c δ' S σ T H' -> W σ (.ref C) H'):tMXA f σ H Q W
inductive tMXS (k:Bool) (f:M (Fl ⊕ Addr)) (En:Ends) (W:XW) (Wm:XW) (σ:St) (H:Hp):Prop
 | mk (c:Ct) (δ:DS) (S:List D) (T:List V) (r:Fl ⊕ Addr) (δ':DS) (s:Sl c δ S σ T H) (e:f δ = some (r,δ')) (q:match (generalizing := false) r with
 | .inl fl => Fin c δ' S T fl En
 | .inr C => ∀ σ' H',Sl c δ' S σ' T H' -> W σ' (.ref C) H' ∧ (k = true -> Wm σ' (.ref C) H')):tMXS k f En W Wm σ H
noncomputable abbrev DEX (X:Cx) (e:Expr) (f:M (D ⊕ Addr)):Prop := PEX X e (tMXE f)
noncomputable abbrev DAX (X:Cx) (es:List Expr) (f:M (List D ⊕ Addr)):Prop := PAX X es (tMXA f)
noncomputable abbrev DSX (X:Cx) (k:Bool) (st:Stmt) (f:M (Fl ⊕ Addr)):Prop := PSX X st (tMXS k f)
noncomputable abbrev DSXs (X:Cx) (k:Bool) (st:List Stmt) (f:M (Fl ⊕ Addr)):Prop := PSXs X st (tMXS k f)
theorem pexOf {X:Cx} {e:Expr} {t t':TXE} (h:PEX X e t) (w:∀ σ H Q W,t' σ H Q W -> t σ H Q W):PEX X e t' := fun pins s σ H Q W I q => h pins s σ H Q W I (w σ H Q W q)
theorem paxOf {X:Cx} {e:List Expr} {t t':TXA} (h:PAX X e t) (w:∀ σ H Q W,t' σ H Q W -> t σ H Q W):PAX X e t' := fun ps pins s σ H Q W I q => h ps pins s σ H Q W I (w σ H Q W q)
theorem psxOf {X:Cx} {e:Stmt} {t t':TXS} (h:PSX X e t) (w:∀ D W Wm σ H,t' D W Wm σ H -> t D W Wm σ H):PSX X e t' := fun pins s σ H D W Wm I q => h pins s σ H D W Wm I (w D W Wm σ H q)
theorem pssxOf {X:Cx} {e:List Stmt} {t t':TXS} (h:PSXs X e t) (w:∀ D W Wm σ H,t' D W Wm σ H -> t D W Wm σ H):PSXs X e t' := fun pins s σ H D W Wm I q => h pins s σ H D W Wm I (w D W Wm σ H q)
section
variable {X:Cx} {a e:Expr} {es:List Expr} {fa:M D} {fx:M (D ⊕ Addr)} {fxs:M (List D ⊕ Addr)} {fs:M (List D)} {pos p:Pos} {st:Stmt} {rest as bs:List Stmt} {f:M Fl} {g h:M (Fl ⊕ Addr)} {tt:M Bool} {k:Bool}
theorem dex_of (he:DE X.nox e fa):DEX X e (okX fa) := pexOf (pex_of he) fun σ H Q W ⟨c,δ,S,T,r,δ',s,e,q⟩ => by
 obtain ⟨d,δ1,e1,e⟩ := bind_some e
 obtain ⟨rfl,rfl⟩ := pure_some e
 exact ⟨c,δ,S,T,d,δ1,s,e1,q⟩
theorem dax_nil:DAX X [] (pure (.inl [])) := paxOf pax_nil fun σ H Q W ⟨c,δ,S,T,r,δ',s,e,q⟩ => by
 obtain ⟨rfl,rfl⟩ := pure_some e
 exact q [] H rfl s
noncomputable def consX (fx:M (D ⊕ Addr)) (fxs:M (List D ⊕ Addr)):M (List D ⊕ Addr) := bX fx fun x => bX fxs fun xs => pure (.inl (x :: xs))
theorem dax_cons (ha:DEX X a fx) (hr:DAX X es fxs) (hs:starEach (a :: es) X.env = (false,eval a X.env) :: starEach es X.env := by rfl):DAX X (a :: es) (consX fx fxs) := paxOf (pax_cons ha hr hs) fun σ H Q W ⟨c,δ,S,T,r,δ',s,e,q⟩ => by
 rcases bX_some e with ⟨x,δ1,e1,e⟩ | ⟨C,e1,rfl⟩
 ·refine ⟨c,δ,S,T,.inl x,δ1,s,e1,fun v H1 s1 => ?_⟩
  rcases bX_some e with ⟨xs,δ2,e2,e⟩ | ⟨C,e2,rfl⟩
  ·obtain ⟨rfl,rfl⟩ := pure_some e
   exact ⟨c,δ1,x :: S,v :: T,.inl xs,δ2,s1,e2,fun vs H2 l s2 => q (v :: vs) H2 (by simp [l]) (by
    have st := s2.st
    have h1 := st.right l
    exact s2.stk (.cons h1.head ((st.left l).append h1.tail)))⟩
  ·exact ⟨c,δ1,x :: S,v :: T,.inr C,δ',s1,e2,fun H2 s2 => q H2 s2.pop⟩
 ·exact ⟨c,δ,S,T,.inr C,δ',s,e1,q⟩
noncomputable def spX (n:Nat) (mf:List D -> Option (D ⊕ Addr)):Sp := fun vs H Q E => vs.length = n ∧ ∃ (Z:Hp) (ds:List D) (r:D ⊕ Addr),(∀ a o,Z a = some o -> H a = some o) ∧ Rs (hz Z H) ds vs ∧ mf ds = some r ∧ match r with
 | .inl d => ∀ v H',Same H H' -> R (hz Z H') d v -> Q v H'
 | .inr C => ∀ H',Same H H' -> E (.ref C) none H'
theorem dex_call {kk:Nat} {f:Addr} {fd:FuncData} {ps:List Str} {x:Str} {mf:List D -> Option (D ⊕ Addr)} {n:Nat} (F:FnOk X.prog X.w X.K X.mg X.base (CXr X.prog X.w) kk f fd ps (spX n mf)) (hr:Room kk X.A) (hm:X.mg x = some (.ref f)) (hk:PySem.W.keepIn X.K (.ref f) = true) (hb:Binds X.K fd ps []) (ha:DAX X (a :: es) fxs)
  (hg:Gl X x := by rfl) (hdb:(x == ("__debug__":Str)) = false := by decide) (he:starEach (a :: es) X.env = (false,eval a X.env) :: starEach es X.env := by rfl) (hpl:(backTo pos (starEach es X.env)).any (·.1) = false := by rfl) :
  DEX X (.Call (.Name x p) (a :: es) [] pos) (bX fxs fun ds => lift (if ds.length = n then mf ds else none)) := pexOf (pex_call F hr hg hm hk hb ha hdb he hpl) fun σ H Q W ⟨c,δ,S,T,r,δ',s,e,q⟩ => by
 rcases bX_some e with ⟨ds,δ1,e1,e⟩ | ⟨C,e1,rfl⟩
 ·obtain ⟨e2,rfl⟩ := lift_some e
  refine ⟨c,δ,S,T,.inl ds,δ1,s,e1,fun vs H1 l s1 => ?_⟩
  split at e2
  ·rename_i hn
   refine ⟨l.trans hn,zOf c δ1 σ H1,ds,r,zOf_le,(s1.st.left l).mono (hid_mono (fun a o _ z => (zOf_iff s1 a).mp z) fun _ _ _ h => h),e2,?_⟩
   cases r with
   | inl d =>
    intro v H' g r
    have s2 := s1.grow g
    exact q v H' (s2.stk (.cons (r.mono (hid_mono (fun a o _ z => (zOf_iff s1 a).mpr z) fun _ _ _ h => h)) (s2.st.right l)))
   | inr C => exact fun H' g => q H' ((s1.grow g).drop l)
  ·cases e2
 ·exact ⟨c,δ,S,T,.inr C,δ',s,e1,q⟩
theorem dsx_of (hs:DSt X.nox st f):DSX X k st (okX f) := psxOf (psx_of hs) fun D W Wm σ H ⟨c,δ,S,T,r,δ',s,e,q⟩ => by
 obtain ⟨fl,δ1,e1,e⟩ := bind_some e
 obtain ⟨rfl,rfl⟩ := pure_some e
 exact ⟨c,δ,S,T,fl,δ1,s,e1,q⟩
theorem dsx_ret (he:DEX X e fx):DSX X k (.Return (some e) pos) (bX fx fun d => pure (.inl (.rt d))) := psxOf (psx_ret he) fun D W Wm σ H ⟨c,δ,S,T,r,δ',s,e,q⟩ => by
 rcases bX_some e with ⟨d,δ1,e1,e⟩ | ⟨C,e1,rfl⟩
 ·obtain ⟨rfl,rfl⟩ := pure_some e
  exact ⟨c,δ,S,T,.inl d,δ1,s,e1,fun v H' s' => q v σ H' s'⟩
 ·exact ⟨c,δ,S,T,.inr C,δ',s,e1,fun H' s' => (q σ H' s').1⟩
theorem dsx_if {t:Expr} (ht:DT X.nox t tt) (ha:DSXs X k as g) (hb:DSXs X k bs h):DSX X k (.If t as bs pos) (mIf tt g h) := psxOf (psx_if ht ha hb) fun D W Wm σ H ⟨c,δ,S,T,r,δ',s,e,q⟩ => by
 obtain ⟨x,δ1,e1,e⟩ := bind_some e
 refine ⟨c,δ,S,T,x,δ1,s,e1,fun H' s' => ?_⟩
 cases x with
 | true => rw [if_pos rfl] at e ⊢; exact ⟨c,δ1,S,T,r,δ',s',e,q⟩
 | false => rw [if_neg Bool.false_ne_true] at e ⊢; exact ⟨c,δ1,S,T,r,δ',s',e,q⟩
noncomputable def seqX (f g:M (Fl ⊕ Addr)):M (Fl ⊕ Addr) := bX f fun fl => match fl with
 | .nx => g
 | fl => pure (.inl fl)
theorem dssx_nil:DSXs X k [] (pure (.inl .nx)) := pssxOf pssx_nil fun D W Wm σ H ⟨c,δ,S,T,r,δ',s,e,q⟩ => by
 obtain ⟨rfl,rfl⟩ := pure_some e
 exact q σ H s
theorem dssx_cons (h1:DSX X k st g) (h2:DSXs X k rest h):DSXs X k (st :: rest) (seqX g h) := pssxOf (pssx_cons h1 h2) fun D W Wm σ H ⟨c,δ,S,T,r,δ',s,e,q⟩ => by
 rcases bX_some e with ⟨fl1,δ1,e1,e⟩ | ⟨C,e1,rfl⟩
 ·refine ⟨c,δ,S,T,.inl fl1,δ1,s,e1,?_⟩
  cases fl1 with
  | nx => exact fun σ' H' s' => ⟨c,δ1,S,T,r,δ',s',e,q⟩
  | bk => obtain ⟨rfl,rfl⟩ := pure_some e; exact q
  | ct => obtain ⟨rfl,rfl⟩ := pure_some e; exact q
  | rt d => obtain ⟨rfl,rfl⟩ := pure_some e; exact q
  | rf xs => obtain ⟨rfl,rfl⟩ := pure_some e; exact q
 ·exact ⟨c,δ,S,T,.inr C,δ',s,e1,q⟩
theorem dssx_one (h1:DSX X k st g):DSXs X k [st] (seqX g (pure (.inl .nx))) := dssx_cons h1 dssx_nil
noncomputable def raiseX (C:Addr) (fs:M (List D)):M (Fl ⊕ Addr) := do
 let ds <- fs
 let _ <- lift (few ds.length)
 pure (.inr C)
theorem dsx_raise {x:Str} {C:Addr} {B newId initId:String} {bm:List Value} {np cpos:Pos} (FB:ExcBaseFacts B newId initId bm) (hm:X.mg x = some (.ref C)) (hC:PySem.W.excIn X.K C bm newId = true) (ha:DA X.nox (a :: es) fs) (hc:X.calm = true := by rfl) (hg:Gl X x := by rfl)
  (hdb:(x == ("__debug__":Str)) = false := by decide) (he:starEach (a :: es) X.env = (false,eval a X.env) :: starEach es X.env := by rfl) (hpl:(backTo cpos (starEach es X.env)).any (·.1) = false := by rfl) :
  DSX X true (.Raise (some (.Call (.Name x np) (a :: es) [] cpos)) none pos) (raiseX C fs) := psxOf (psx_raise FB hc hg hm hC ha hdb he hpl) fun D W Wm σ H ⟨c,δ,S,T,r,δ',s,e,q⟩ => by
 obtain ⟨ds,δ1,e1,e⟩ := bind_some e
 obtain ⟨u,δ2,e2,e⟩ := bind_some e
 obtain ⟨rfl,rfl⟩ := pure_some e
 obtain ⟨e3,rfl⟩ := lift_some e2
 have hn:ds.length ≤ 100000:= by
  unfold few at e3
  split at e3
  ·assumption
  ·cases e3
 refine ⟨c,δ,S,T,ds,δ1,s,e1,fun vs H' l s' => ⟨?_,(q σ H' (s'.drop l)).2 rfl⟩⟩
 rw [l]
 exact Nat.le_trans hn (by decide)
end
theorem pss_ofX {X:Cx} {sts:List Stmt} {t:TXS} {E:XK} (h:PSXs X sts t) (hx:X.ex = []) (hst:X.stack = X.env :: X.outer) (hf:X.env.frame = some X.env.locals)
  (hxe:∀ e s',wpAny (model X.prog X.w) X.A (leaving X.env e) (fun _ s'' => CXr X.prog X.w X.outer X.H₀ X.s₀ E e s'') (fun e' s'' => CXr X.prog X.w X.outer X.H₀ X.s₀ E e' s'') s' -> X.xe e s'):PSs X sts (fun D σ H => t D (fun _ c H' => E c none H') (fun _ c H' => E c none H') σ H) := fun pins s σ H D I q =>
 wpAny_mono (h pins s σ H D _ _ I q) (fun _ _ z => z) fun e s' z => hxe e s' (by
  rcases z with ⟨σ1,H1,s1,I1,z⟩ | ⟨σ1,H1,s1,a,cls,args,h',I1,rfl,hm,rfl,z⟩
  ·exact leave_on I1 hx hst hf z (fun _ _ y => y) fun s'' y => y
  ·exact leave_made I1 hx hst hf hm z fun s'' y => y)
noncomputable def runX (N:List Str) (body:M (Fl ⊕ Addr)) (ds:List D):Option (D ⊕ Addr) := match body (entry N ds) with
 | some (.inl (.rt d),_) => some (.inl d)
 | some (.inl .nx,_) => some (.inl .non)
 | some (.inr C,_) => some (.inr C)
 | _ => none
section
variable {P:Program} {w:World} {K:PySem.W.Frag} {mg:Str -> Option Value} {base:Heap} {k:Nat} {f:Addr} {fd:FuncData} {N ps:List Str} {x qual:Str} {st:Stmt} {body:M (Fl ⊕ Addr)}
theorem fnX (F:Fun K x qual st f fd) (S:FnScope N ps (defScope st)) (hb:∀ (cdv:Value) (A:Around) (outer:List Env) (s:Shared) (H:Hp) (E:XK),Room k (A.deeper (PyProof.Rows.envOfC qual (defScope st) s.heap.objs.size f cdv)) -> DSXs (cxOf (CXr P w) P w K mg base N qual (defScope st) f cdv A outer s H E) true (defBody st) body) :
  FnOk P w K mg base (CXr P w) (k + 1) f fd ps (spX ps.length (runX N body)):= by
 obtain ⟨oc,od,kV,doc,pm,an,cdv,ct,osl,rfl,lk,hcd⟩ := F.ex
 refine fn_of lk hcd S (fun vs H Q E h => h.1) fun A outer s H vs Q E hr h => ?_
 refine ⟨_,pss_ofX (E := E) (hb cdv A outer s H E hr) rfl rfl rfl (fun e s' z => z),?_⟩
 obtain ⟨hl,Z,ds,r0,hZ,r,e,q⟩ := h
 have hpl:ps.length ≤ N.length := by have := congrArg List.length S.pre; rw [List.length_take] at this; omega
 have s0 := sl_entry (N := N) hZ r (by rw [hl]; exact hpl)
 unfold runX at e
 split at e
 ·rename_i d δ' eb
  cases e
  exact ⟨_,_,_,_,_,_,s0,eb,fun v σ' H' s' => q v H' (fun b o hb => s'.keep b o (by simp) hb) (s'.st.head.mono (hid_mono (fun a o _ z => .inl z) fun _ _ _ h => h))⟩
 ·rename_i δ' eb
  cases e
  exact ⟨_,_,_,_,_,_,s0,eb,fun σ' H' s' => q .non H' (fun b o hb => s'.keep b o (by simp) hb) .mkN⟩
 ·rename_i C δ' eb
  cases e
  exact ⟨_,_,_,_,_,_,s0,eb,fun σ' H' s' => ⟨q H' fun b o hb => s'.keep b o (by simp) hb,fun _ => q H' fun b o hb => s'.keep b o (by simp) hb⟩⟩
 ·cases e
end
end Jt
namespace Jt
open PySem L2
open PyProof.Rows (AllBare)
noncomputable def hx (X:Cx) (a:Addr) (o:Obj):Cx := { X with A := X.A.mark (some (.ref a)),calm := false,pn := (a,o) :: X.pn,xe := fun _ _ => False }
noncomputable def ExO (cls:Value) (o:Obj):Prop := ∃ t T,o = { exObj cls with data := .fields ((exFs t).setIfInBounds 1 (.ref T)) }
noncomputable def unE (D:Ends) (i:Nat):Ends := { nx := fun σ H => D.nx (σ.set i none) H,rt := D.rt,bk := fun σ H => D.bk (σ.set i none) H,ct := fun σ H => D.ct (σ.set i none) H }
section
variable {X:Cx} {pins:List (Addr × Obj)} {σ:St} {H:Hp} {s:Shared}
theorem hx_in {a:Addr} {o:Obj} (I:Inv X pins σ H s) (e:s.heap.get? a = some o) (n:H a = none) (nl:a ≠ X.env.locals) (nf:a ∉ X.fs) (d:∀ v,o.data ≠ .cell v):Inv (hx X a o) pins σ H s:= by
 have ok := I.ok
 refine ⟨⟨ok.mod,ok.kind,ok.glob,ok.blt,ok.above,ok.inj,ok.has,ok.cab,(fun z => Bool.noConfusion z),ok.frames,ok.stk,ok.exf,ok.bs,ok.bsz,ok.noex,ok.exfs,ok.funs,ok.frf⟩,I.os,I.bare,I.base,I.loc,I.cell,I.free,I.freeC,fun p hp => ?_,I.hok,I.len⟩
 rcases List.mem_cons.mp (show p ∈ (a,o) :: (X.pn ++ pins) from hp) with rfl | hp
 ·exact ⟨e,n,nl,nf,d⟩
 ·exact I.pin p hp
theorem hx_out {a:Addr} {o:Obj} (ok:X.Ok) (I:Inv (hx X a o) pins σ H s):Inv X pins σ H s :=
 ⟨ok,I.os,I.bare,I.base,I.loc,I.cell,I.free,I.freeC,fun p hp => I.pin p (List.mem_cons_of_mem _ hp),I.hok,I.len⟩
theorem unset_ok {A:Around} {E:Value -> Shared -> Prop} {Q:Unit -> Shared -> Prop} {i:Nat} {n:Str} {pos:Pos} (I:Inv X pins σ H s) (hN:X.N.Nodup) (hi:X.N[i]? = some n) (hk:X.env.kindOf n = some .local) (h:∀ s',Inv X pins (σ.set i none) H s' -> Q () s') :
  wpAny (model X.prog X.w) A (do bindName X.env n .none; unbindBehindTheSuite X.env n pos) Q E s:= by
 obtain ⟨m,hn,hl⟩ := id I.loc
 have hcls:(X.env.scope.kind == .class || (X.env.scope.kind == .module && X.env.locals != X.env.globals)) = false := by rw [I.ok.kind]; rfl
 have hiσ:i < σ.length := by rw [I.len]; exact (List.getElem?_eq_some_iff.mp hi).1
 have cne := I.cne
 obtain ⟨oL,_,_,hoL,_⟩ := id hn
 have tracked:∀ {h':Heap},Heap.SameBut X.env.locals s.heap h' -> HOk X.prog X.w H h' := fun {h'} hs b ob e => by
  have hfree := I.free
  refine (I.hok b ob e).stay (fun c w' hc q => (hs.2 c ?_).trans q) (fun _ q => q) fun _ _ q => q
  rintro rfl
  rcases hc with rfl | hc
  ·rw [hfree] at e; cases e
  ·rw [hfree] at hc; cases hc
 refine wpAny_nameGoes_keeps hk hn hcls fun h' v hn' hs => h _ ⟨I.ok,I.os,I.bare,⟨fun b o e n hb hx => ?_,fun b o e n hb hx => ?_,I.base.free,fun b o e hx => ?_,I.base.tups,I.base.frzs,I.base.tbls⟩,⟨_,hn',fun j y v' e1 e2 e3 => ?_⟩,fun y c e => ?_,I.free,I.freeC,fun p hp => ?_,tracked hs,by simpa using I.len⟩
 ·exact (hs.2 b (Nat.ne_of_lt (Nat.lt_of_lt_of_le (Heap.lt_size e) I.ok.above))).trans (I.base.keep b o e n hb hx)
 ·obtain ⟨sl,e1⟩ := I.base.slot b o e n hb hx
  exact ⟨sl,(hs.2 b (Nat.ne_of_lt (Nat.lt_of_lt_of_le (Heap.lt_size e) I.ok.above))).trans e1⟩
 ·obtain ⟨o',e1⟩ := I.base.there b o e hx
  exact ⟨o',(hs.2 b (Nat.ne_of_lt (Nat.lt_of_lt_of_le (Heap.lt_size e) I.ok.above))).trans e1⟩
 ·by_cases hj:j = i
  ·subst hj
   rw [List.getElem?_set_self hiσ] at e2
   cases e2
  ·rw [List.getElem?_set_ne (Ne.symm hj)] at e2
   obtain ⟨u',r',q⟩ := hl j y v' e1 e2 e3
   refine ⟨u',r',?_⟩
   rcases q with ⟨k,e⟩ | ⟨k,c,e,z⟩
   ·refine .inl ⟨k,?_⟩
    have:y ≠ n := fun e => hj (nodup_ix hN e1 (e ▸ hi))
    simp [this,e]
   ·exact .inr ⟨k,c,e,z.sameBut hs (cne y c e)⟩
 ·obtain ⟨w',z⟩ := I.cell y c e
  exact ⟨w',z.sameBut hs (cne y c e)⟩
 ·obtain ⟨e,n,ne,nf,d⟩ := I.pin p hp
  exact ⟨(hs.2 p.1 ne).trans e,n,ne,nf,d⟩
end
section
variable {X:Cx} {body sts:List Stmt} {b0:Stmt} {x n:Str} {C0:Addr} {i:Nat} {tb:TXS} {th:Addr -> Value -> TS} {p hpos pos:Pos} {Adm:Value -> Prop}
theorem ps_try (hN:X.N.Nodup) (hst:X.stack = X.env :: X.outer) (hf:X.env.frame = some X.env.locals) (hb:PSXs X body tb) (hg:Gl X x) (hm:X.mg x = some (.ref C0)) (hi:X.N[i]? = some n) (hl:X.env.kindOf n = some .local)
  (hadm:∀ cls,Adm cls -> PySem.W.exmOne X.K cls (.ref C0) = some true) (hh:∀ a o cls,ExO cls o -> Adm cls -> PSs (hx X a o) (b0 :: sts) (th a cls)) (hdb:(x == ("__debug__":Str)) = false := by decide) :
  PS X (.Try body [.ExceptHandler (some (.Name x p)) (some n) (b0 :: sts) hpos] [] [] pos)
   (fun D σ H => tb D (fun σ' cls H' => Adm cls ∧ ∀ a,H' a = none -> th a cls (unE D i) (σ'.set i (some (.ref a))) H') (fun _ _ _ => False) σ H):= by
 intro pins s σ H D I h
 refine wpAny_Try_except (wpAny_mono (hb pins s σ H D _ _ I h) (fun f s1 hq => ?_) fun e s1 he => ?_)
 ·cases f with
  | next => exact wpAny_execs_nil hq
  | brk => exact hq
  | cont => exact hq
  | ret u => exact hq
 rcases he with ⟨σ1,H1,s0,I1,a,cls,t,B,H',rfl,os,bare,F,fl,hcls,hw⟩ | ⟨σ1,H1,s0,a,cls,args,h',I1,rfl,_,_,z⟩
 rotate_left
 ·exact False.elim z
 rw [hst] at fl
 have fr1:s1.heap.FunFrames B X.stack := by rw [hst]; exact fl.fr
 refine fx_note (by rw [I.ok.frames,hst]) hf fl fun h2 fl2 up2 => ?_
 have F2 := F.move fl2.st up2 fr1
 have fr2:h2.FunFrames B X.stack := by rw [hst]; exact fl2.fr
 refine fx_land fl2 fun h3 fl3 up3 => ?_
 have F3 := F2.move fl3.st up3 fr2
 have fr3:h3.FunFrames B X.stack := by rw [hst]; exact fl3.fr
 have hna:H' a = none:= by
  cases q:H' a with
  | none => rfl
  | some o => obtain ⟨o',e'⟩ := F.hB a o q; rw [fl.ne] at e'; cases e'
 -- the invariant,wherever e flies
 have inv:∀ (h5:Heap),Fx B (X.env :: X.outer) a (exObj cls) (exFs t) .none h5 -> Fly X.prog X.w X.stack H1 H' s0.heap h5 B -> ∃ o,ExO cls o ∧ h5.get? a = some o ∧ Inv (hx X a o) pins σ1 H' { s1 with heap := h5 } := fun h5 f5 F5 => by
  have I5:Inv X pins σ1 H' { s1 with heap := h5 } := I1.call' (ch := []) os F5.un F5.hok bare fun b z => nomatch z
  obtain ⟨T,oT,ts,hea,_⟩ := f5.tr
  refine ⟨_,⟨t,T,rfl⟩,hea,hx_in I5 hea hna ?_ ?_ fun v z => nomatch z⟩
  ·rintro rfl
   obtain ⟨m,⟨o,es,ep,ho,hd,_⟩,_⟩ := I5.loc
   have := ho.symm.trans hea
   cases this; cases hd
  ·intro hm
   have:a ∈ frs (X.env :: X.outer):= by
    unfold frs
    rw [List.filterMap_cons,hf]
    exact List.mem_cons_of_mem _ hm
   obtain ⟨_,o,ho,hnf⟩ := f5.fr.mem this
   rw [hea] at ho; cases ho; exact hnf _ rfl
 obtain ⟨o3,_,e3,I3⟩ := inv h3 fl3 F3
 have ho3:o3.cls = cls:= by
  obtain ⟨T,oT,ts,hea,_⟩ := fl3.tr
  rw [e3] at hea; cases hea; rfl
 refine wpAny_handleBy_cons (codeAny_handlers_test (ld_glob (X := hx X a o3) I3 hg hm ?_ hdb)) (by intro q; cases q)
 have LT:PySem.W.Looks (model X.prog X.w) h3 (typeOf (.ref a)) cls := ho3 ▸ (PySem.W.Looks.ld e3).andThen .now
 refine (PySem.W.exm_one (M := model X.prog X.w) I3.kIn LT (hadm cls hcls)).at ?_
 refine codeAny_handlers_suite_as ?_
 refine fx_land fl3 fun h6 fl6 up6 => ?_
 have F6 := F3.move fl6.st up6 fr3
 obtain ⟨o6,x6,e6,I6⟩ := inv h6 fl6 F6
 refine store_ok (X := hx X a o6) (i := i) (v := .ref a) I6 hN hi (.inl hl) rfl (fun s7 I7 => ?_) (.inr hl)
 refine wpAny_mono (hh a o6 cls x6 hcls pins s7 _ H' (unE D i) I7 (hw a hna)) (fun f s8 hq => ?_) fun _ _ z => False.elim z
 cases f with
 | next =>
  obtain ⟨σ8,H8,I8,q⟩ := hq
  exact unset_ok (hx_out I.ok I8) hN hi hl fun s9 I9 => ⟨_,H8,I9,q⟩
 | brk =>
  obtain ⟨σ8,H8,I8,q⟩ := hq
  exact unset_ok (hx_out I.ok I8) hN hi hl fun s9 I9 => ⟨_,H8,I9,q⟩
 | cont =>
  obtain ⟨σ8,H8,I8,q⟩ := hq
  exact unset_ok (hx_out I.ok I8) hN hi hl fun s9 I9 => ⟨_,H8,I9,q⟩
 | ret u =>
  obtain ⟨v,σ8,H8,I8,r,q⟩ := hq
  exact unset_ok (hx_out I.ok I8) hN hi hl fun s9 I9 => ⟨v,_,H8,I9,r,q⟩
end
end Jt
namespace Jt
open PySem L2
open PySem.W (nd_bind Looks InstAt findIn specialIn takesIn mroIn clsIn findObj looks_findIn looks_find looks_mroIn KitX kitOne kitCls class_get)
section
variable {prog:Program} {w:World} {A:Around} {E:Value -> Shared -> Prop} {s:Shared} {K:PySem.W.Frag} {x D:Addr} {ox:Obj}
theorem excFind {name:Str} {a g:Value} (hc:(clsIn K D).isSome = true) (ha:findIn K (.ref D) name = some (some a)) (hg:specialIn K a "__get__" = some (some g)) (ht:takesIn K a = some true):findObj K D none name = some (.bind g a):= by
 obtain ⟨cd,hc⟩ := Option.isSome_iff_exists.mp hc
 unfold findObj
 rw [hc,Option.bind_some,ha,Option.bind_some]
 simp [hg,ht]
structure ExcK (K:PySem.W.Frag) (D:Addr):Prop where
 c:(clsIn K D).isSome = true
 ga:findIn K (.ref D) "__getattribute__" = some (some (.builtin "BaseException.__getattribute__"))
 gt:findIn K (.ref D) "__getattr__" = some none
 cl:findIn K (.ref D) "__class__" = some (some (.builtin "object.__class__"))
 ge:specialIn K (.builtin "object.__class__") "__get__" = some (some (.builtin "getset_descriptor.__get__"))
 tk:takesIn K (.builtin "object.__class__") = some true
 mo:mroIn K D (.type "object") = some true
 mb:mroIn K D (.type "BaseException") = some true
theorem exc_ga {tk:Tok} {Q:Value -> Shared -> Prop} (F:ExcK K D) (X:K.In s.heap) (I:InstAt s.heap x ox D none) (h:Q (.ref D) s):wpAny (model prog w) A (call (.builtin "BaseException.__getattribute__") [.ref x,.str "__class__" tk]) Q E s:= by
 obtain ⟨hh,g,d,t,os⟩ := s
 have L0 := I.type (M := model prog w)
 have L1 := looks_mroIn (M := model prog w) X F.mb
 have L2 := looks_find (M := model prog w) X I (excFind F.c F.cl F.ge F.tk)
 have hk:builtinKind "BaseException.__getattribute__" = some .slot := by decide +kernel
 have hsplit:splitId "BaseException.__getattribute__" = some ("BaseException","__getattribute__") := by decide +kernel
 have ha := PySem.F.args_bexc_ga (.ref x) (.str "__class__" tk)
 refine wpAny_call (codeAny_call_builtin PySem.F.attr_ValueError.ga.plain PySem.F.entry_bexc_ga ?_)
 simp only [checkBuiltinCall,hk,hsplit]
 refine wpAny_bind ?_
 ·unfold isInstance
  (repeat (first | with_reducible refine wpAny_call (class_get (ox := ox) (od := none) X I F.mo ?_) | lk | wp_step))
  exact h
theorem exc_class {Q:Option Value -> Shared -> Prop} (F:ExcK K D) (X:K.In s.heap) (I:InstAt s.heap x ox D none) (h:Q (some (.ref D)) { s with toks := s.toks + 1 }):wpAny (model prog w) A (getAttr? (.ref x) "__class__") Q E s:= by
 obtain ⟨hh,g,d,t,os⟩ := s
 have L0 := I.type (M := model prog w)
 have L1 := looks_findIn (M := model prog w) X F.ga
 have L2 := looks_findIn (M := model prog w) X F.gt
 have hx2:(Value.builtin "BaseException.__getattribute__" == Value.builtin "object.__getattribute__") = false := by decide +kernel
 have hx1:(onTheHeap (Value.ref D) && Value.builtin "BaseException.__getattribute__" == Value.builtin "object.__getattribute__") = false := by rw [hx2]; rfl
 have hb := PySem.F.attr_ValueError.ga.bind (.ref x)
 unfold getAttr? getAttrBy? getAttrBy
 refine wpAny_bind (wpAny_mkText (wpAny_bind (wpAny_attempt (wpAny_holding (wpAny_bind (L0.at (wpAny_bind (L1.at ?_))))))))
 dsimp only
 rw [if_neg (by rw [hx1]; decide)]
 unfold getAttrByItsOwn hookBefore
 rw [if_pos (show onTheHeap (Value.ref D) = true from rfl)]
 refine wpAny_bind (L2.at (wpAny_bind (wpAny_attempt (wpAny_holding ?_))))
 unfold callGetattribute boundAndCalled
 rw [Bool.false_and,if_neg Bool.false_ne_true,hb]
 refine wpAny_bind (wpAny_pure ?_)
 refine exc_ga (ox := ox) F X I ?_
 exact wpAny_pure (wpAny_pure h)
theorem kitx_exc (F:ExcK K D):KitX K (.ref x) (.ref D) (fun h => InstAt h x ox D none) where
 ty := fun _ _ _ I => I.type
 it := fun _ _ X _ => by
  obtain ⟨cdD,hcD⟩ := Option.isSome_iff_exists.mp F.c
  unfold clsIn at hcD
  split at hcD
  ·rename_i c' d' cd' sl' ho
   intro A' Q' E' s' k q
   unfold isType loadHead
   exact wpAny_bind (wpAny_loadPart (k _ _ (X _ _ ho)) (wpAny_pure q))
  ·cases hcD
 ne := fun h tp dd its n sl X htp => by
  obtain ⟨cdD,hcD⟩ := Option.isSome_iff_exists.mp F.c
  refine Bool.eq_false_iff.mpr fun q => ?_
  have e:D = tp := Value.ref.inj (beq_iff_eq.mp q)
  subst e
  unfold clsIn at hcD
  split at hcD
  ·rename_i c' d' cd' sl' ho
   have z := (X _ _ ho).symm.trans htp
   cases z
  ·cases hcD
 ca := fun X I k => exc_class F X I k
theorem exO_inst {h:Heap} {o:Obj} (z:ExO (.ref D) o) (e:h.get? x = some o):InstAt h x o D none:= by
 obtain ⟨t,T,rfl⟩ := z
 exact ⟨e,rfl,rfl,trivial⟩
end
end Jt
namespace Jt
open PySem L2
open PySem.SeqAt (list_countAt list_indexAt)
section
variable {X:Cx}
noncomputable def isT:Value -> Bool
 | .bool b => b
 | _ => false
theorem vals_bl:∀ {bs:List Bool} {us:List Value},Vals (bs.map V.bl) us -> us = bs.map Value.bool
 | [],_,.nil => rfl
 | b :: bs,_,.cons r rs => by
  have r:_ = Value.bool b := r
  rw [vals_bl rs,r]; rfl
noncomputable def rIndexT:V -> List V -> Hp -> VK -> Prop := fun x vs H Q => ∃ (l:Addr) (bs:List Bool) (j:Nat),x = .ref l ∧ vs = [.bl true] ∧ H l = some (.lst (bs.map V.bl)) ∧ bs.length < 1000 ∧ bs[j]? = some true ∧ (∀ m,m < j -> bs[m]? = some false) ∧ Q (.int j) H
theorem mt_indexT:MtM X "list.index" rIndexT:= by
 intro pins s σ H x vs v us Q I rx rv h
 obtain ⟨l,bs,j,rfl,rfl,hH,hlen,hj,hno,q⟩ := h
 cases rx
 obtain ⟨u,rfl,ru⟩ := rv.one
 cases ru
 obtain ⟨z,its,n,r,hl,e⟩ := I.lstM hH
 have hv := vals_bl r
 subst hv
 have hj':j < bs.length := (List.getElem?_eq_some_iff.mp hj).1
 refine call_meets F.slot_list_index ⟨_,e,rfl⟩ F.entry_list_index (F.args_list_index_2 _ _) (list_indexAt l _ n none #[] (.bool true) isT j (by simpa using hj') (by omega) ?_ ?_) ⟨e,fun y hy => ?_,?_⟩
 ·have := (List.getElem?_eq_some_iff.mp hj).2
  simp [isT,this]
 ·intro m hm hlt
  have := (List.getElem?_eq_some_iff.mp (hno m hlt)).2
  simp [isT,this]
 ·obtain ⟨b,_,rfl⟩ := List.mem_map.mp (show y ∈ bs.map Value.bool by simpa using hy)
  have := PySem.SeqAt.EqAt.bool_bool (A := X.A.in1) (s := s) b true
  simpa [isT] using this
 ·exact ⟨.int j,H,I.tok _,⟨_,rfl⟩,q⟩
noncomputable def tIsx (i:Nat) (a:Addr) (b:Bool):TE := fun σ H Q => σ[i]? = some (some (.ref a)) ∧ Q (.bl b) H
theorem call_isx {a D:Addr} {o:Obj} {vc:V} {c:Value} {b:Bool} (F:ExcK X.K D) (hp:(a,o) ∈ X.pn) (z:ExO (.ref D) o) (rc:∀ u,RelV vc u -> u = c) (e:PySem.W.kitOne X.K (.ref D) c = some b):CallR X (.builtin "isinstance") (fun xs H Q => xs = [.ref a,vc] ∧ Q (.bl b) H):= by
 intro pins s σ H xs us Q I rv h
 obtain ⟨rfl,q⟩ := h
 obtain ⟨u1,u2,rfl,r1,r2⟩ := rv.two
 cases r1
 have := rc _ r2
 subst this
 obtain ⟨e1,_⟩ := I.pin (a,o) (List.mem_append_left _ hp)
 exact PySem.W.kia_one (kitx_exc F) I.kIn (exO_inst z e1) e (fun z => nomatch z) fun tk => ⟨.bl b,H,I.tok _,rfl,q⟩
theorem pe_globR {x:Str} {C:Addr} {pos:Pos} (hg:Gl X x) (hm:X.mg x = some (.ref C)) (hd:(x == ("__debug__":Str)) = false := by decide):PE X (.Name x pos) (tC (.ref C)) :=
 fun _ _ _ H _ I h => ld_glob I hg hm ⟨.ref C,H,I,rfl,h⟩ hd
theorem pe_isx {i:Nat} {a D C:Addr} {o:Obj} {x y:Str} {p1 p2 pos pf:Pos} {b:Bool} (F:ExcK X.K D) (hp:(a,o) ∈ X.pn) (z:ExO (.ref D) o) (e:PySem.W.kitOne X.K (.ref D) (.ref C) = some b) (hmi:X.mg "isinstance" = none) (hm:X.mg y = some (.ref C))
  (hN:X.N[i]? = some x := by rfl) (hv:Vis X.env.scope x := by first | exact Or.inl rfl | exact Or.inr (Or.inl rfl) | exact Or.inr (Or.inr rfl)) (hgi:Gl X "isinstance" := by rfl) (hg:Gl X y := by rfl) (hd:(x == ("__debug__":Str)) = false := by decide) (hcd:(x == ("__classdict__":Str)) = false := by decide) (hd2:(y == ("__debug__":Str)) = false := by decide) :
  PE X (.Call (.Name "isinstance" pf) [.Name x p1,.Name y p2] [] pos) (tIsx i a b) :=
 fun pins s σ H Q I h => pe_callB (call_isx F hp z (vc := .ref C) (c := .ref C) (fun _ r => r) e) hgi hmi (by decide +kernel) (pa_cons (pe_var hN hv hd hcd) (pa_cons (pe_globR hg hm hd2) pa_nil)) (by decide) (by decide) rfl rfl pins s σ H Q I ⟨_,h.1,rfl,h.2⟩
theorem pe_isxT {i:Nat} {a D:Addr} {o:Obj} {x y:Str} {T:String} {p1 p2 pos pf:Pos} {b:Bool} (F:ExcK X.K D) (hp:(a,o) ∈ X.pn) (z:ExO (.ref D) o) (e:PySem.W.kitOne X.K (.ref D) (.type T) = some b) (hmi:X.mg "isinstance" = none) (hm:X.mg y = none) (hbt:bootBuiltins y = some (.type T))
  (hN:X.N[i]? = some x := by rfl) (hv:Vis X.env.scope x := by first | exact Or.inl rfl | exact Or.inr (Or.inl rfl) | exact Or.inr (Or.inr rfl)) (hgi:Gl X "isinstance" := by rfl) (hg:Gl X y := by rfl) (hd:(x == ("__debug__":Str)) = false := by decide) (hcd:(x == ("__classdict__":Str)) = false := by decide) (hd2:(y == ("__debug__":Str)) = false := by decide) (hn2:y ≠ "__name__" := by decide) :
  PE X (.Call (.Name "isinstance" pf) [.Name x p1,.Name y p2] [] pos) (tIsx i a b) :=
 fun pins s σ H Q I h => pe_callB (call_isx F hp z (vc := .ty T) (c := .type T) (fun _ r => r) e) hgi hmi (by decide +kernel) (pa_cons (pe_var hN hv hd hcd) (pa_cons (pe_bltn (v := .ty T) hg hm hbt rfl hn2 hd2) pa_nil)) (by decide) (by decide) rfl rfl pins s σ H Q I ⟨_,h.1,rfl,h.2⟩
end
end Jt
namespace Jt
open PySem L2 PySem.Spec PyProof.Rows
structure Rm (k:Nat) (A:Around):Prop where
 dp:A.depth + 3 * k + 5 < recursionLimit
 un:A.units + 16 * k + 200 < cLine
theorem rm_of {k:Nat} {A:Around} (r:Room k A):Rm k A := ⟨r.dp,r.un⟩
theorem Rm.mark {k:Nat} {A:Around} (r:Rm k A) (h:Option Value):Rm k (A.mark h) := ⟨r.dp,r.un⟩
theorem Rm.deeper {k:Nat} {A:Around} (r:Rm (k + 1) A) (env:Env):Rm k (A.deeper env) :=
 ⟨by have := r.dp; show A.depth + 1 + 3 * k + 5 < _; omega,by have := r.un; show A.units + 3 + 16 * k + 200 < _; omega⟩
theorem Rm.depth {k:Nat} {A:Around} (r:Rm k A):A.depth < recursionLimit := by have := r.dp; omega
structure FnH (P:Program) (w:World) (K:PySem.W.Frag) (mg:Str -> Option Value) (base:Heap) (k:Nat) (f:Addr) (fd:FuncData) (ps:List Str) (D:Addr) (res:V):Prop where
 run:∀ (A:Around) (outer:List Env) (s:Shared) (H:Hp) (args:Args) (a:Addr) (o:Obj) (Q:VK),Rm k A -> A.handled = some (.ref a) -> Env0 P w K mg base A outer s H -> BindsTo s fd args (ps.zip [.ref a]) -> ExO (.ref D) o -> s.heap.get? a = some o -> H a = none -> a ∉ frs outer ->
  (∀ H',Same H H' -> Q res H') -> codeAny (model P w) A (.call (.ref f) args) (CR CX0 outer P w H s Q fun _ _ _ => False) s
noncomputable def cxK (P:Program) (w:World) (K:PySem.W.Frag) (mg:Str -> Option Value) (base:Heap) (N:List Str) (qual:Str) (scope:Scope) (f:Addr) (cd:Value) (A:Around) (outer:List Env) (s:Shared) (H:Hp) (a:Addr) (o:Obj):Cx :=
 { cxOf CX0 P w K mg base N qual scope f cd A outer s H (fun _ _ _ => False) with calm := false,pn := [(a,o)],xe := fun _ _ => False }
section
variable {P:Program} {w:World} {K:PySem.W.Frag} {mg:Str -> Option Value} {base:Heap} {k:Nat} {f:Addr} {fd:FuncData} {N ps:List Str} {x qual:Str} {st:Stmt} {D:Addr} {res:V}
theorem fnH (F:Fun K x qual st f fd) (S:FnScope N ps (defScope st)) (hps:ps.length = 1)
  (hbody:∀ (cdv:Value) (A:Around) (outer:List Env) (s:Shared) (H:Hp) (a:Addr) (o:Obj),ExO (.ref D) o -> A.handled = some (.ref a) -> ∃ t,PSs (cxK P w K mg base N qual (defScope st) f cdv A outer s H a o) (defBody st) t ∧ ∀ Q:VK,(∀ H',Same H H' -> Q res H') -> t { nx := fun _ H' => Q .non H',rt := Q } (start N [.ref a]) H) :
  FnH P w K mg base (k + 1) f fd ps D res:= by
 obtain ⟨oc,od,kV,doc,pm,an,cdv,ct,osl,rfl,lk,hcd⟩ := F.ex
 refine ⟨fun A outer s H args a o Q hr hh e0 hb z ea na nf hQ => ?_⟩
 have KX:K.In s.heap := e0.mod.kin.keeps fun b o e => (e0.bs b o e).1
 have lim:s.heap.NoLimit := e0.mod.nolimit.keeps fun b o e => (e0.bs b o e).1
 have hkind:∀ y ∈ ps.zip [Value.ref a],(defScope st).names.lookup y.1 = some .local ∨ ((defScope st).names.lookup y.1 = some .cell ∧ ((cellsFrom (s.heap.objs.size + 1) (defScope st).names []).lookup y.1).isSome = true) := fun ⟨n,v⟩ hy => by
  rcases S.par n (List.of_mem_zip hy).1 with q | q
  ·exact .inl q
  ·exact .inr ⟨q,PySem.W.cellsFrom_some _ _ _ (.inl q)⟩
 refine codeAny_call_function hr.depth (KX _ _ lk) rfl S.co S.gen rfl (PySem.W.codeRec_of KX hcd) (hb _ _ _ _ ?_)
 refine wpAny_newFunctionEnv_cells S.kind hkind fun env he s1 x => ?_
 subst he
 refine ⟨lim.keeps x.toInCall.keep,codeAny_func ?_⟩
 obtain ⟨t,ht,hq⟩ := hbody cdv A outer s H a o z hh
 have e0':Env0 P w K mg base { A with handled := none } outer s H := ⟨e0.frames,e0.mod,e0.bs,e0.bsz,e0.funs,e0.frf,e0.hok,e0.bare⟩
 have I0:L2.Inv (cxOf CX0 P w K mg base N qual (defScope st) f cdv { A with handled := none } outer s H fun _ _ _ => False) [] (start N [.ref a]) H s1 := inv_start (vs := [.ref a]) (us := [.ref a]) S rfl e0' hps.symm (.cons rfl .nil) x
 have ok := I0.ok
 have I:L2.Inv (cxK P w K mg base N qual (defScope st) f cdv A outer s H a o) [] (start N [.ref a]) H s1:= by
  refine ⟨⟨ok.mod,ok.kind,ok.glob,ok.blt,ok.above,ok.inj,ok.has,ok.cab,(fun z => Bool.noConfusion z),Around.frames_deeper e0.frames,ok.stk,ok.exf,ok.bs,ok.bsz,ok.noex,ok.exfs,ok.funs,ok.frf⟩,I0.os,I0.bare,I0.base,I0.loc,I0.cell,I0.free,I0.freeC,fun p hp => ?_,I0.hok,I0.len⟩
  have hp:p = (a,o) := by simpa [cxK] using hp
  subst hp
  refine ⟨x.toInCall.keep _ _ ea,na,Nat.ne_of_lt (Heap.lt_size ea),nf,fun v q => ?_⟩
  obtain ⟨t,T,rfl⟩ := z
  cases q
 refine wpAny_mono (ht [] s1 (start N [.ref a]) H _ I (hq Q hQ)) (fun fl s' hs => ?_) fun e s' hs => False.elim hs
 have fin:∀ {σ':L2.St} {H':Hp} {v:V} {u:Value},L2.Inv (cxK P w K mg base N qual (defScope st) f cdv A outer s H a o) [] σ' H' s' -> RelV v u -> Q v H' -> CE outer P w H s Q u s' :=
  fun {σ' H' v u} J rv q => ⟨v,H',J.os,J.bare,J.base,J.hok,rv,q⟩
 cases fl with
 | ret u =>
  obtain ⟨v,σ',H',J,rv,q⟩ := hs
  exact fin J rv q
 | next =>
  obtain ⟨σ',H',J,q⟩ := hs
  exact fin (v := V.non) (u := Value.none) J rfl q
 | brk =>
  obtain ⟨_,_,_,q⟩ := hs
  exact False.elim q
 | cont =>
  obtain ⟨_,_,_,q⟩ := hs
  exact False.elim q
end
noncomputable def tKnd (i:Nat) (a:Addr) (res:V):TE := fun σ H Q => σ[i]? = some (some (.ref a)) ∧ ∀ H',Same H H' -> Q res H'
theorem pe_callH {X:Cx} {i k:Nat} {f a D:Addr} {o:Obj} {fd:FuncData} {ps:List Str} {x y:Str} {res:V} {p p1 pos:Pos} (F:FnH X.prog X.w X.K X.mg X.base k f fd ps D res) (hr:Rm k X.A) (hh:X.A.handled = some (.ref a)) (hp:(a,o) ∈ X.pn) (z:ExO (.ref D) o) (hm:X.mg y = some (.ref f)) (hk:PySem.W.keepIn X.K (.ref f) = true) (hb:Binds X.K fd ps []) (hps:ps.length = 1)
  (hN:X.N[i]? = some x := by rfl) (hv:Vis X.env.scope x := by first | exact Or.inl rfl | exact Or.inr (Or.inl rfl) | exact Or.inr (Or.inr rfl)) (hg:Gl X y := by rfl) (hd:(x == ("__debug__":Str)) = false := by decide) (hcd:(x == ("__classdict__":Str)) = false := by decide) (hd2:(y == ("__debug__":Str)) = false := by decide) :
  PE X (.Call (.Name y p) [.Name x p1] [] pos) (tKnd i a res):= by
 intro pins s σ H Q I h
 refine wpAny_Call_Name_kw (ld_glob I hg hm ?_ hd2)
 refine PySem.W.callWith_K (h₀ := X.base) I.ok.mod.kin hk (thn ((pa_cons (pe_var hN hv hd hcd) pa_nil) pos pins s σ H (fun vs H1 => vs = [.ref a] ∧ H1 = H) I ⟨_,h.1,rfl,rfl⟩) fun us s1 ⟨vs,H1,I1,r,q1,q2⟩ => ⟨I1.kIn,?_⟩) rfl rfl
 subst q1; subst q2
 obtain ⟨u,rfl,ru⟩ := r.one
 cases ru
 obtain ⟨e1,n1,nl,nf,_⟩ := I1.pin (a,o) (List.mem_append_left _ hp)
 have ns:a ∉ frs X.stack := fun hm => by
  rcases List.mem_cons.mp (I1.stkSub a hm) with q | q
  ·exact nl q
  ·exact nf q
 refine wpAny_call (codeAny_mono (F.run X.A X.stack s1 H1 ⟨[.ref a],[]⟩ a o Q hr hh I1.env0 (by simpa using hb s1 [.ref a] I1.kIn (by simp [hps])) z e1 n1 ns h.2) fun r s' hq => ?_)
 cases r with
 | error e => exact False.elim hq
 | ok fl =>
  cases fl with
  | ret u => exact I1.after hq
  | next => exact False.elim hq
  | brk => exact False.elim hq
  | cont => exact False.elim hq
end Jt
namespace Jt
open PySem L2
theorem Sl.unset {c:Ct} {δ:DS} {S:List D} {σ:St} {T:List V} {H:Hp} {i:Nat} (s:Sl c δ S σ T H) (hu:δ[i]? = some .un):Sl c δ S (σ.set i none) T H:= by
 have ne:∀ (j:Nat) x,δ[j]? = some x -> x ≠ .un -> (σ.set i none)[j]? = σ[j]? := fun j x h hx => by
  rw [List.getElem?_set_ne]
  rintro rfl
  rw [hu] at h; cases h; exact hx rfl
 have ow':∀ a,OwA δ (σ.set i none) a -> OwA δ σ a := fun a ⟨j,b,xs,h1,h2⟩ => ⟨j,b,xs,h1,(ne j _ h1 (fun z => nomatch z)).symm.trans h2⟩
 have m:∀ b u,vis c δ σ H b = some u -> vis c δ (σ.set i none) H b = some u := hid_mono (fun a u e z => z.elim .inl fun z => .inr (ow' a z)) fun _ _ _ h => h
 refine ⟨by simpa using s.len,fun j d h => ?_,fun j b xs h => ?_,fun j k b b' xs ys a h1 h2 h3 h4 => ?_,s.st.mono m,s.keep,s.bb,s.zz⟩
 ·obtain ⟨v,e,r⟩ := s.pu j d h
  exact ⟨v,(ne j _ h (fun z => nomatch z)).trans e,r.mono m⟩
 ·obtain ⟨a,vs,e,r1,r2,r3⟩ := s.ow j b xs h
  exact ⟨a,vs,(ne j _ h (fun z => nomatch z)).trans e,r1,r2.mono m,r3⟩
 ·exact s.ne j k b b' xs ys a h1 h2 ((ne j _ h1 (fun z => nomatch z)).symm.trans h3) ((ne k _ h2 (fun z => nomatch z)).symm.trans h4)
noncomputable def tryA (ie iy:Nat) (kinds:Addr -> Option Str) (fx:M (Fl ⊕ Addr)):M Fl := fun δ => match fx δ with
 | some (.inl fl,δ') => some (fl,δ')
 | some (.inr C,δ') => match kinds C,δ'[ie]? with
  | some w,some .un => if iy < δ'.length ∧ ie ≠ iy then some (.nx,δ'.set iy (.pu (.str w))) else none
  | _,_ => none
 | none => none
noncomputable def tryR (ie:Nat) (kinds:Addr -> Option Str) (fx:M (Fl ⊕ Addr)):M Fl := fun δ => match fx δ with
 | some (.inl fl,δ') => some (fl,δ')
 | some (.inr C,δ') => match kinds C,δ'[ie]? with
  | some w,some .un => some (.rt (.str w),δ')
  | _,_ => none
 | none => none
structure Knd (P:Program) (w:World) (K:PySem.W.Frag) (mg:Str -> Option Value) (base:Heap) (k:Nat) (f C0:Addr) (fd:FuncData) (ps:List Str) (kinds:Addr -> Option Str):Prop where
 fn:∀ C x,kinds C = some x -> FnH P w K mg base k f fd ps C (.str x)
 ex:∀ C x,kinds C = some x -> PySem.W.exmOne K (.ref C) (.ref C0) = some true
section
variable {X:Cx} {body:List Stmt} {x n y g:Str} {C0 f:Addr} {ie iy k:Nat} {fd:FuncData} {ps:List Str} {kinds:Addr -> Option Str} {fx:M (Fl ⊕ Addr)} {p hpos pos py pg pn pc pa:Pos}
noncomputable def thA (kinds:Addr -> Option Str) (ie:Nat) (t:TE -> TS) (a:Addr):Value -> TS
 | .ref C => match kinds C with
  | some w => t (tKnd ie a (.str w))
  | none => fun _ _ _ => False
 | _ => fun _ _ _ => False
theorem ds_tryA (ie iy:Nat) (W:Knd X.prog X.w X.K X.mg X.base k f C0 fd ps kinds) (hN:X.N.Nodup) (hst:X.stack = X.env :: X.outer) (hf:X.env.frame = some X.env.locals) (hb:DSXs X false body fx) (hr:Room k X.A) (hm:X.mg x = some (.ref C0)) (hmg:X.mg g = some (.ref f)) (hk:PySem.W.keepIn X.K (.ref f) = true) (hbi:Binds X.K fd ps []) (hps:ps.length = 1 := by rfl)
  (hi:X.N[ie]? = some n := by rfl) (hl:X.env.kindOf n = some .local := by rfl) (hiy:X.N[iy]? = some y := by rfl) (hly:X.env.kindOf y = some .local := by rfl) (hg:Gl X x := by rfl) (hgg:Gl X g := by rfl) (hdb:(x == ("__debug__":Str)) = false := by decide) (hd:(n == ("__debug__":Str)) = false := by decide) (hcd:(n == ("__classdict__":Str)) = false := by decide) (hd2:(g == ("__debug__":Str)) = false := by decide)
  (hsw:swapsWith (.Call (.Name g pg) [.Name n pn] [] pc) (some (.Name y py)) pa.line X.env = pure false := by rfl) :
  DSt X (.Try body [.ExceptHandler (some (.Name x p)) (some n) [.Assign [.Name y py] (.Call (.Name g pg) [.Name n pn] [] pc) pa] hpos] [] [] pos) (tryA ie iy kinds fx):= by
 refine psOf (ps_try (Adm := fun cls => ∃ C w,cls = .ref C ∧ kinds C = some w) (th := thA kinds ie fun te => tAsg te (gName iy)) hN hst hf hb hg hm hi hl (fun cls ⟨C,w,e,hw⟩ => e ▸ W.ex C w hw) (fun a o cls z ⟨C,w,e,hw⟩ => ?_) hdb) fun E σ H ⟨c,δ,S,T,fl,δ',s,e,q⟩ => ?_
 ·subst e
  show PSs (hx X a o) _ (match kinds C with | some w => tAsg (tKnd ie a (.str w)) (gName iy) | none => fun _ _ _ => False)
  rw [hw]
  exact pss_one (ps_set (X := hx X a o) hN hiy (.inl hly) (pe_callH (X := hx X a o) (W.fn C w hw) ((rm_of hr).mark _) rfl List.mem_cons_self z hmg hk hbi hps hi (.inl hl) hgg hd hcd hd2) hsw (.inr hly))
 ·unfold tryA at e
  split at e
  ·rename_i fl1 δ1 efx
   cases e
   exact ⟨c,δ,S,T,.inl _,_,s,efx,q⟩
  ·rename_i C δ1 efx
   split at e
   ·rename_i w hw hun
    split at e
    ·rename_i hlt
     cases e
     refine ⟨c,δ,S,T,.inr C,δ1,s,efx,fun σ' H' s' => ⟨⟨⟨C,w,rfl,hw⟩,fun a na => ?_⟩,fun z => nomatch z⟩⟩
     show (match kinds C with | some w => tAsg (tKnd ie a (.str w)) (gName iy) | none => fun _ _ _ => False) _ _ _
     rw [hw]
     have hie:ie < σ'.length := by rw [<- s'.len]; exact (List.getElem?_eq_some_iff.mp hun).1
     refine ⟨List.getElem?_set_self hie,fun H2 sm => ?_⟩
     show E.nx (((σ'.set ie (some (.ref a))).set iy (some (.str w))).set ie none) H2
     have s2 := (s'.grow sm).unset hun
     have s3 := (s2.stk (S' := .str w :: S) (T' := .str w :: T) (.cons .mkS s2.st)).setPu hlt.1
     have:((σ'.set ie (some (.ref a))).set iy (some (.str w))).set ie none = (σ'.set ie none).set iy (some (.str w)):= by
      rw [List.set_comm _ _ hlt.2.symm,List.set_set]
     rw [this]
     exact q _ _ s3
    ·cases e
   ·cases e
  ·cases e
theorem ds_tryR (ie:Nat) (W:Knd X.prog X.w X.K X.mg X.base k f C0 fd ps kinds) (hN:X.N.Nodup) (hst:X.stack = X.env :: X.outer) (hf:X.env.frame = some X.env.locals) (hb:DSXs X false body fx) (hr:Room k X.A) (hm:X.mg x = some (.ref C0)) (hmg:X.mg g = some (.ref f)) (hk:PySem.W.keepIn X.K (.ref f) = true) (hbi:Binds X.K fd ps []) (hps:ps.length = 1 := by rfl)
  (hi:X.N[ie]? = some n := by rfl) (hl:X.env.kindOf n = some .local := by rfl) (hg:Gl X x := by rfl) (hgg:Gl X g := by rfl) (hdb:(x == ("__debug__":Str)) = false := by decide) (hd:(n == ("__debug__":Str)) = false := by decide) (hcd:(n == ("__classdict__":Str)) = false := by decide) (hd2:(g == ("__debug__":Str)) = false := by decide) :
  DSt X (.Try body [.ExceptHandler (some (.Name x p)) (some n) [.Return (some (.Call (.Name g pg) [.Name n pn] [] pc)) pa] hpos] [] [] pos) (tryR ie kinds fx):= by
 refine psOf (ps_try (Adm := fun cls => ∃ C w,cls = .ref C ∧ kinds C = some w) (th := thA kinds ie tRet) hN hst hf hb hg hm hi hl (fun cls ⟨C,w,e,hw⟩ => e ▸ W.ex C w hw) (fun a o cls z ⟨C,w,e,hw⟩ => ?_) hdb) fun E σ H ⟨c,δ,S,T,fl,δ',s,e,q⟩ => ?_
 ·subst e
  show PSs (hx X a o) _ (match kinds C with | some w => tRet (tKnd ie a (.str w)) | none => fun _ _ _ => False)
  rw [hw]
  exact pss_one (ps_ret (X := hx X a o) (pe_callH (X := hx X a o) (W.fn C w hw) ((rm_of hr).mark _) rfl List.mem_cons_self z hmg hk hbi hps hi (.inl hl) hgg hd hcd hd2))
 ·unfold tryR at e
  split at e
  ·rename_i fl1 δ1 efx
   cases e
   exact ⟨c,δ,S,T,.inl _,_,s,efx,q⟩
  ·rename_i C δ1 efx
   split at e
   ·rename_i w hw hun
    cases e
    refine ⟨c,δ,S,T,.inr C,δ',s,efx,fun σ' H' s' => ⟨⟨⟨C,w,rfl,hw⟩,fun a na => ?_⟩,fun z => nomatch z⟩⟩
    show (match kinds C with | some w => tRet (tKnd ie a (.str w)) | none => fun _ _ _ => False) _ _ _
    rw [hw]
    have hie:ie < σ'.length := by rw [<- s'.len]; exact (List.getElem?_eq_some_iff.mp hun).1
    refine ⟨List.getElem?_set_self hie,fun H2 sm => ?_⟩
    have s2 := s'.grow sm
    exact q _ _ _ (s2.stk (S' := .str w :: S) (T' := .str w :: T) (.cons .mkS s2.st))
   ·cases e
  ·cases e
end
end Jt
namespace Jt
open PySem L2
noncomputable def Hdl (A:Around) (a:Addr) (o:Obj):Prop := A.handled = some (.ref a) ∧ ∃ vs,o.data = .fields vs ∧ vs[2]? = some .none
theorem en_unchain:entryFor table "proto.unchain" = some Builtin.«proto.unchain» := entryFor_of_fast (by kernel_rfl)
section
variable {prog:Program} {w:World} {A:Around} {E:Value -> Shared -> Prop} {s:Shared} {a:Addr} {o:Obj}
theorem raise_h {α:Type} {Q:α -> Shared -> Prop} {x:Addr} {ox:Obj} {vs:Array Value} (hh:Hdl A a o) (ea:s.heap.get? a = some o) (ex:s.heap.get? x = some ox) (hd:ox.data = .fields vs) (h2:2 < vs.size) (ne:a ≠ x)
  (hE:E (.ref x) { s with heap := s.heap.update x (Obj.mapFields (·.setIfInBounds 2 (.ref a))) }):wpAny (model prog w) A (raiseNew (.ref x):Sem α) Q E s:= by
 obtain ⟨hh,us,hda,hu⟩ := hh
 simp only [raiseNew]
 refine wpAny_bind (wpAny_handled ?_)
 rw [hh]
 dsimp only
 rw [if_pos (show (Value.ref a != Value.ref x) = true by simpa using ne)]
 refine wpAny_bind (wpAny_holding (wpAny_runValue (codeAny_builtin en_unchain ?_)))
 show wpAny _ _ (field (.ref a) 2 >>= _) _ _ s
 refine wpAny_bind (wpAny_field ea hda hu ?_)
 refine wpAny_pure (?_:wpAny _ _ (setField (.ref x) 2 (.ref a) >>= _) _ _ s)
 exact wpAny_bind (wpAny_setField ex hd h2 (wpAny_throw hE))
theorem next_end_h {it l:Addr} {i:Nat} {items} {Q:Option Value -> Shared -> Prop} (hh:Hdl A a o) (ea:s.heap.get? a = some o) (na:a ≠ it)
  (hit:s.heap.IsListIter it l i) (hl:s.heap.IsList l items) (hx:items[i]? = none)
  (hQ:∀ h',Heap.ExtBut it s.heap h' -> Q none { s with heap := h' }):wpAny (model prog w) A (pyNext (.ref it)) Q E s:= by
 obtain ⟨o,ho,hc,hd⟩ := id hit
 obtain ⟨ol,hol,_,nl,hdl⟩ := hl
 unfold pyNext
 refine wpAny_bind (wpAny_attempt (wpAny_callSpecial?_slot (name := Str.ofString "__next__") hit.typeIs slot_listiter_next
  (wpAny_call_entry slot_listiter_next hit.typeIs entry_listiter_next (?_:wpAny _ _ (field (.ref it) 0 >>= _) _ _ s) (args_listiter_next _))))
 refine wpAny_bind (wpAny_field ho hd (x := .ref l) rfl (?_:wpAny _ _ (if (Value.ref l == Value.none) = true then _ else _) _ _ s))
 rw [if_neg (show ¬ ((Value.ref l == Value.none) = true) from Bool.false_ne_true)]
 refine (?_:wpAny _ _ (field (.ref it) 1 >>= _) _ _ s)
 refine wpAny_bind (wpAny_field ho hd (x := .int i 0) rfl (?_:wpAny _ _ (seqItems? (.ref l) >>= _) _ _ s))
 refine wpAny_bind (wpAny_seqItems hol hdl ?_)
 simp only [Int.toNat_natCast,hx]
 refine wpAny_bind (wpAny_rule (wpAny_bind (wpAny_setField ho hd (by simp) (?_:wpAny _ _ (newExc (.type "StopIteration") [] >>= _) _ _ _))))
 refine wpAny_bind ?_
 simp only [newExc,newTuple]
 refine wpAny_bind (wpAny_newObj_type ?_ (by size_fits))
 refine wpAny_bind (m := firstArgMember _ _) (wpAny_of_eq (a := Value.none) (by first | rfl | (simp only [firstArgMember]; rfl)) ?_)
 refine wpAny_newObj_type ?_ (by size_fits)
 have e1:Heap.ExtBut it s.heap (((s.heap.update it (Obj.mapFields (·.setIfInBounds 0 Value.none))).push { cls := .type "tuple",data := .seq ([]:List Value).toArray })) := (Heap.SameBut.update ..).extBut.push _
 have ea1 := Heap.get?_push_of_some { cls := .type "StopIteration",data := .fields (#[.ref (s.heap.update it (Obj.mapFields (·.setIfInBounds 0 Value.none))).objs.size,.none,.none,.none,.bool false,.none] ++ ownMembersOf (.type "StopIteration") []) } (e1 a _ na ea)
 refine raise_h (A := A.in1) hh ea1 (Heap.get?_push_size _ rfl) rfl (by rw [Array.size_append]; exact Nat.lt_of_lt_of_le (by decide:2 < 6) (Nat.le_add_right _ _)) (Nat.ne_of_lt (Heap.lt_size (e1 a _ na ea))) ?_
 refine wpAny_bind (wpAny_isInstance (T := "StopIteration") (b := true) ⟨_,Heap.get?_update_self _ (Heap.get?_push_size _ rfl) rfl,rfl⟩ isSubtype_stop ?_)
 refine wpAny_pure (hQ _ fun c oc hc ec => ?_)
 have := e1 c oc hc ec
 exact (Heap.get?_update_other _ _ (Nat.ne_of_gt (Heap.lt_size this))).trans (Heap.get?_push_of_some _ this)
theorem walks_h (hh:Hdl A a o) (I ax:Addr) (hne:ax ≠ I) (hna:a ≠ I) (items:Array Value) :
  Walks prog w A I [I,ax,a] [I] items.size (fun i v => items[i]? = some v) (fun i h => h.IsListIter I ax i ∧ h.IsList ax items ∧ h.get? a = some o) where
 sub := fun b hb => by simp at hb; simp [hb]
 frame := fun _ _ _ st hk => ⟨st.1.at fun o e => hk I (by simp) o e,st.2.1.at fun o e => hk ax (by simp) o e,hk a (by simp) _ st.2.2⟩
 item := fun i s Q E hi st hQ => by
  refine wpAny_pyNext_list_item st.1 st.2.1 (x := items[i]) (by simp [hi]) fun h' hit' hs' => ?_
  exact hQ _ h' s.toks (by simp [hi]) ⟨hit',st.2.1.extBut hs'.extBut hne,hs'.extBut a o hna st.2.2⟩ fun b o hb e => hs'.extBut b o (fun h => hb (by simp [h])) e
 done := fun s Q E st hQ => next_end_h hh st.2.2 hna st.1 st.2.1 (by simp) fun h' he' => hQ h' s.toks fun b o hb e => he' b o (fun h => hb (by simp [h])) e
 self := fun _ _ _ _ st hQ => wpAny_pyIter_listiter st.1 hQ
end
end Jt
namespace Jt
open PySem L2 PySem.Spec PyProof.Rows
noncomputable def HdX (X:Cx):Prop := ∃ a o,Hdl X.A a o ∧ (a,o) ∈ X.pn
theorem turn_listH {P:Program} {w:World} {K:PySem.W.Frag} {tg:Expr} (a it:Addr):TurnG HdX P w K tg (Itl K a) [it] it (fun i h => h.IsListIter it a i) where
 obj := (turn_list (P := P) (w := w) (K := K) (tg := tg) a it).obj
 keep := (turn_list (P := P) (w := w) (K := K) (tg := tg) a it).keep
 item:= by
  intro X hP hw hK hc i pins s σ H E I hf st hg
  subst hP hw hK
  obtain ⟨xs,x,hq,hx⟩ := hg
  obtain ⟨its,rv,p,hz⟩ := I.list hq
  obtain ⟨u,hu,ru⟩ := rv.get hx
  obtain ⟨f0,f1,f2,f3,f4,f5⟩ := hf it (by simp)
  refine wpAny_pyNext_list_item st p.isList (x := u) (by simpa using hu) fun h' st' sb => ?_
  have I1:L2.Inv X pins σ H { s with heap := h' } := I.turned (t' := s.toks) (fun b o hb e => (sb.2 b hb).trans e) f0 f1 f3 f4 f5
  obtain ⟨o,e,c,d⟩ := id st'
  exact ⟨u,rfl,go_of (s := { s with heap := h' }) e c d (by decide) ⟨x,H,I1,ru,⟨rfl,fun ys hy => by rw [I.list_inj hy hq]; exact hx⟩,st',fun b hb => (hf b hb).1⟩⟩
 done:= by
  intro X hP hw hK hc i pins s σ H E I hf st hg
  subst hP hw hK
  obtain ⟨xs,hq,hx⟩ := hg
  obtain ⟨its,rv,p,hz⟩ := I.list hq
  obtain ⟨f0,f1,f2,f3,f4,f5⟩ := hf it (by simp)
  have hl := rv.length
  obtain ⟨e,oe,hh,hm⟩ := hc
  have hp := I.pin (e,oe) (List.mem_append_left _ hm)
  exact next_end_h hh hp.1 (f5 (e,oe) (List.mem_append_left _ hm)) st p.isList (by simp; omega) fun h' eb => ⟨rfl,I.turned (t' := s.toks) (fun b o hb e => eb b o hb e) f0 f1 f3 f4 f5⟩
 self := fun _ _ _ _ _ st h => wpAny_pyIter_listiter st h
section
variable {X:Cx} {elt tg iter l:Expr} {ifs:List Expr} {scope:Scope} {pos pos':Pos} {N' own:List Str} {wi:TI} {g:TG} {tt:TT} {te tl:TE}
theorem pig_listH (hl:PE X l tl):PIG HdX X tg l (iList X.K tl):= by
 intro pins s σ H R I h
 refine thn (hl pins s σ H _ I h) fun v s1 ⟨x,H1,I1,r1,q1⟩ => ?_
 obtain ⟨a,e,⟨xs,hq⟩,q⟩ := q1
 subst e
 cases r1
 obtain ⟨its,rv,p,hz⟩ := I1.list hq
 refine wpAny_pyIter_list p.isList ?_
 refine ⟨s1.heap.objs.size,[s1.heap.objs.size],_,_,H1,rfl,I1.kept (t' := s1.toks) fun b o e => Heap.get?_push_of_some _ e,turn_listH a _,⟨_,Heap.get?_push_size _ rfl,rfl,rfl⟩,fun b hb => ?_,q⟩
 have e:b = s1.heap.objs.size := by simpa using hb
 subst e
 exact I1.fpOk (Nat.le_refl _) (I1.hok.fresh (Nat.le_refl _))
theorem pe_compH (hc:HdX X) (hi:PIG HdX X tg iter wi) (hg:∀ s H fp pins,PG (blk X N' own scope s H fp pins) tg g) (ht:∀ s H fp pins,PTs (blk X N' own scope s H fp pins) ifs tt) (he:∀ s H fp pins,PE (blk X N' own scope s H fp pins) elt te)
  (hS:compOk N' own X.env.scope scope = true := by rfl) (hM:maskOk X.N N' scope = true := by rfl) (hk:scope.kind = .function := by rfl) (hs:∀ x,foldedSetIterable iter X.env x = pure x := by intro _; rfl) :
  PE X (.ListComp elt [⟨tg,iter,ifs,0⟩] scope pos) (tComp wi own.length g tt te):= by
 intro pins s σ H Q I h
 rw [eval_ListComp]
 obtain ⟨a,o,hh,hm⟩ := hc
 refine comp_go (use := none) (cal := HdX) (fun _ _ _ _ => ⟨a,o,hh,List.mem_append_left _ hm⟩) hi hk hS hM hg ht he hs I h fun l H' s' C m I' q hn h1 h2 h3 h4 h5 => ?_
 refine ⟨m,hn,fun h' sb => ⟨.ref l,H',?_,rfl,q⟩⟩
 exact I'.turned (t' := s'.toks) (fun b o hb e => (sb.2 b hb).trans e) h1 h2 (.inr h3) h4 h5
noncomputable def rSum01:List V -> Hp -> VK -> Prop := fun xs H Q => ∃ (l:Addr) (bs:List Bool),xs = [.ref l] ∧ H l = some (.lst (bs.map fun b => V.int (if b then 1 else 0))) ∧ bs.length ≤ 100 ∧ Q (.int (bs.count true)) H
theorem pre01 (bs:List Bool):∀ j,j ≤ bs.length -> preSum (fun i => if bs.getD i false then 1 else 0) j = ((bs.take j).count true:Nat)
 | 0,_ => rfl
 | j + 1,h => by
  show preSum _ j + _ = _
  rw [pre01 bs j (by omega),List.take_succ_eq_append_getElem (by omega),List.count_append]
  have:bs.getD j false = bs[j] := by simp [show j < bs.length by omega]
  show _ + (if bs.getD j false = true then 1 else 0) = _
  rw [this]
  cases bs[j] <;> simp
theorem call_sumH (hc:HdX X):CallR X (.builtin "sum") rSum01:= by
 intro pins s σ H xs us Q I r h
 obtain ⟨l,bs,rfl,hl,hn,q⟩ := h
 obtain ⟨u,rfl,ru⟩ := r.one
 cases ru
 obtain ⟨a,o,hh,hm⟩ := hc
 have hp := I.pin (a,o) (List.mem_append_left _ hm)
 obtain ⟨its,rv,p,hz⟩ := I.list (show SqL X.K H l _ from .inl (.inl hl))
 have hlen := rv.length
 rw [List.length_map] at hlen
 have hll:l < s.heap.objs.size := by obtain ⟨o,e,_⟩ := p.isList; exact Heap.lt_size e
 have hla := Heap.lt_size hp.1
 refine call_sum_walk ?_
 refine wpAny_pyIter_list p.isList ?_
 refine ⟨_,_,_,_,_,_,fun i => if bs.getD i false then 1 else 0,rfl,walks_h (A := X.A.in1) hh s.heap.objs.size l (Nat.ne_of_lt hll) (Nat.ne_of_lt hla) its.toArray,⟨⟨_,Heap.get?_push_size _ rfl,rfl,rfl⟩,p.isList.push _,Heap.get?_push_of_some _ hp.1⟩,fun b hb => ?_,fun i v hv => ?_,fun j hj => ?_,fun h' tk t' kp => ?_⟩
 ·rw [Heap.size_push]
  simp only [List.mem_cons,List.not_mem_nil,or_false] at hb
  rcases hb with rfl | rfl | rfl
  ·exact Nat.lt_succ_self _
  ·exact Nat.lt_succ_of_lt hll
  ·exact Nat.lt_succ_of_lt hla
 ·have hv':its[i]? = some v := by simpa using hv
  have hi:i < bs.length := by rw [hlen]; exact (List.getElem?_eq_some_iff.mp hv').1
  obtain ⟨u,hu,ru⟩ := rv.get (i := i) (x := V.int (if bs[i] then 1 else 0)) (by simp [hi])
  rw [hv'] at hu
  cases hu
  obtain ⟨t,rfl⟩ := ru
  exact ⟨t,by simp [hi]⟩
 ·have hj':j < bs.length := by rw [hlen]; simpa using hj
  refine ⟨?_,?_⟩
  ·dsimp only
   split <;> exact ⟨by decide,by decide⟩
  ·rw [pre01 bs (j + 1) hj']
   have := List.count_le_length (a := true) (l := bs.take (j + 1))
   rw [List.length_take] at this
   exact ⟨by omega,by omega⟩
 ·have e:preSum (fun i => if bs.getD i false then 1 else 0) its.toArray.size = ((bs.count true:Nat):Int):= by
   rw [show its.toArray.size = bs.length by simp [hlen],pre01 bs _ (Nat.le_refl _),List.take_length]
  rw [e]
  refine ⟨.int (bs.count true),H,?_,⟨t',rfl⟩,q⟩
  exact I.kept (t' := tk) fun b o eb => kp b o (fun hb => absurd (Heap.lt_size eb) (by rw [List.mem_singleton.mp hb]; exact Nat.lt_irrefl _)) (Heap.get?_push_of_some _ eb)
end
noncomputable def rInt1:List V -> Hp -> VK -> Prop := fun xs H Q => (∃ i,xs = [.int i] ∧ Q (.int i) H) ∨ ∃ k,xs = [.bl k] ∧ Q (.int (if k then 1 else 0)) H
theorem run_ints {K:PySem.W.Frag} {σ:L2.St} {H:Hp} {l:Addr} {bs:List Bool} {i0 n:Nat} {Q:VK} (hσ:σ[i0]? = some (some (.ref l))) (hn:σ.length = n) (hl:H l = some (.lst (bs.map V.bl))) (hlen:bs.length ≤ 100)
  (hQ:∀ l' H',Same H H' -> H' l' = some (.lst (bs.map fun b => V.int (if b then 1 else 0))) -> Q (.ref l') H'):tComp (iList K (tVar i0)) 1 (gName n) tYes (tCB rInt1 (tCons (tVar n) tNil)) σ H Q:= by
 refine ⟨.ref l,hσ,l,rfl,⟨_,.inl (.inl hl)⟩,fun l' hl' => ?_⟩
 have ne:l ≠ l' := fun e => by rw [e,hl'] at hl; cases hl
 refine ⟨fun i m acc H' => m = bs.length - i ∧ i ≤ bs.length ∧ acc = (bs.take i).map (fun b => V.int (if b then 1 else 0)) ∧ H' = upd H l' (.lst acc),⟨bs.length,rfl,Nat.zero_le _,rfl,rfl⟩,?_⟩
 rintro i m acc H' ⟨rfl,hi,rfl,rfl⟩
 have hu:upd H l' (.lst ((bs.take i).map fun b => V.int (if b then 1 else 0))) l = some (.lst (bs.map V.bl)) := by rw [upd_ne ne]; exact hl
 refine ⟨upd_same,?_⟩
 by_cases hlt:i < bs.length
 ·refine .inr ⟨⟨_,.bl bs[i],.inl (.inl hu),by simp [hlt]⟩,?_⟩
  rintro x H'' ⟨rfl,hx⟩
  have hx := hx _ (.inl (.inl hu))
  rw [List.getElem?_map,List.getElem?_eq_getElem hlt] at hx
  cases hx
  have hs:(σ ++ List.replicate 1 (none:Option V)).set n (some (.bl bs[i])) = σ ++ [some (.bl bs[i])]:= by
   subst hn
   rw [List.set_append_right _ _ (Nat.le_refl _),Nat.sub_self]
   rfl
  show List.take σ.length ((σ ++ List.replicate 1 (none:Option V)).set n (some (.bl bs[i]))) = σ ∧ _
  refine ⟨by rw [hs,List.take_left'] <;> rfl,?_⟩
  unfold tYes
  dsimp only
  rw [if_pos rfl]
  refine ⟨.bl bs[i],by rw [hs]; subst hn; simp,.inr ⟨bs[i],rfl,upd_same,?_,bs.length - (i + 1),by omega,rfl,hlt,?_,?_⟩⟩
  ·rw [List.length_map,List.length_take]
   exact Nat.lt_of_le_of_lt (Nat.min_le_right _ _) (Nat.lt_of_le_of_lt hlen (by decide))
  ·rw [List.take_succ_eq_append_getElem hlt,List.map_append]
   rfl
  ·rw [upd_upd]
 ·have:i = bs.length := by omega
  subst this
  refine .inl ⟨⟨_,.inl (.inl hu),by simp⟩,hQ l' _ (fun b o e => ?_) ?_⟩
  ·rw [upd_ne (fun z => by rw [z,hl'] at e; cases e)]; exact e
  ·rw [upd_same,List.take_length]
end Jt
namespace Jt
open PySem L2 PySem.Spec PyProof.Rows
noncomputable def Itv (K:PySem.W.Frag) (a:Addr) (n:Nat):It :=
 ⟨fun i H => i < n ∧ ∃ xs,SqL K H a xs ∧ xs.length = n,fun i H x H' => H' = H ∧ ∀ xs,SqL K H a xs -> xs[n - 1 - i]? = some x,fun i _ => i = n⟩
theorem turn_rev {P:Program} {w:World} {K:PySem.W.Frag} {tg:Expr} (a it:Addr) (n:Nat):Turn P w K tg (Itv K a n) [it] it (fun i h => i ≤ n ∧ h.IsRevIter it a ((n:Int) - 1 - (i:Int))) where
 mem := by simp
 obj := fun i h st b hb => by
  have e:b = it := by simpa using hb
  subst e
  obtain ⟨o,e,c,d⟩ := st.2
  exact ⟨o,e,fun v z => by rw [d] at z; cases z⟩
 keep := fun i h h' st k => ⟨st.1,st.2.at fun o e => k it (by simp) o e⟩
 item:= by
  intro X hP hw hK hc i pins s σ H E I hf st hg
  subst hP hw hK
  obtain ⟨hi,xs,hq,hn⟩ := hg
  obtain ⟨its,rv,p,hz⟩ := I.list hq
  have hj:n - 1 - i < xs.length := by omega
  obtain ⟨u,hu,ru⟩ := rv.get (List.getElem?_eq_getElem hj)
  obtain ⟨f0,f1,f2,f3,f4,f5⟩ := hf it (by simp)
  have e1:(n:Int) - 1 - (i:Int) = ((n - 1 - i:Nat):Int) := by omega
  have hit := st.2
  rw [e1] at hit
  refine wpAny_pyNext_rev_item hit p.isList (x := u) (by simpa using hu) fun h' st' sb => ?_
  have e2:((n - 1 - i:Nat):Int) - 1 = (n:Int) - 1 - ((i + 1:Nat):Int) := by omega
  rw [e2] at st'
  have I1:L2.Inv X pins σ H { s with heap := h' } := I.turned (t' := s.toks) (fun b o hb e => (sb.2 b hb).trans e) f0 f1 f3 f4 f5
  obtain ⟨o,e,c,d⟩ := id st'
  exact ⟨u,rfl,go_of (s := { s with heap := h' }) e c d (by decide) ⟨xs[n - 1 - i],H,I1,ru,⟨rfl,fun ys hy => by rw [I.list_inj hy hq]; exact List.getElem?_eq_getElem hj⟩,⟨hi,st'⟩,fun b hb => (hf b hb).1⟩⟩
 done:= by
  intro X hP hw hK hc i pins s σ H E I hf st hg
  subst hP hw hK
  have hg:i = n := hg
  subst hg
  obtain ⟨f0,f1,f2,f3,f4,f5⟩ := hf it (by simp)
  have hit := st.2
  rw [show (i:Int) - 1 - (i:Int) = -1 by omega] at hit
  exact wpAny_pyNext_rev_end (I.ok.hd hc) hit fun h' eb => ⟨rfl,I.turned (t' := s.toks) (fun b o hb e => eb b o hb e) f0 f1 f3 f4 f5⟩
 self := fun _ _ _ _ _ st h => wpAny_pyIter_revIter st.2 h
section
variable {X:Cx} {tg l:Expr} {tl:TE} {p pos:Pos} {fa:M D}
theorem pi_rev {ta:TA} (hm:X.mg "reversed" = none) (ha:PA X [l] ta) (hg:Gl X "reversed") (he:starEach [l] X.env = [(false,eval l X.env)]) :
  PI X tg (.Call (.Name "reversed" p) [l] [] pos) (fun σ H R => ta σ H fun vs H1 => ∃ a xs,vs = [.ref a] ∧ SqL X.K H1 a xs ∧ R (Itv X.K a xs.length) H1):= by
 intro pins s σ H R I h
 refine Call_ (ld_blt I hg hm boot_reversed (callWith_type1 (thn (ha pos pins s σ H _ I h) fun us s1 ⟨vs,H1,I1,r1,q1⟩ => ?_) he rfl))
 ·obtain ⟨a,xs,rfl,hq,q⟩ := q1
  obtain ⟨u,rfl,ru⟩ := r1.one
  cases ru
  obtain ⟨its,rv,p,hz⟩ := I1.list hq
  refine call_reversed_list p.isList ?_
  have hn:its.toArray.size = xs.length := by simp [rv.length]
  rw [hn]
  have st0:Heap.IsRevIter (s1.heap.push (revObj a ((xs.length:Int) - 1))) s1.heap.objs.size a ((xs.length:Int) - 1 - ((0:Nat):Int)) := ⟨_,Heap.get?_push_size _ rfl,rfl,by simp [revObj]⟩
  refine wpAny_pyIter_revIter (s := { s1 with heap := s1.heap.push (revObj a ((xs.length:Int) - 1)) }) st0 ?_
  refine ⟨s1.heap.objs.size,[s1.heap.objs.size],_,_,H1,rfl,I1.kept (t' := s1.toks) fun b o e => Heap.get?_push_of_some _ e,turn_rev a _ xs.length,⟨Nat.zero_le _,st0⟩,fun b hb => ?_,q⟩
  have e:b = s1.heap.objs.size := by simpa using hb
  subst e
  exact I1.fpOk (Nat.le_refl _) (I1.hok.fresh (Nat.le_refl _))
theorem itd_rev {K:PySem.W.Frag} {a:Addr} {ds:List D}:ItD (Itv K a ds.length) (itsOf ds.reverse) [.lst ds] [.ref a] := fun c δ S σ T H i s => by
 obtain ⟨p,vs,e,h1,h2⟩ := s.st.head.lst
 cases e
 have hq:SqL K H a vs := .inl (Rd.mono hid_le h1)
 refine ⟨fun act d ha hd => ?_,fun e _ => by show i = ds.length; rw [e]; simp [itsOf]⟩
 have hg := itsOf_get ha hd
 have hi:i < ds.length := by have := (List.getElem?_eq_some_iff.mp hg).1; simpa using this
 rw [List.getElem?_reverse hi] at hg
 obtain ⟨v,hv,r⟩ := h2.get hg
 refine ⟨⟨hi,vs,hq,h2.length⟩,fun x H' y => ?_⟩
 obtain ⟨rfl,y⟩ := y
 have := y vs hq
 rw [hv] at this; cases this
 exact s.stk (.cons r s.st)
noncomputable def revIts:List D -> Option Its
 | [.lst ds] => some (itsOf ds.reverse)
 | _ => none
theorem di_rev {fs:M (List D)} (hm:X.mg "reversed" = none) (ha:DA X [l] fs) (hg:Gl X "reversed" := by rfl) (he:starEach [l] X.env = [(false,eval l X.env)] := by rfl):DI X tg (.Call (.Name "reversed" p) [l] [] pos) (mC revIts fs) :=
 piOf (pi_rev hm ha hg he) fun σ H R h => by
  obtain ⟨c,δ,S,T,it,δ',s,e,k⟩ := h
  obtain ⟨ds,δ1,e1,e⟩ := bind_some e
  obtain ⟨e2,rfl⟩ := lift_some e
  refine ⟨c,δ,S,T,ds,δ1,s,e1,fun vs H' l s' => ?_⟩
  unfold revIts at e2
  split at e2
  ·rename_i ds
   cases e2
   obtain ⟨v,rfl,r⟩ := rs1 (s'.st.left l)
   obtain ⟨p,vs,rfl,h1,h2⟩ := r.lst
   refine ⟨p,vs,rfl,.inl (Rd.mono hid_le h1),?_⟩
   rw [h2.length]
   exact k _ [.lst ds] [.ref p] H' rfl itd_rev s'
  ·cases e2
end
end Jt
namespace Jt
open PySem L2
theorem fnNoneX {P:Program} {w:World} {K:PySem.W.Frag} {mg:Str -> Option Value} {base:Heap} {f:Addr} {fd:FuncData} {ps:List Str} {k n:Nat}:FnOk P w K mg base (CXr P w) k f fd ps (spX n fun _ => none):= by
 have no:∀ vs H Q E,¬ spX n (fun _ => none) vs H Q E := fun vs H Q E h => by
  obtain ⟨_,_,_,_,_,_,e,_⟩ := h
  cases e
 exact ⟨fun vs H Q E h => absurd h (no vs H Q E),fun A outer s H args us vs Q E _ _ _ _ h => absurd h (no vs H Q E)⟩
end Jt
namespace K72
open PySem L2 Jt
noncomputable def top (i:Nat):Stmt := PySem.Challenge.pw_jointrees_k72_deeds_up_and_down.main.body.getD i (.Pass ⟨0,0,0,0⟩)
section
variable {P:Program} {w:World} {K:PySem.W.Frag} {mg:Str -> Option Value} {base:Heap}
noncomputable abbrev s_q22:Stmt := top 15
noncomputable abbrev n_q22:List Str := ["things","wanted"]
theorem sc_q22:FnScope n_q22 ["things","wanted"] (defScope s_q22) := ⟨rfl,rfl,rfl,by decide +kernel,rfl,by decide +kernel,by decide +kernel⟩
noncomputable def b_q22:M Fl :=
 (do let d <- (mC dAll (mCons (do let xs <- (mComp 2 1 (do let x <- (getS 1); lift (seqIts x)) (turnC (setP 2) (pure true) (m2 (dIn false) (getS 2) (getS 0)))); pure (D.lst xs)) (pure []))); pure (Fl.rt d))
theorem ok_q22 {k:Nat} {f:Addr} {fd:FuncData} (F:Fun K "has_all" "has_all" s_q22 f fd) (m_all:mg "all" = none) :
  FnOk P w K mg base CX0 (k + 1) f fd ["things","wanted"] (spP 2 (runP n_q22 b_q22)) :=
 fnP F sc_q22 fun cdv A outer s H E hr =>
  (dss_one (ds_ret (de_all m_all (da_cons (de_ofF (df_comp (N' := n_q22) (own := ["one"]) (lo := 2) (dc_of (di_seq (de_var 1))) (fun _ _ _ _ => (dg_name 2 (show (n_q22 ++ (["one"]:List Str):List Str).Nodup by decide +kernel))) (fun _ _ _ _ => dts_nil) (fun _ _ _ _ => (de_in (de_var 2) (de_var 0))))) da_nil))))
noncomputable abbrev s_q5:Stmt := top 17
noncomputable abbrev n_q5:List Str := ["layout"]
theorem sc_q5:FnScope n_q5 ["layout"] (defScope s_q5) := ⟨rfl,rfl,rfl,by decide +kernel,rfl,by decide +kernel,by decide +kernel⟩
noncomputable def b_q5:M Fl :=
 (do let d <- (do let xs <- mC dRng (mCons (mC dLen (mCons (m2 dIx (getS 0) (pure (.int 1))) (pure []))) (pure [])); pure (D.tup xs)); pure (Fl.rt d))
theorem ok_q5 {k:Nat} {f:Addr} {fd:FuncData} (F:Fun K "all_numbers" "all_numbers" s_q5 f fd) (m_len:mg "len" = none) (m_range:mg "range" = none) (m_tuple:mg "tuple" = none) :
  FnOk P w K mg base CX0 (k + 1) f fd ["layout"] (spP 1 (runP n_q5 b_q5)) :=
 fnP F sc_q5 fun cdv A outer s H E hr =>
  (dss_one (ds_ret (de_tupleR m_tuple m_range (da_cons (de_len m_len (da_cons (de_item (de_var 0) de_int) da_nil)) da_nil))))
noncomputable abbrev s_q16:Stmt := top 18
noncomputable abbrev n_q16:List Str := ["layout","left","number","heads","others"]
theorem sc_q16:FnScope n_q16 ["layout","left","number"] (defScope s_q16) := ⟨rfl,rfl,rfl,by decide +kernel,rfl,by decide +kernel,by decide +kernel⟩
noncomputable def b_q16:M Fl :=
 (mSeq (stP 3 (m2 dIx (getS 0) (pure (.int 1))))
  (mSeq (stP 4 (do let xs <- (mComp 5 1 (do let x <- (getS 1); lift (seqIts x)) (turnC (setP 5) ((m2 (dEq true) (getS 5) (getS 2)) >>= asB) (m2 dIx (getS 3) (getS 5)))); pure (D.lst xs)))
  (do let d <- (mC dTuple (mCons (do let xs <- (mComp 5 1 (do let x <- (m2 dIx (getS 3) (getS 2)); lift (seqIts x)) (turnC (setP 5) (do let x <- (mC dAny (mCons (do let xs <- (mComp 6 1 (do let x <- (getS 4); lift (seqIts x)) (turnC (setP 6) (pure true) (m2 (dIn false) (getS 5) (getS 6)))); pure (D.lst xs)) (pure []))); lift (truD x)) (getS 5))); pure (D.lst xs)) (pure []))); pure (Fl.rt d))))
theorem ok_q16 {k:Nat} {f:Addr} {fd:FuncData} (F:Fun K "shared_by" "shared_by" s_q16 f fd) (m_any:mg "any" = none) (m_tuple:mg "tuple" = none) :
  FnOk P w K mg base CX0 (k + 1) f fd ["layout","left","number"] (spP 3 (runP n_q16 b_q16)) :=
 fnP F sc_q16 fun cdv A outer s H E hr =>
  (dss_cons (ds_set 3 sc_q16.nd (de_item (de_var 0) de_int))
  (dss_cons (ds_set 4 sc_q16.nd (de_ofF (df_comp (N' := n_q16) (own := ["other"]) (lo := 5) (dc_of (di_seq (de_var 1))) (fun _ _ _ _ => (dg_name 5 (show (n_q16 ++ (["other"]:List Str):List Str).Nodup by decide +kernel))) (fun _ _ _ _ => dts_one (dt_ne hr (de_var 5) (de_var 2))) (fun _ _ _ _ => (de_item (de_var 3) (de_var 5))))))
  (dss_one (ds_ret (de_tuple m_tuple (da_cons (de_ofF (df_comp (N' := n_q16) (own := ["column"]) (lo := 5) (dc_of (di_seq (de_item (de_var 3) (de_var 2)))) (fun _ _ _ _ => (dg_name 5 (show (n_q16 ++ (["column"]:List Str):List Str).Nodup by decide +kernel))) (fun _ _ _ _ => dts_one (dt_truth (de_any m_any (da_cons (de_ofF (df_comp (N' := (n_q16 ++ (["column"]:List Str))) (own := ["head"]) (lo := 6) (dc_of (di_seq (de_var 4))) (fun _ _ _ _ => (dg_name 6 (show ((n_q16 ++ (["column"]:List Str)) ++ (["head"]:List Str):List Str).Nodup by decide +kernel))) (fun _ _ _ _ => dts_nil) (fun _ _ _ _ => (de_in (de_var 5) (de_var 6))))) da_nil)))) (fun _ _ _ _ => (de_var 5)))) da_nil))))))
noncomputable abbrev s_q6:Stmt := top 19
noncomputable abbrev n_q6:List Str := ["layout","left","number","heads","shared"]
theorem sc_q6:FnScope n_q6 ["layout","left","number"] (defScope s_q6) := ⟨rfl,rfl,rfl,by decide +kernel,rfl,by decide +kernel,by decide +kernel⟩
noncomputable def b_q6:M Fl :=
 (mSeq (stP 3 (m2 dIx (getS 0) (pure (.int 1))))
  (mSeq (stP 4 (mC (callD 3 (runP n_q16 b_q16)) (mCons (getS 0) (mCons (getS 1) (mCons (getS 2) (pure []))))))
  (do let d <- (mComp 5 1 (do let x <- (getS 1); lift (seqIts x)) (turnC (setP 5) (mAnd ((m2 (dEq true) (getS 5) (getS 2)) >>= asB) (do let x <- (mC (callD 2 (runP n_q22 b_q22)) (mCons (m2 dIx (getS 3) (getS 5)) (mCons (getS 4) (pure [])))); lift (truD x))) (getS 5))); pure (Fl.rf d))))
theorem ok_q6 {k:Nat} {f:Addr} {fd:FuncData} {a_q22:Addr} {d_q22:FuncData} {a_q16:Addr} {d_q16:FuncData} (F:Fun K "holders_of" "holders_of" s_q6 f fd)
  (G_q22:FnOk P w K mg base CX0 k a_q22 d_q22 ["things","wanted"] (spP 2 (runP n_q22 b_q22))) (M_q22:mg "has_all" = some (.ref a_q22)) (K_q22:PySem.W.keepIn K (.ref a_q22) = true) (B_q22:Binds K d_q22 ["things","wanted"] [])
  (G_q16:FnOk P w K mg base CX0 k a_q16 d_q16 ["layout","left","number"] (spP 3 (runP n_q16 b_q16))) (M_q16:mg "shared_by" = some (.ref a_q16)) (K_q16:PySem.W.keepIn K (.ref a_q16) = true) (B_q16:Binds K d_q16 ["layout","left","number"] []) :
  FnOk P w K mg base CX0 (k + 1) f fd ["layout","left","number"] (spF 3 (runF n_q6 b_q6)) :=
 fnF F sc_q6 fun cdv A outer s H E hr =>
  (dss_cons (ds_set 3 sc_q6.nd (de_item (de_var 0) de_int))
  (dss_cons (ds_set 4 sc_q6.nd (de_call G_q16 hr M_q16 K_q16 B_q16 (da_cons (de_var 0) (da_cons (de_var 1) (da_cons (de_var 2) da_nil)))))
  (dss_one (ds_retF (df_comp (N' := n_q6) (own := ["other"]) (lo := 5) (dc_of (di_seq (de_var 1))) (fun _ _ _ _ => (dg_name 5 (show (n_q6 ++ (["other"]:List Str):List Str).Nodup by decide +kernel))) (fun _ _ _ _ => dts_one (dt_w (dw_and (dt_ne hr (de_var 5) (de_var 2)) (dw_and1 (dt_truth (de_call G_q22 hr M_q22 K_q22 B_q22 (da_cons (de_item (de_var 3) (de_var 5)) (da_cons (de_var 4) da_nil)))))))) (fun _ _ _ _ => (de_var 5)))))))
noncomputable abbrev s_q10:Stmt := top 20
noncomputable abbrev n_q10:List Str := ["layout","left","found","number","holders"]
theorem sc_q10:FnScope n_q10 ["layout","left"] (defScope s_q10) := ⟨rfl,rfl,rfl,by decide +kernel,rfl,by decide +kernel,by decide +kernel⟩
noncomputable def b_q10:M Fl :=
 (mSeq (stO 2 (mLst (pure [])))
  (mSeq (do let it <- (do let x <- (getS 1); lift (seqIts x)); forM (setP 3) (mSeq (stP 4 (do let xs <- (mC (callD 3 (runF n_q6 b_q6)) (mCons (getS 0) (mCons (getS 1) (mCons (getS 3) (pure []))))); pure (D.lst xs)))
  (mIf (do let x <- (getS 4); lift (truD x)) (mAppend 2 (mCons (mTup (mCons (getS 3) (mCons (m2 dIx (getS 4) (pure (.int 0))) (pure [])))) (pure []))) (pure .nx))) it.2 it.1)
  (do let d <- (takeO 2); pure (Fl.rf d))))
theorem ok_q10 {k:Nat} {f:Addr} {fd:FuncData} {a_q6:Addr} {d_q6:FuncData} (F:Fun K "ears_among" "ears_among" s_q10 f fd)
  (G_q6:FnOk P w K mg base CX0 k a_q6 d_q6 ["layout","left","number"] (spF 3 (runF n_q6 b_q6))) (M_q6:mg "holders_of" = some (.ref a_q6)) (K_q6:PySem.W.keepIn K (.ref a_q6) = true) (B_q6:Binds K d_q6 ["layout","left","number"] []) :
  FnOk P w K mg base CX0 (k + 1) f fd ["layout","left"] (spF 2 (runF n_q10 b_q10)) :=
 fnF F sc_q10 fun cdv A outer s H E hr =>
  (dss_cons (ds_setF 2 sc_q10.nd (df_lst da_nil))
  (dss_cons (ds_for (di_seq (de_var 1)) (dg_name 3 sc_q10.nd) (dss_cons (ds_set 4 sc_q10.nd (de_ofF (df_call G_q6 hr M_q6 K_q6 B_q6 (da_cons (de_var 0) (da_cons (de_var 1) (da_cons (de_var 3) da_nil))))))
  (dss_one (ds_if (dt_truth (de_var 4)) (dss_one (ds_append 2 (da_cons (de_tup (da_cons (de_var 3) (da_cons (de_item (de_var 4) de_int) da_nil))) da_nil))) dss_nil))))
  (dss_one (ds_retF (df_own 2)))))
noncomputable abbrev s_q21:Stmt := top 21
noncomputable abbrev n_q21:List Str := ["left","gone"]
theorem sc_q21:FnScope n_q21 ["left","gone"] (defScope s_q21) := ⟨rfl,rfl,rfl,by decide +kernel,rfl,by decide +kernel,by decide +kernel⟩
noncomputable def b_q21:M Fl :=
 (do let d <- (mC dTuple (mCons (do let xs <- (mComp 2 1 (do let x <- (getS 0); lift (seqIts x)) (turnC (setP 2) ((m2 (dEq true) (getS 2) (getS 1)) >>= asB) (getS 2))); pure (D.lst xs)) (pure []))); pure (Fl.rt d))
theorem ok_q21 {k:Nat} {f:Addr} {fd:FuncData} (F:Fun K "all_but" "all_but" s_q21 f fd) (m_tuple:mg "tuple" = none) :
  FnOk P w K mg base CX0 (k + 1) f fd ["left","gone"] (spP 2 (runP n_q21 b_q21)) :=
 fnP F sc_q21 fun cdv A outer s H E hr =>
  (dss_one (ds_ret (de_tuple m_tuple (da_cons (de_ofF (df_comp (N' := n_q21) (own := ["number"]) (lo := 2) (dc_of (di_seq (de_var 0))) (fun _ _ _ _ => (dg_name 2 (show (n_q21 ++ (["number"]:List Str):List Str).Nodup by decide +kernel))) (fun _ _ _ _ => dts_one (dt_ne hr (de_var 2) (de_var 1))) (fun _ _ _ _ => (de_var 2)))) da_nil))))
noncomputable abbrev s_q12:Stmt := top 22
noncomputable abbrev n_q12:List Str := ["layout","left","steps","found"]
theorem sc_q12:FnScope n_q12 ["layout"] (defScope s_q12) := ⟨rfl,rfl,rfl,by decide +kernel,rfl,by decide +kernel,by decide +kernel⟩
noncomputable def b_q12:M Fl :=
 (mSeq (stP 1 (mC (callD 1 (runP n_q5 b_q5)) (mCons (getS 0) (pure []))))
  (mSeq (stO 2 (mLst (pure [])))
  (mSeq (stP 3 (do let xs <- (mC (callD 2 (runF n_q10 b_q10)) (mCons (getS 0) (mCons (getS 1) (pure [])))); pure (D.lst xs)))
  (mSeq (whM (do let x <- (getS 3); lift (truD x)) (mSeq (mAppend 2 (mCons (m2 dIx (getS 3) (pure (.int 0))) (pure [])))
  (mSeq (stP 1 (mC (callD 2 (runP n_q21 b_q21)) (mCons (getS 1) (mCons (m2 dIx (m2 dIx (getS 3) (pure (.int 0))) (pure (.int 0))) (pure [])))))
  (stP 3 (do let xs <- (mC (callD 2 (runF n_q10 b_q10)) (mCons (getS 0) (mCons (getS 1) (pure [])))); pure (D.lst xs))))) 8)
  (do let d <- (takeO 2); pure (Fl.rf d))))))
theorem ok_q12 {k:Nat} {f:Addr} {fd:FuncData} {a_q21:Addr} {d_q21:FuncData} {a_q5:Addr} {d_q5:FuncData} {a_q10:Addr} {d_q10:FuncData} (F:Fun K "steps_for" "steps_for" s_q12 f fd)
  (G_q21:FnOk P w K mg base CX0 k a_q21 d_q21 ["left","gone"] (spP 2 (runP n_q21 b_q21))) (M_q21:mg "all_but" = some (.ref a_q21)) (K_q21:PySem.W.keepIn K (.ref a_q21) = true) (B_q21:Binds K d_q21 ["left","gone"] [])
  (G_q5:FnOk P w K mg base CX0 k a_q5 d_q5 ["layout"] (spP 1 (runP n_q5 b_q5))) (M_q5:mg "all_numbers" = some (.ref a_q5)) (K_q5:PySem.W.keepIn K (.ref a_q5) = true) (B_q5:Binds K d_q5 ["layout"] [])
  (G_q10:FnOk P w K mg base CX0 k a_q10 d_q10 ["layout","left"] (spF 2 (runF n_q10 b_q10))) (M_q10:mg "ears_among" = some (.ref a_q10)) (K_q10:PySem.W.keepIn K (.ref a_q10) = true) (B_q10:Binds K d_q10 ["layout","left"] []) :
  FnOk P w K mg base CX0 (k + 1) f fd ["layout"] (spF 1 (runF n_q12 b_q12)) :=
 fnF F sc_q12 fun cdv A outer s H E hr =>
  (dss_cons (ds_set 1 sc_q12.nd (de_call G_q5 hr M_q5 K_q5 B_q5 (da_cons (de_var 0) da_nil)))
  (dss_cons (ds_setF 2 sc_q12.nd (df_lst da_nil))
  (dss_cons (ds_set 3 sc_q12.nd (de_ofF (df_call G_q10 hr M_q10 K_q10 B_q10 (da_cons (de_var 0) (da_cons (de_var 1) da_nil)))))
  (dss_cons (ds_while 8 (dt_truth (de_var 3)) (dss_cons (ds_append 2 (da_cons (de_item (de_var 3) de_int) da_nil))
  (dss_cons (ds_set 1 sc_q12.nd (de_call G_q21 hr M_q21 K_q21 B_q21 (da_cons (de_var 1) (da_cons (de_item (de_item (de_var 3) de_int) de_int) da_nil))))
  (dss_one (ds_set 3 sc_q12.nd (de_ofF (df_call G_q10 hr M_q10 K_q10 B_q10 (da_cons (de_var 0) (da_cons (de_var 1) da_nil)))))))))
  (dss_one (ds_retF (df_own 2)))))))
noncomputable abbrev s_q1:Stmt := top 24
noncomputable abbrev n_q1:List Str := ["layout","steps"]
theorem sc_q1:FnScope n_q1 ["layout"] (defScope s_q1) := ⟨rfl,rfl,rfl,by decide +kernel,rfl,by decide +kernel,by decide +kernel⟩
noncomputable def b_q1 (c_Bound:Addr):M (Fl ⊕ Addr) :=
 (seqX (okX (stP 1 (do let xs <- (mC (callD 1 (runF n_q12 b_q12)) (mCons (getS 0) (pure []))); pure (D.lst xs))))
  (seqX (mIf (m2 dLt (mC dLen (mCons (getS 1) (pure []))) (m2 dSub (mC dLen (mCons (m2 dIx (getS 0) (pure (.int 1))) (pure []))) (pure (.int 1))) >>= asB) (seqX (raiseX c_Bound (mCons (pure (.str "the layout has no join tree")) (pure []))) (pure (.inl .nx))) (pure (.inl .nx)))
  (seqX (okX (do let d <- (getS 1); pure (Fl.rt d))) (pure (.inl .nx)))))
theorem ok_q1 {k:Nat} {f:Addr} {fd:FuncData} {c_Bound:Addr} {a_q12:Addr} {d_q12:FuncData} (F:Fun K "steps_to_one" "steps_to_one" s_q1 f fd) (m_len:mg "len" = none) (x_Bound:mg "Bound" = some (.ref c_Bound)) (q_Bound:PySem.W.excIn K c_Bound [.type "ValueError",.type "Exception",.type "BaseException",.type "object"] "ValueError.__new__" = true)
  (G_q12:FnOk P w K mg base CX0 k a_q12 d_q12 ["layout"] (spF 1 (runF n_q12 b_q12))) (M_q12:mg "steps_for" = some (.ref a_q12)) (K_q12:PySem.W.keepIn K (.ref a_q12) = true) (B_q12:Binds K d_q12 ["layout"] []) :
  FnOk P w K mg base (CXr P w) (k + 1) f fd ["layout"] (spX 1 (runX n_q1 (b_q1 c_Bound))) :=
 fnX F sc_q1 fun cdv A outer s H E hr =>
  (dssx_cons (dsx_of (ds_set 1 sc_q1.nd (de_ofF (df_call G_q12 hr M_q12 K_q12 B_q12 (da_cons (de_var 0) da_nil)))))
  (dssx_cons (dsx_if (dt_lt (de_len m_len (da_cons (de_var 1) da_nil)) (de_sub (de_len m_len (da_cons (de_item (de_var 0) de_int) da_nil)) de_int)) (dssx_one (dsx_raise PySem.F.excBase_ValueError x_Bound q_Bound (da_cons de_str da_nil))) dssx_nil)
  (dssx_one (dsx_of (ds_ret (de_var 1))))))
noncomputable abbrev s_q20:Stmt := top 25
noncomputable abbrev n_q20:List Str := ["steps"]
theorem sc_q20:FnScope n_q20 ["steps"] (defScope s_q20) := ⟨rfl,rfl,rfl,by decide +kernel,rfl,by decide +kernel,by decide +kernel⟩
noncomputable def b_q20:M Fl :=
 (do let d <- (m2H gCat (do let x <- (do let xs <- (mComp 1 2 (do let x <- (getS 0); lift (seqIts x)) (turnC (gTupM 2 (gsCons (setP 1) (gsCons (setP 2) gsNil))) (pure true) (mTup (mCons (getS 2) (mCons (getS 1) (pure [])))))); pure (D.lst xs)); pure (Hn.th x)) (do let x <- (do let xs <- (mComp 1 2 (mC revIts (mCons (getS 0) (pure []))) (turnC (gTupM 2 (gsCons (setP 1) (gsCons (setP 2) gsNil))) (pure true) (mTup (mCons (getS 1) (mCons (getS 2) (pure [])))))); pure (D.lst xs)); pure (Hn.th x))); pure (Fl.rf d))
theorem ok_q20 {k:Nat} {f:Addr} {fd:FuncData} (F:Fun K "deeds_by" "deeds_by" s_q20 f fd) (m_reversed:mg "reversed" = none) :
  FnOk P w K mg base CX0 (k + 1) f fd ["steps"] (spF 1 (runF n_q20 b_q20)) :=
 fnF F sc_q20 fun cdv A outer s H E hr =>
  (dss_one (ds_retF (df_cat (dh_of (de_ofF (df_comp (N' := n_q20) (own := ["ear","holder"]) (lo := 1) (dc_of (di_seq (de_var 0))) (fun _ _ _ _ => (dg_tup (dgs_cons (dg_name 1 (show (n_q20 ++ (["ear","holder"]:List Str):List Str).Nodup by decide +kernel)) (dgs_cons (dg_name 2 (show (n_q20 ++ (["ear","holder"]:List Str):List Str).Nodup by decide +kernel)) dgs_nil)))) (fun _ _ _ _ => dts_nil) (fun _ _ _ _ => (de_tup (da_cons (de_var 2) (da_cons (de_var 1) da_nil))))))) (dh_of (de_ofF (df_comp (N' := n_q20) (own := ["ear","holder"]) (lo := 1) (dc_of (di_rev m_reversed (da_cons (de_var 0) da_nil))) (fun _ _ _ _ => (dg_tup (dgs_cons (dg_name 1 (show (n_q20 ++ (["ear","holder"]:List Str):List Str).Nodup by decide +kernel)) (dgs_cons (dg_name 2 (show (n_q20 ++ (["ear","holder"]:List Str):List Str).Nodup by decide +kernel)) dgs_nil)))) (fun _ _ _ _ => dts_nil) (fun _ _ _ _ => (de_tup (da_cons (de_var 1) (da_cons (de_var 2) da_nil))))))))))
noncomputable abbrev s_q18:Stmt := top 26
noncomputable abbrev n_q18:List Str := ["layout"]
theorem sc_q18:FnScope n_q18 ["layout"] (defScope s_q18) := ⟨rfl,rfl,rfl,by decide +kernel,rfl,by decide +kernel,by decide +kernel⟩
noncomputable def b_q18 (c_Bound:Addr):M (Fl ⊕ Addr) :=
 (seqX (bX (bX (consX (bX (consX (okX (getS 0)) (pure (.inl []))) fun ds => lift (if ds.length = 1 then (runX n_q1 (b_q1 c_Bound)) ds else none)) (pure (.inl []))) fun ds => lift (if ds.length = 1 then (fun _ => none) ds else none)) fun d => pure (.inl (.rt d))) (pure (.inl .nx)))
theorem ok_q18 {k:Nat} {f:Addr} {fd:FuncData} {c_Bound:Addr} {a_q1:Addr} {d_q1:FuncData} {a_q20:Addr} {d_q20:FuncData} (F:Fun K "deeds_for" "deeds_for" s_q18 f fd)
  (G_q1:FnOk P w K mg base (CXr P w) k a_q1 d_q1 ["layout"] (spX 1 (runX n_q1 (b_q1 c_Bound)))) (M_q1:mg "steps_to_one" = some (.ref a_q1)) (K_q1:PySem.W.keepIn K (.ref a_q1) = true) (B_q1:Binds K d_q1 ["layout"] [])
  (M_q20:mg "deeds_by" = some (.ref a_q20)) (K_q20:PySem.W.keepIn K (.ref a_q20) = true) (B_q20:Binds K d_q20 ["steps"] []) :
  FnOk P w K mg base (CXr P w) (k + 1) f fd ["layout"] (spX 1 (runX n_q18 (b_q18 c_Bound))) :=
 fnX F sc_q18 fun cdv A outer s H E hr =>
  (dssx_one (dsx_ret (dex_call (kk := k) (mf := fun _ => none) fnNoneX hr M_q20 K_q20 B_q20 (dax_cons (dex_call G_q1 hr M_q1 K_q1 B_q1 (dax_cons (dex_of (de_var 0)) dax_nil)) dax_nil))))
noncomputable abbrev s_q14:Stmt := top 28
noncomputable abbrev n_q14:List Str := ["_law_script","_law_k"]
theorem sc_q14:FnScope n_q14 ["_law_script","_law_k"] (defScope s_q14) := ⟨rfl,rfl,rfl,by decide +kernel,rfl,by decide +kernel,by decide +kernel⟩
noncomputable def b_q14:M Fl :=
 (mSeq (mIf (m2 dLt (getS 1) (mC dLen (mCons (getS 0) (pure []))) >>= asB) (do let d <- (m2 dIx (getS 0) (getS 1)); pure (Fl.rt d)) (pure .nx))
  (do let d <- (m2 dAdd (m2 dMul (pure (.int 6151)) (getS 1)) (pure (.int 29))); pure (Fl.rt d)))
theorem ok_q14 {k:Nat} {f:Addr} {fd:FuncData} (F:Fun K "_law_cell" "_law_cell" s_q14 f fd) (m_len:mg "len" = none) :
  FnOk P w K mg base CX0 (k + 1) f fd ["_law_script","_law_k"] (spP 2 (runP n_q14 b_q14)) :=
 fnP F sc_q14 fun cdv A outer s H E hr =>
  (dss_cons (ds_if (dt_lt (de_var 1) (de_len m_len (da_cons (de_var 0) da_nil))) (dss_one (ds_ret (de_item (de_var 0) (de_var 1)))) dss_nil)
  (dss_one (ds_ret (de_add (de_mul de_int (de_var 1)) de_int))))
noncomputable abbrev s_q19:Stmt := top 29
noncomputable abbrev n_q19:List Str := ["_law_script","_law_k","_law_cell_here","_law_number","_law_mixed","_law_j"]
theorem sc_q19:FnScope n_q19 ["_law_script","_law_k"] (defScope s_q19) := ⟨rfl,rfl,rfl,by decide +kernel,rfl,by decide +kernel,by decide +kernel⟩
noncomputable def b_q19:M Fl :=
 (mSeq (stP 2 (mC (callD 2 (runP n_q14 b_q14)) (mCons (getS 0) (mCons (getS 1) (pure [])))))
  (mSeq (mIf (m2 (dEqF false) (m2 dMod (getS 2) (pure (.int 2))) (pure (.int 0)) >>= asB) (do let d <- (mLst (mCons (m2 dDiv (getS 2) (pure (.int 2))) (pure []))); pure (Fl.rf d)) (pure .nx))
  (mSeq (stP 3 (pure (.int 0)))
  (mSeq (stP 4 (m2 dMod (getS 2) (pure (.int 2147483647))))
  (mSeq (do let it <- (mC rng1 (mCons (pure (.int 24)) (pure []))); forM (setP 5) (mSeq (stP 4 (m2 dMod (m2 dAdd (m2 dAdd (m2 dAdd (m2 dMul (getS 4) (pure (.int 48271))) (m2 dMul (m2 dMul (pure (.int 7)) (getS 5)) (getS 5))) (m2 dMul (pure (.int 11)) (getS 1))) (pure (.int 1))) (pure (.int 2147483647))))
  (stP 3 (m2 dAdd (m2 dMul (getS 3) (pure (.int 2147483647))) (getS 4)))) it.2 it.1)
  (do let d <- (mLst (mCons (getS 3) (pure []))); pure (Fl.rf d)))))))
theorem ok_q19 {k:Nat} {f:Addr} {fd:FuncData} {a_q14:Addr} {d_q14:FuncData} (F:Fun K "_law_box" "_law_box" s_q19 f fd) (m_range:mg "range" = none)
  (G_q14:FnOk P w K mg base CX0 k a_q14 d_q14 ["_law_script","_law_k"] (spP 2 (runP n_q14 b_q14))) (M_q14:mg "_law_cell" = some (.ref a_q14)) (K_q14:PySem.W.keepIn K (.ref a_q14) = true) (B_q14:Binds K d_q14 ["_law_script","_law_k"] []) :
  FnOk P w K mg base CX0 (k + 1) f fd ["_law_script","_law_k"] (spF 2 (runF n_q19 b_q19)) :=
 fnF F sc_q19 fun cdv A outer s H E hr =>
  (dss_cons (ds_set 2 sc_q19.nd (de_call G_q14 hr M_q14 K_q14 B_q14 (da_cons (de_var 0) (da_cons (de_var 1) da_nil))))
  (dss_cons (ds_if (dt_eqF (de_mod (de_var 2) de_int) de_int) (dss_one (ds_retF (df_lst (da_cons (de_div (de_var 2) de_int) da_nil)))) dss_nil)
  (dss_cons (ds_set 3 sc_q19.nd de_int)
  (dss_cons (ds_set 4 sc_q19.nd (de_mod (de_var 2) de_int))
  (dss_cons (ds_for (di_range1 rfl m_range (da_cons de_int da_nil)) (dg_name 5 sc_q19.nd) (dss_cons (ds_set 4 sc_q19.nd (de_mod (de_add (de_add (de_add (de_mul (de_var 4) de_int) (de_mul (de_mul de_int (de_var 5)) (de_var 5))) (de_mul de_int (de_var 1))) de_int) de_int))
  (dss_one (ds_set 3 sc_q19.nd (de_add (de_mul (de_var 3) de_int) (de_var 4))))))
  (dss_one (ds_retF (df_lst (da_cons (de_var 3) da_nil)))))))))
noncomputable abbrev s_q11:Stmt := top 30
noncomputable abbrev n_q11:List Str := ["_law_box_here","_law_many","_law_digit"]
theorem sc_q11:FnScope n_q11 ["_law_box_here","_law_many"] (defScope s_q11) := ⟨rfl,rfl,rfl,by decide +kernel,rfl,by decide +kernel,by decide +kernel⟩
noncomputable def b_q11:M Fl :=
 (mSeq (stP 2 (m2 dMod (mIxO 0 (pure (.int 0))) (getS 1)))
  (mSeq (mSetIx 0 (m2 dDiv (mIxO 0 (pure (.int 0))) (getS 1)) 0)
  (do let d <- (getS 2); pure (Fl.rt d))))
theorem ok_q11 {k:Nat} {f:Addr} {fd:FuncData} (F:Fun K "_law_take" "_law_take" s_q11 f fd)  :
  FnOk P w K mg base CX0 (k + 1) f fd ["_law_box_here","_law_many"] (spB 2 (runB n_q11 b_q11)) :=
 fnB F sc_q11 fun cdv A outer s H E hr =>
  (dss_cons (ds_set 2 sc_q11.nd (de_mod (de_ixO 0 de_int) (de_var 1)))
  (dss_cons (ds_setIx 0 (de_div (de_ixO 0 de_int) (de_var 1)))
  (dss_one (ds_ret (de_var 2)))))
-- _law_kind (P): no rule for isinstance(_law_e,NoTree)
noncomputable abbrev s_q15:Stmt := top 32
noncomputable abbrev n_q15:List Str := ["_law_found","_law_due"]
theorem sc_q15:FnScope n_q15 ["_law_found","_law_due"] (defScope s_q15) := ⟨rfl,rfl,rfl,by decide +kernel,rfl,by decide +kernel,by decide +kernel⟩
noncomputable def b_q15 (rec:List D -> Option D):M Fl :=
 (mSeq (mIf (do let x <- (mIsiT [.tup,.lst] (getS 1)); lift (truD x)) (mSeq (mIf (mOr (m2 (dEqF true) (mIsi .tup (getS 0)) (mIsi .tup (getS 1)) >>= asB) (m2 (dEqF true) (mIsi .lst (getS 0)) (mIsi .lst (getS 1)) >>= asB)) (do let d <- (pure (.bl false)); pure (Fl.rt d)) (pure .nx))
  (do let d <- (vAnd (m2 (dEqF false) (mC dLen (mCons (getS 0) (pure []))) (mC dLen (mCons (getS 1) (pure [])))) (mC dAll (mCons (do let xs <- (mComp 2 2 (mC zipIts (mCons (getS 0) (mCons (getS 1) (pure [])))) (turnC (gTupM 2 (gsCons (setP 2) (gsCons (setP 3) gsNil))) (pure true) (mC (callD 2 rec) (mCons (getS 2) (mCons (getS 3) (pure [])))))); pure (D.lst xs)) (pure [])))); pure (Fl.rt d))) (pure .nx))
  (do let d <- (vAnd (m2 (dEq false) (getS 0) (getS 1)) (m2 (dEqF false) (mIsi .bool (getS 0)) (mIsi .bool (getS 1)))); pure (Fl.rt d)))
noncomputable def m_q15:Nat -> List D -> Option D
 | 0 => fun _ => none
 | n + 1 => runP n_q15 (b_q15 (m_q15 n))
theorem ok_q15 {k:Nat} {f:Addr} {fd:FuncData} (F:Fun K "_law_same" "_law_same" s_q15 f fd) (m_all:mg "all" = none) (m_bool:mg "bool" = none) (m_isinstance:mg "isinstance" = none) (m_len:mg "len" = none) (m_list:mg "list" = none) (m_tuple:mg "tuple" = none) (m_zip:mg "zip" = none)
  (M_q15:mg "_law_same" = some (.ref f)) (K_q15:PySem.W.keepIn K (.ref f) = true) (B_q15:Binds K fd ["_law_found","_law_due"] []):∀ n:Nat,
  FnOk P w K mg base CX0 (k + n) f fd ["_law_found","_law_due"] (spP 2 (m_q15 n))
 | 0 => fnNoneP
 | n + 1 => by
  have G_q15 := ok_q15 (k := k) F m_all m_bool m_isinstance m_len m_list m_tuple m_zip M_q15 K_q15 B_q15 n
  exact fnP F sc_q15 fun cdv A outer s H E hr =>
  (dss_cons (ds_if (dt_truth (de_isiT m_isinstance (de_var 1) (pa_ty .tup m_tuple (pa_ty .lst m_list pa_ty0)))) (dss_cons (ds_if (dt_w (dw_or (dt_neF (de_isi .tup m_isinstance m_tuple (de_var 0)) (de_isi .tup m_isinstance m_tuple (de_var 1))) (dw_or1 (dt_neF (de_isi .lst m_isinstance m_list (de_var 0)) (de_isi .lst m_isinstance m_list (de_var 1)))))) (dss_one (ds_ret de_bl)) dss_nil)
  (dss_one (ds_ret (de_and (de_eqF (de_len m_len (da_cons (de_var 0) da_nil)) (de_len m_len (da_cons (de_var 1) da_nil))) (de_one (de_all m_all (da_cons (de_ofF (df_comp (N' := n_q15) (own := ["_law_one","_law_other"]) (lo := 2) (dc_of (di_zip m_zip (da_cons (de_var 0) (da_cons (de_var 1) da_nil)))) (fun _ _ _ _ => (dg_tup (dgs_cons (dg_name 2 (show (n_q15 ++ (["_law_one","_law_other"]:List Str):List Str).Nodup by decide +kernel)) (dgs_cons (dg_name 3 (show (n_q15 ++ (["_law_one","_law_other"]:List Str):List Str).Nodup by decide +kernel)) dgs_nil)))) (fun _ _ _ _ => dts_nil) (fun _ _ _ _ => (de_call G_q15 hr M_q15 K_q15 B_q15 (da_cons (de_var 2) (da_cons (de_var 3) da_nil)))))) da_nil))))))) dss_nil)
  (dss_one (ds_ret (de_and (de_eq hr (de_var 0) (de_var 1)) (de_one (de_eqF (de_isi .bool m_isinstance m_bool (de_var 0)) (de_isi .bool m_isinstance m_bool (de_var 1))))))))
noncomputable abbrev s_q3:Stmt := top 33
noncomputable abbrev n_q3:List Str := ["_law_box_here","_law_many","_law_way","_law_size","_law_heads","_law_turn","_law_some","_law_ahead","_law_fresh","_law_left","_law_order"]
theorem sc_q3:FnScope n_q3 ["_law_box_here"] (defScope s_q3) := ⟨rfl,rfl,rfl,by decide +kernel,rfl,by decide +kernel,by decide +kernel⟩
noncomputable def b_q3:M Fl :=
 (mSeq (stP 1 (m2 dAdd (pure (.int 1)) (do let _ <- peekO 0; mBox 0 2 (runB n_q11 b_q11) (mCons (pure (.int 7)) (pure [])))))
  (mSeq (stP 2 (do let _ <- peekO 0; mBox 0 2 (runB n_q11 b_q11) (mCons (pure (.int 6)) (pure []))))
  (mSeq (stP 3 (m2 dAdd (pure (.int 1)) (do let _ <- peekO 0; mBox 0 2 (runB n_q11 b_q11) (mCons (pure (.int 6)) (pure [])))))
  (mSeq (mIf (mAnd (m2 (dEqF false) (getS 2) (pure (.int 4)) >>= asB) (m2 dGt (getS 1) (pure (.int 2)) >>= asB)) (mSeq (stP 3 (mC dMin (mCons (getS 1) (mCons (pure (.int 6)) (pure [])))))
  (do let d <- (mTup (mCons (getS 1) (mCons (mC dTuple (mCons (do let xs <- (mComp 11 1 (mC rng1 (mCons (getS 3) (pure []))) (turnC (setP 11) (pure true) (mC dTuple (mCons (do let xs <- (mQ sortI (do let x <- (do let xs <- (mLst (mCons (getS 11) (mCons (m2 dMod (m2 dAdd (getS 11) (pure (.int 1))) (getS 3)) (pure [])))); pure (D.lst xs)); lift (seqD x))); pure (D.lst xs)) (pure []))))); pure (D.lst xs)) (pure []))) (pure [])))); pure (Fl.rt d))) (pure .nx))
  (mSeq (mIf (mAnd (m2 (dEqF false) (getS 2) (pure (.int 5)) >>= asB) (m2 dGt (getS 1) (pure (.int 2)) >>= asB)) (mSeq (stP 3 (m2 dAdd (pure (.int 3)) (do let _ <- peekO 0; mBox 0 2 (runB n_q11 b_q11) (mCons (m2 dSub (mC dMin (mCons (getS 1) (mCons (pure (.int 6)) (pure [])))) (pure (.int 2))) (pure [])))))
  (do let d <- (mTup (mCons (getS 1) (mCons (mC dTuple (mCons (do let xs <- (mComp 11 1 (mC rng1 (mCons (getS 3) (pure []))) (turnC (setP 11) (pure true) (mC dTuple (mCons (do let xs <- (mComp 12 1 (mC rng1 (mCons (getS 3) (pure []))) (turnC (setP 12) ((m2 (dEq true) (getS 12) (getS 11)) >>= asB) (getS 12))); pure (D.lst xs)) (pure []))))); pure (D.lst xs)) (pure []))) (pure [])))); pure (Fl.rt d))) (pure .nx))
  (mSeq (stO 4 (mLst (pure [])))
  (mSeq (do let it <- (mC rng1 (mCons (getS 3) (pure []))); forM (setP 5) (mSeq (stP 6 (do let xs <- (mComp 11 1 (mC rng1 (mCons (getS 1) (pure []))) (turnC (setP 11) (m2 (dEqF false) (do let _ <- peekO 0; mBox 0 2 (runB n_q11 b_q11) (mCons (pure (.int 3)) (pure []))) (pure (.int 0)) >>= asB) (getS 11))); pure (D.lst xs)))
  (mSeq (mIf (mAnd (m2 dLt (getS 2) (pure (.int 3)) >>= asB) ((m2H (gEq true) (hOwn 4) (do let x <- (do let xs <- (mLst (pure [])); pure (D.lst xs)); pure (Hn.th x))) >>= asB)) (mSeq (stP 7 (mIxO 4 (do let _ <- peekO 0; mBox 0 2 (runB n_q11 b_q11) (mCons (mLenO 4) (pure [])))))
  (mSeq (stP 8 (do let xs <- (mComp 11 1 (do let x <- (getS 6); lift (seqIts x)) (turnC (setP 11) ((m2 (dEq false) (do let xs <- (mComp 12 1 (do let xs <- peekO 4; pure (ownIts 4 xs.length)) (turnC (setP 12) (m2 (dIn false) (getS 11) (getS 12) >>= asB) (getS 12))); pure (D.lst xs)) (do let xs <- (mLst (pure [])); pure (D.lst xs))) >>= asB) (getS 11))); pure (D.lst xs)))
  (stP 6 (do let xs <- (m2H gCat (do let x <- (getS 8); pure (Hn.th x)) (do let x <- (do let xs <- (mComp 11 1 (do let x <- (getS 7); lift (seqIts x)) (turnC (setP 11) (m2 (dEqF false) (do let _ <- peekO 0; mBox 0 2 (runB n_q11 b_q11) (mCons (pure (.int 2)) (pure []))) (pure (.int 0)) >>= asB) (getS 11))); pure (D.lst xs)); pure (Hn.th x))); pure (D.lst xs))))) (pure .nx))
  (mSeq (mIf (mAnd (m2 (dEqF false) (getS 2) (pure (.int 3)) >>= asB) (mAnd ((m2H (gEq true) (hOwn 4) (do let x <- (do let xs <- (mLst (pure [])); pure (D.lst xs)); pure (Hn.th x))) >>= asB) (m2 (dEqF false) (do let _ <- peekO 0; mBox 0 2 (runB n_q11 b_q11) (mCons (pure (.int 4)) (pure []))) (pure (.int 0)) >>= asB))) (stP 6 (mIxO 4 (do let _ <- peekO 0; mBox 0 2 (runB n_q11 b_q11) (mCons (mLenO 4) (pure []))))) (pure .nx))
  (mAppend 4 (mCons (xOr (mC dTuple (mCons (do let xs <- (mQ sortSet (do let x <- (getS 6); lift (seqD x))); pure (D.lst xs)) (pure []))) (mTup (mCons (do let _ <- peekO 0; mBox 0 2 (runB n_q11 b_q11) (mCons (getS 1) (pure []))) (pure [])))) (pure [])))))) it.2 it.1)
  (mSeq (stO 9 (mC dRng (mCons (getS 3) (pure []))))
  (mSeq (stP 10 (do let xs <- (mComp 11 1 (mC rng1 (mCons (getS 3) (pure []))) (turnC (setP 11) (pure true) (mPop 9 (mCons (do let _ <- peekO 0; mBox 0 2 (runB n_q11 b_q11) (mCons (mLenO 9) (pure []))) (pure []))))); pure (D.lst xs)))
  (do let d <- (mTup (mCons (getS 1) (mCons (mC dTuple (mCons (do let xs <- (mComp 11 1 (do let x <- (getS 10); lift (seqIts x)) (turnC (setP 11) (pure true) (mIxO 4 (getS 11)))); pure (D.lst xs)) (pure []))) (pure [])))); pure (Fl.rt d)))))))))))
theorem ok_q3 {k:Nat} {f:Addr} {fd:FuncData} {a_q11:Addr} {d_q11:FuncData} (F:Fun K "_law_layout" "_law_layout" s_q3 f fd) (m_len:mg "len" = none) (m_list:mg "list" = none) (m_min:mg "min" = none) (m_range:mg "range" = none) (m_set:mg "set" = none) (m_sorted:mg "sorted" = none) (m_tuple:mg "tuple" = none)
  (G_q11:FnOk P w K mg base CX0 k a_q11 d_q11 ["_law_box_here","_law_many"] (spB 2 (runB n_q11 b_q11))) (M_q11:mg "_law_take" = some (.ref a_q11)) (K_q11:PySem.W.keepIn K (.ref a_q11) = true) (B_q11:Binds K d_q11 ["_law_box_here","_law_many"] []) :
  FnOk P w K mg base CX0 (k + 1) f fd ["_law_box_here"] (spB 1 (runB n_q3 b_q3)) :=
 fnB F sc_q3 fun cdv A outer s H E hr =>
  (dss_cons (ds_set 1 sc_q3.nd (de_add de_int (de_callB1 0 G_q11 hr M_q11 K_q11 B_q11 (da_cons de_int da_nil))))
  (dss_cons (ds_set 2 sc_q3.nd (de_callB1 0 G_q11 hr M_q11 K_q11 B_q11 (da_cons de_int da_nil)))
  (dss_cons (ds_set 3 sc_q3.nd (de_add de_int (de_callB1 0 G_q11 hr M_q11 K_q11 B_q11 (da_cons de_int da_nil))))
  (dss_cons (ds_if (dt_w (dw_and (dt_eqF (de_var 2) de_int) (dw_and1 (dt_gt (de_var 1) de_int)))) (dss_cons (ds_set 3 sc_q3.nd (de_min m_min (da_cons (de_var 1) (da_cons de_int da_nil))))
  (dss_one (ds_ret (de_tup (da_cons (de_var 1) (da_cons (de_tuple m_tuple (da_cons (de_ofF (df_comp (N' := n_q3) (own := ["_law_k"]) (lo := 11) (dc_of (di_range1 rfl m_range (da_cons (de_var 3) da_nil))) (fun _ _ _ _ => (dg_name 11 (show (n_q3 ++ (["_law_k"]:List Str):List Str).Nodup by decide +kernel))) (fun _ _ _ _ => dts_nil) (fun _ _ _ _ => (de_tuple m_tuple (da_cons (de_ofF (df_sorted m_sorted (dq_of (de_ofF (df_lst (da_cons (de_var 11) (da_cons (de_mod (de_add (de_var 11) de_int) (de_var 3)) da_nil))))))) da_nil))))) da_nil)) da_nil)))))) dss_nil)
  (dss_cons (ds_if (dt_w (dw_and (dt_eqF (de_var 2) de_int) (dw_and1 (dt_gt (de_var 1) de_int)))) (dss_cons (ds_set 3 sc_q3.nd (de_add de_int (de_callB1 0 G_q11 hr M_q11 K_q11 B_q11 (da_cons (de_sub (de_min m_min (da_cons (de_var 1) (da_cons de_int da_nil))) de_int) da_nil))))
  (dss_one (ds_ret (de_tup (da_cons (de_var 1) (da_cons (de_tuple m_tuple (da_cons (de_ofF (df_comp (N' := n_q3) (own := ["_law_out"]) (lo := 11) (dc_of (di_range1 rfl m_range (da_cons (de_var 3) da_nil))) (fun _ _ _ _ => (dg_name 11 (show (n_q3 ++ (["_law_out"]:List Str):List Str).Nodup by decide +kernel))) (fun _ _ _ _ => dts_nil) (fun _ _ _ _ => (de_tuple m_tuple (da_cons (de_ofF (df_comp (N' := (n_q3 ++ (["_law_out"]:List Str))) (own := ["_law_k"]) (lo := 12) (dc_of (di_range1 rfl m_range (da_cons (de_var 3) da_nil))) (fun _ _ _ _ => (dg_name 12 (show ((n_q3 ++ (["_law_out"]:List Str)) ++ (["_law_k"]:List Str):List Str).Nodup by decide +kernel))) (fun _ _ _ _ => dts_one (dt_ne hr (de_var 12) (de_var 11))) (fun _ _ _ _ => (de_var 12)))) da_nil))))) da_nil)) da_nil)))))) dss_nil)
  (dss_cons (ds_setF 4 sc_q3.nd (df_lst da_nil))
  (dss_cons (ds_for (di_range1 rfl m_range (da_cons (de_var 3) da_nil)) (dg_name 5 sc_q3.nd) (dss_cons (ds_setCP 6 sc_q3.nd (N' := n_q3) (own := ["_law_column"]) (lo := 11) (dc_of (di_range1 rfl m_range (da_cons (de_var 1) da_nil))) (fun _ _ _ _ => (dg_name 11 (show (n_q3 ++ (["_law_column"]:List Str):List Str).Nodup by decide +kernel))) (fun _ _ _ _ => dts_one (dt_eqF (de_callB1 0 G_q11 hr M_q11 K_q11 B_q11 (da_cons de_int da_nil)) de_int)) (fun _ _ _ _ => (de_var 11)))
  (dss_cons (ds_if (dt_w (dw_and (dt_lt (de_var 2) de_int) (dw_and1 (dt_neH hr (dh_own 4) (dh_of (de_ofF (df_lst da_nil))))))) (dss_cons (ds_set 7 sc_q3.nd (de_ixO 4 (de_callB1 0 G_q11 hr M_q11 K_q11 B_q11 (da_cons (de_lenO 4 m_len) da_nil))))
  (dss_cons (ds_setCP 8 sc_q3.nd (N' := n_q3) (own := ["_law_column"]) (lo := 11) (dc_of (di_seq (de_var 6))) (fun _ _ _ _ => (dg_name 11 (show (n_q3 ++ (["_law_column"]:List Str):List Str).Nodup by decide +kernel))) (fun _ _ _ _ => dts_one (dt_eq hr (de_ofF (df_comp (N' := (n_q3 ++ (["_law_column"]:List Str))) (own := ["_law_head"]) (lo := 12) (dc_own 4) (fun _ _ _ _ => (dg_name 12 (show ((n_q3 ++ (["_law_column"]:List Str)) ++ (["_law_head"]:List Str):List Str).Nodup by decide +kernel))) (fun _ _ _ _ => dts_one (dt_in (de_var 11) (de_var 12))) (fun _ _ _ _ => (de_var 12)))) (de_ofF (df_lst da_nil)))) (fun _ _ _ _ => (de_var 11)))
  (dss_one (ds_set 6 sc_q3.nd (de_ofF (df_cat (dh_of (de_var 8)) (dh_of (de_ofF (df_comp (N' := n_q3) (own := ["_law_column"]) (lo := 11) (dc_of (di_seq (de_var 7))) (fun _ _ _ _ => (dg_name 11 (show (n_q3 ++ (["_law_column"]:List Str):List Str).Nodup by decide +kernel))) (fun _ _ _ _ => dts_one (dt_eqF (de_callB1 0 G_q11 hr M_q11 K_q11 B_q11 (da_cons de_int da_nil)) de_int)) (fun _ _ _ _ => (de_var 11))))))))))) dss_nil)
  (dss_cons (ds_if (dt_w (dw_and (dt_eqF (de_var 2) de_int) (dw_and (dt_neH hr (dh_own 4) (dh_of (de_ofF (df_lst da_nil)))) (dw_and1 (dt_eqF (de_callB1 0 G_q11 hr M_q11 K_q11 B_q11 (da_cons de_int da_nil)) de_int))))) (dss_one (ds_set 6 sc_q3.nd (de_ixO 4 (de_callB1 0 G_q11 hr M_q11 K_q11 B_q11 (da_cons (de_lenO 4 m_len) da_nil))))) dss_nil)
  (dss_one (ds_append 4 (da_cons (de_orX (de_tuple m_tuple (da_cons (de_ofF (df_sortedSet m_sorted m_set (dq_of (de_var 6)))) da_nil)) (de_one (de_tup (da_cons (de_callB1 0 G_q11 hr M_q11 K_q11 B_q11 (da_cons (de_var 1) da_nil)) da_nil)))) da_nil)))))))
  (dss_cons (ds_setF 9 sc_q3.nd (df_listR m_list m_range (da_cons (de_var 3) da_nil)))
  (dss_cons (ds_setCP 10 sc_q3.nd (N' := (["_law_box_here","_law_many","_law_way","_law_size","_law_heads","?5","_law_some","_law_ahead","_law_fresh","_law_left","_law_order"]:List Str)) (own := ["_law_turn"]) (lo := 11) (dc_of (di_range1 rfl m_range (da_cons (de_var 3) da_nil))) (fun _ _ _ _ => (dg_name 11 (show ((["_law_box_here","_law_many","_law_way","_law_size","_law_heads","?5","_law_some","_law_ahead","_law_fresh","_law_left","_law_order"]:List Str) ++ (["_law_turn"]:List Str):List Str).Nodup by decide +kernel))) (fun _ _ _ _ => dts_nil) (fun _ _ _ _ => (de_pop 9 (da_cons (de_callB1 0 G_q11 hr M_q11 K_q11 B_q11 (da_cons (de_lenO 9 m_len) da_nil)) da_nil))))
  (dss_one (ds_ret (de_tup (da_cons (de_var 1) (da_cons (de_tuple m_tuple (da_cons (de_ofF (df_comp (N' := n_q3) (own := ["_law_number"]) (lo := 11) (dc_of (di_seq (de_var 10))) (fun _ _ _ _ => (dg_name 11 (show (n_q3 ++ (["_law_number"]:List Str):List Str).Nodup by decide +kernel))) (fun _ _ _ _ => dts_nil) (fun _ _ _ _ => (de_ixO 4 (de_var 11))))) da_nil)) da_nil))))))))))))))
noncomputable abbrev s_q8:Stmt := top 34
noncomputable abbrev n_q8:List Str := ["_law_layout_here","_law_left","_law_ear","_law_holder","_law_column","_law_others"]
theorem sc_q8:FnScope n_q8 ["_law_layout_here","_law_left","_law_ear","_law_holder"] (defScope s_q8) := ⟨rfl,rfl,rfl,by decide +kernel,rfl,by decide +kernel,by decide +kernel⟩
noncomputable def b_q8:M Fl :=
 (mSeq (do let it <- (do let x <- (m2 dIx (m2 dIx (getS 0) (pure (.int 1))) (getS 2)); lift (seqIts x)); forM (setP 4) (mSeq (stP 5 (do let xs <- (mComp 6 1 (do let x <- (getS 1); lift (seqIts x)) (turnC (setP 6) (mAnd ((m2 (dEq true) (getS 6) (getS 2)) >>= asB) (m2 (dIn false) (getS 4) (m2 dIx (m2 dIx (getS 0) (pure (.int 1))) (getS 6)) >>= asB)) (getS 6))); pure (D.lst xs)))
  (mIf (mAnd ((m2 (dEq true) (getS 5) (do let xs <- (mLst (pure [])); pure (D.lst xs))) >>= asB) (m2 (dIn true) (getS 4) (m2 dIx (m2 dIx (getS 0) (pure (.int 1))) (getS 3)) >>= asB)) (do let d <- (pure (.bl false)); pure (Fl.rt d)) (pure .nx))) it.2 it.1)
  (do let d <- (m2 (dEq true) (getS 2) (getS 3)); pure (Fl.rt d)))
theorem ok_q8 {k:Nat} {f:Addr} {fd:FuncData} (F:Fun K "_law_holds" "_law_holds" s_q8 f fd)  :
  FnOk P w K mg base CX0 (k + 1) f fd ["_law_layout_here","_law_left","_law_ear","_law_holder"] (spP 4 (runP n_q8 b_q8)) :=
 fnP F sc_q8 fun cdv A outer s H E hr =>
  (dss_cons (ds_for (di_seq (de_item (de_item (de_var 0) de_int) (de_var 2))) (dg_name 4 sc_q8.nd) (dss_cons (ds_setCP 5 sc_q8.nd (N' := n_q8) (own := ["_law_other"]) (lo := 6) (dc_of (di_seq (de_var 1))) (fun _ _ _ _ => (dg_name 6 (show (n_q8 ++ (["_law_other"]:List Str):List Str).Nodup by decide +kernel))) (fun _ _ _ _ => dts_one (dt_w (dw_and (dt_ne hr (de_var 6) (de_var 2)) (dw_and1 (dt_in (de_var 4) (de_item (de_item (de_var 0) de_int) (de_var 6))))))) (fun _ _ _ _ => (de_var 6)))
  (dss_one (ds_if (dt_w (dw_and (dt_ne hr (de_var 5) (de_ofF (df_lst da_nil))) (dw_and1 (dt_notIn (de_var 4) (de_item (de_item (de_var 0) de_int) (de_var 3)))))) (dss_one (ds_ret de_bl)) dss_nil))))
  (dss_one (ds_ret (de_ne hr (de_var 2) (de_var 3)))))
noncomputable abbrev s_q13:Stmt := top 35
noncomputable abbrev n_q13:List Str := ["_law_layout_here","_law_left","_law_found","_law_ear","_law_some"]
theorem sc_q13:FnScope n_q13 ["_law_layout_here","_law_left"] (defScope s_q13) := ⟨rfl,rfl,rfl,by decide +kernel,rfl,by decide +kernel,by decide +kernel⟩
noncomputable def b_q13:M Fl :=
 (mSeq (stO 2 (mLst (pure [])))
  (mSeq (do let it <- (do let x <- (getS 1); lift (seqIts x)); forM (setP 3) (mSeq (stP 4 (do let xs <- (mComp 5 1 (do let x <- (getS 1); lift (seqIts x)) (turnC (setP 5) (do let x <- (mC (callD 4 (runP n_q8 b_q8)) (mCons (getS 0) (mCons (getS 1) (mCons (getS 3) (mCons (getS 5) (pure [])))))); lift (truD x)) (getS 5))); pure (D.lst xs)))
  (mIf ((m2 (dEq true) (getS 4) (do let xs <- (mLst (pure [])); pure (D.lst xs))) >>= asB) (mAppend 2 (mCons (mTup (mCons (getS 3) (mCons (m2 dIx (getS 4) (pure (.int 0))) (pure [])))) (pure []))) (pure .nx))) it.2 it.1)
  (do let d <- (takeO 2); pure (Fl.rf d))))
theorem ok_q13 {k:Nat} {f:Addr} {fd:FuncData} {a_q8:Addr} {d_q8:FuncData} (F:Fun K "_law_ears" "_law_ears" s_q13 f fd)
  (G_q8:FnOk P w K mg base CX0 k a_q8 d_q8 ["_law_layout_here","_law_left","_law_ear","_law_holder"] (spP 4 (runP n_q8 b_q8))) (M_q8:mg "_law_holds" = some (.ref a_q8)) (K_q8:PySem.W.keepIn K (.ref a_q8) = true) (B_q8:Binds K d_q8 ["_law_layout_here","_law_left","_law_ear","_law_holder"] []) :
  FnOk P w K mg base CX0 (k + 1) f fd ["_law_layout_here","_law_left"] (spF 2 (runF n_q13 b_q13)) :=
 fnF F sc_q13 fun cdv A outer s H E hr =>
  (dss_cons (ds_setF 2 sc_q13.nd (df_lst da_nil))
  (dss_cons (ds_for (di_seq (de_var 1)) (dg_name 3 sc_q13.nd) (dss_cons (ds_setCP 4 sc_q13.nd (N' := n_q13) (own := ["_law_holder"]) (lo := 5) (dc_of (di_seq (de_var 1))) (fun _ _ _ _ => (dg_name 5 (show (n_q13 ++ (["_law_holder"]:List Str):List Str).Nodup by decide +kernel))) (fun _ _ _ _ => dts_one (dt_truth (de_call G_q8 hr M_q8 K_q8 B_q8 (da_cons (de_var 0) (da_cons (de_var 1) (da_cons (de_var 3) (da_cons (de_var 5) da_nil))))))) (fun _ _ _ _ => (de_var 5)))
  (dss_one (ds_if (dt_ne hr (de_var 4) (de_ofF (df_lst da_nil))) (dss_one (ds_append 2 (da_cons (de_tup (da_cons (de_var 3) (da_cons (de_item (de_var 4) de_int) da_nil))) da_nil))) dss_nil))))
  (dss_one (ds_retF (df_own 2)))))
noncomputable abbrev s_q9:Stmt := top 36
noncomputable abbrev n_q9:List Str := ["_law_layout_here","_law_left","_law_found"]
theorem sc_q9:FnScope n_q9 ["_law_layout_here"] (defScope s_q9) := ⟨rfl,rfl,rfl,by decide +kernel,rfl,by decide +kernel,by decide +kernel⟩
noncomputable def b_q9:M Fl :=
 (mSeq (stO 1 (mC dRng (mCons (mC dLen (mCons (m2 dIx (getS 0) (pure (.int 1))) (pure []))) (pure []))))
  (mSeq (stO 2 (mLst (pure [])))
  (mSeq (whM ((m2 (dEq true) (do let xs <- (mC (lentF 2 (runF n_q13 b_q13)) (mConsH (do let x <- (getS 0); pure (Hn.th x)) (mConsH (hOwn 1) (pure [])))); pure (D.lst xs)) (do let xs <- (mLst (pure [])); pure (D.lst xs))) >>= asB) (mSeq (mAppend 2 (mCons (m2 dIx (do let xs <- (mC (lentF 2 (runF n_q13 b_q13)) (mConsH (do let x <- (getS 0); pure (Hn.th x)) (mConsH (hOwn 1) (pure [])))); pure (D.lst xs)) (pure (.int 0))) (pure [])))
  (mRemove 1 (mCons (m2 dIx (mIxO 2 (m1 dNeg (pure (.int 1)))) (pure (.int 0))) (pure [])))) 8)
  (do let d <- (takeO 2); pure (Fl.rf d)))))
theorem ok_q9 {k:Nat} {f:Addr} {fd:FuncData} {a_q13:Addr} {d_q13:FuncData} (F:Fun K "_law_steps" "_law_steps" s_q9 f fd) (m_len:mg "len" = none) (m_list:mg "list" = none) (m_range:mg "range" = none)
  (G_q13:FnOk P w K mg base CX0 k a_q13 d_q13 ["_law_layout_here","_law_left"] (spF 2 (runF n_q13 b_q13))) (M_q13:mg "_law_ears" = some (.ref a_q13)) (K_q13:PySem.W.keepIn K (.ref a_q13) = true) (B_q13:Binds K d_q13 ["_law_layout_here","_law_left"] []) :
  FnOk P w K mg base CX0 (k + 1) f fd ["_law_layout_here"] (spF 1 (runF n_q9 b_q9)) :=
 fnF F sc_q9 fun cdv A outer s H E hr =>
  (dss_cons (ds_setF 1 sc_q9.nd (df_listR m_list m_range (da_cons (de_len m_len (da_cons (de_item (de_var 0) de_int) da_nil)) da_nil)))
  (dss_cons (ds_setF 2 sc_q9.nd (df_lst da_nil))
  (dss_cons (ds_while 8 (dt_ne hr (de_ofF (df_callR G_q13 hr M_q13 K_q13 B_q13 (das_cons (dh_of (de_var 0)) (das_cons (dh_own 1) das_nil)))) (de_ofF (df_lst da_nil))) (dss_cons (ds_append 2 (da_cons (de_item (de_ofF (df_callR G_q13 hr M_q13 K_q13 B_q13 (das_cons (dh_of (de_var 0)) (das_cons (dh_own 1) das_nil)))) de_int) da_nil))
  (dss_one (ds_remove 1 (da_cons (de_item (de_ixO 2 (de_neg de_int)) de_int) da_nil)))))
  (dss_one (ds_retF (df_own 2))))))
noncomputable abbrev s_q7:Stmt := top 37
noncomputable abbrev n_q7:List Str := ["_law_layout_here","_law_e"]
theorem sc_q7:FnScope n_q7 ["_law_layout_here"] (defScope s_q7) := ⟨rfl,rfl,rfl,by decide +kernel,rfl,by decide +kernel,by decide +kernel⟩
noncomputable def b_q7 (c_Bound:Addr) (kn:Addr -> Option Str):M Fl :=
 (tryR 1 kn (seqX (bX (bX (consX (okX (getS 0)) (pure (.inl []))) fun ds => lift (if ds.length = 1 then (runX n_q18 (b_q18 c_Bound)) ds else none)) fun d => pure (.inl (.rt d))) (pure (.inl .nx))))
theorem ok_q7 {k:Nat} {f:Addr} {fd:FuncData} {c_Bound:Addr} {kn:Addr -> Option Str} {a_q17 c_JoinError:Addr} {d_q17:FuncData} {a_q18:Addr} {d_q18:FuncData} (F:Fun K "_law_asked" "_law_asked" s_q7 f fd)
  (W__law_kind:Knd P w K mg base k a_q17 c_JoinError d_q17 ["_law_e"] kn) (x_JoinError:mg "JoinError" = some (.ref c_JoinError)) (M_q17:mg "_law_kind" = some (.ref a_q17)) (K_q17:PySem.W.keepIn K (.ref a_q17) = true) (B_q17:Binds K d_q17 ["_law_e"] [])
  (G_q18:FnOk P w K mg base (CXr P w) k a_q18 d_q18 ["layout"] (spX 1 (runX n_q18 (b_q18 c_Bound)))) (M_q18:mg "deeds_for" = some (.ref a_q18)) (K_q18:PySem.W.keepIn K (.ref a_q18) = true) (B_q18:Binds K d_q18 ["layout"] []) :
  FnOk P w K mg base CX0 (k + 1) f fd ["_law_layout_here"] (spP 1 (runP n_q7 (b_q7 c_Bound kn))) :=
 fnP F sc_q7 fun cdv A outer s H E hr =>
  (dss_one (ds_tryR 1 W__law_kind sc_q7.nd rfl rfl (dssx_one (dsx_ret (dex_call G_q18 hr M_q18 K_q18 B_q18 (dax_cons (dex_of (de_var 0)) dax_nil)))) hr x_JoinError M_q17 K_q17 B_q17))
noncomputable abbrev s_q0:Stmt := top 24
noncomputable abbrev n_q0:List Str := ["layout","steps"]
theorem sc_q0:FnScope n_q0 ["layout"] (defScope s_q0) := ⟨rfl,rfl,rfl,by decide +kernel,rfl,by decide +kernel,by decide +kernel⟩
noncomputable def b_q0:M Fl :=
 (mSeq (stO 1 (mC (callD 1 (runF n_q12 b_q12)) (mCons (getS 0) (pure []))))
  (mSeq (mIf (m2 dLt (mLenO 1) (m2 dSub (mC dLen (mCons (m2 dIx (getS 0) (pure (.int 1))) (pure []))) (pure (.int 1))) >>= asB) never (pure .nx))
  (do let d <- (takeO 1); pure (Fl.rf d))))
theorem ok_q0 {k:Nat} {f:Addr} {fd:FuncData} {a_q12:Addr} {d_q12:FuncData} (F:Fun K "steps_to_one" "steps_to_one" s_q0 f fd) (m_len:mg "len" = none)
  (G_q12:FnOk P w K mg base CX0 k a_q12 d_q12 ["layout"] (spF 1 (runF n_q12 b_q12))) (M_q12:mg "steps_for" = some (.ref a_q12)) (K_q12:PySem.W.keepIn K (.ref a_q12) = true) (B_q12:Binds K d_q12 ["layout"] []) :
  FnOk P w K mg base CX0 (k + 1) f fd ["layout"] (spF 1 (runF n_q0 b_q0)) :=
 fnF F sc_q0 fun cdv A outer s H E hr =>
  (dss_cons (ds_setF 1 sc_q0.nd (df_call G_q12 hr M_q12 K_q12 B_q12 (da_cons (de_var 0) da_nil)))
  (dss_cons (ds_if (dt_lt (de_lenO 1 m_len) (de_sub (de_len m_len (da_cons (de_item (de_var 0) de_int) da_nil)) de_int)) (dss_one ds_never) dss_nil)
  (dss_one (ds_retF (df_own 1)))))
noncomputable abbrev s_q4:Stmt := top 26
noncomputable abbrev n_q4:List Str := ["layout"]
theorem sc_q4:FnScope n_q4 ["layout"] (defScope s_q4) := ⟨rfl,rfl,rfl,by decide +kernel,rfl,by decide +kernel,by decide +kernel⟩
noncomputable def b_q4:M Fl :=
 (do let d <- (mC (callD 1 (runF n_q20 b_q20)) (mCons (do let xs <- (mC (callD 1 (runF n_q0 b_q0)) (mCons (getS 0) (pure []))); pure (D.lst xs)) (pure []))); pure (Fl.rf d))
theorem ok_q4 {k:Nat} {f:Addr} {fd:FuncData} {a_q20:Addr} {d_q20:FuncData} {a_q0:Addr} {d_q0:FuncData} (F:Fun K "deeds_for" "deeds_for" s_q4 f fd)
  (G_q20:FnOk P w K mg base CX0 k a_q20 d_q20 ["steps"] (spF 1 (runF n_q20 b_q20))) (M_q20:mg "deeds_by" = some (.ref a_q20)) (K_q20:PySem.W.keepIn K (.ref a_q20) = true) (B_q20:Binds K d_q20 ["steps"] [])
  (G_q0:FnOk P w K mg base CX0 k a_q0 d_q0 ["layout"] (spF 1 (runF n_q0 b_q0))) (M_q0:mg "steps_to_one" = some (.ref a_q0)) (K_q0:PySem.W.keepIn K (.ref a_q0) = true) (B_q0:Binds K d_q0 ["layout"] []) :
  FnOk P w K mg base CX0 (k + 1) f fd ["layout"] (spF 1 (runF n_q4 b_q4)) :=
 fnF F sc_q4 fun cdv A outer s H E hr =>
  (dss_one (ds_retF (df_call G_q20 hr M_q20 K_q20 B_q20 (da_cons (de_ofF (df_call G_q0 hr M_q0 K_q0 B_q0 (da_cons (de_var 0) da_nil))) da_nil))))
noncomputable abbrev s_q2:Stmt := top 37
noncomputable abbrev n_q2:List Str := ["_law_layout_here","_law_e"]
theorem sc_q2:FnScope n_q2 ["_law_layout_here"] (defScope s_q2) := ⟨rfl,rfl,rfl,by decide +kernel,rfl,by decide +kernel,by decide +kernel⟩
noncomputable def b_q2 (kn:Addr -> Option Str):M Fl :=
 (tryR 1 kn (seqX (okX (do let d <- (mC (callD 1 (runF n_q4 b_q4)) (mCons (getS 0) (pure []))); pure (Fl.rf d))) (pure (.inl .nx))))
theorem ok_q2 {k:Nat} {f:Addr} {fd:FuncData} {kn:Addr -> Option Str} {a_q17 c_JoinError:Addr} {d_q17:FuncData} {a_q4:Addr} {d_q4:FuncData} (F:Fun K "_law_asked" "_law_asked" s_q2 f fd)
  (W__law_kind:Knd P w K mg base k a_q17 c_JoinError d_q17 ["_law_e"] kn) (x_JoinError:mg "JoinError" = some (.ref c_JoinError)) (M_q17:mg "_law_kind" = some (.ref a_q17)) (K_q17:PySem.W.keepIn K (.ref a_q17) = true) (B_q17:Binds K d_q17 ["_law_e"] [])
  (G_q4:FnOk P w K mg base CX0 k a_q4 d_q4 ["layout"] (spF 1 (runF n_q4 b_q4))) (M_q4:mg "deeds_for" = some (.ref a_q4)) (K_q4:PySem.W.keepIn K (.ref a_q4) = true) (B_q4:Binds K d_q4 ["layout"] []) :
  FnOk P w K mg base CX0 (k + 1) f fd ["_law_layout_here"] (spF 1 (runF n_q2 (b_q2 kn))) :=
 fnF F sc_q2 fun cdv A outer s H E hr =>
  (dss_one (ds_tryR 1 W__law_kind sc_q2.nd rfl rfl (dssx_one (dsx_of (ds_retF (df_call G_q4 hr M_q4 K_q4 B_q4 (da_cons (de_var 0) da_nil))))) hr x_JoinError M_q17 K_q17 B_q17))
noncomputable abbrev s_q23:Stmt := top 38
noncomputable abbrev n_q23:List Str := ["_law_script","_law_k","_law_box_here","_law_layout_here","_law_steps_here","_law_due","_law_turn","_law_found"]
theorem sc_q23:FnScope n_q23 ["_law_script"] (defScope s_q23) := ⟨rfl,rfl,rfl,by decide +kernel,rfl,by decide +kernel,by decide +kernel⟩
noncomputable def b_q23 (c_Bound:Addr) (kn:Addr -> Option Str):M Fl :=
 (mSeq (do let it <- (mC rng1 (mCons (mC dMax (mCons (pure (.int 1)) (mCons (mC dMin (mCons (mC dLen (mCons (getS 0) (pure []))) (mCons (pure (.int 6)) (pure [])))) (pure [])))) (pure []))); forM (setP 1) (mSeq (stO 2 (mC (callD 2 (runF n_q19 b_q19)) (mCons (getS 0) (mCons (getS 1) (pure [])))))
  (mSeq (stP 3 (do let _ <- peekO 2; mBox 2 1 (runB n_q3 b_q3) (pure [])))
  (mSeq (stP 4 (do let xs <- (mC (callD 1 (runF n_q9 b_q9)) (mCons (getS 3) (pure []))); pure (D.lst xs)))
  (mIf (m2 dLt (mC dLen (mCons (getS 4) (pure []))) (m2 dSub (mC dLen (mCons (m2 dIx (getS 3) (pure (.int 1))) (pure []))) (pure (.int 1))) >>= asB) (mIf (m2 (dEqF true) (mC (callD 1 (runP n_q7 (b_q7 c_Bound kn))) (mCons (getS 3) (pure []))) (pure (.str "! bound")) >>= asB) (do let d <- (pure (.bl false)); pure (Fl.rt d)) (pure .nx)) (mSeq (stP 5 (do let xs <- (m2H gCat (do let x <- (do let xs <- (mComp 8 2 (do let x <- (getS 4); lift (seqIts x)) (turnC (gTupM 2 (gsCons (setP 8) (gsCons (setP 9) gsNil))) (pure true) (mTup (mCons (getS 9) (mCons (getS 8) (pure [])))))); pure (D.lst xs)); pure (Hn.th x)) (do let x <- (do let xs <- (mComp 8 1 (mC rng1 (mCons (mC dLen (mCons (getS 4) (pure []))) (pure []))) (turnC (setP 8) (pure true) (m2 dIx (getS 4) (m2 dSub (m2 dSub (mC dLen (mCons (getS 4) (pure []))) (pure (.int 1))) (getS 8))))); pure (D.lst xs)); pure (Hn.th x))); pure (D.lst xs)))
  (do let it <- (mC rng1 (mCons (pure (.int 2)) (pure []))); forM (setP 6) (mSeq (stO 7 (mC (callD 1 (runF n_q2 (b_q2 kn))) (mCons (getS 3) (pure []))))
  (mSeq (mIf (mNot (do let x <- (mC (lent 2 (m_q15 4)) (mConsH (hOwn 7) (mConsH (do let x <- (getS 5); pure (Hn.th x)) (pure [])))); lift (truD x))) (do let d <- (pure (.bl false)); pure (Fl.rt d)) (pure .nx))
  (mAppend 7 (mCons (mTup (pure [])) (pure []))))) it.2 it.1)))))) it.2 it.1)
  (do let d <- (pure (.bl true)); pure (Fl.rt d)))
theorem ok_q23 {k:Nat} {f:Addr} {fd:FuncData} {c_Bound:Addr} {kn:Addr -> Option Str} {a_q7:Addr} {d_q7:FuncData} {a_q2:Addr} {d_q2:FuncData} {a_q19:Addr} {d_q19:FuncData} {a_q3:Addr} {d_q3:FuncData} {a_q15:Addr} {d_q15:FuncData} {a_q9:Addr} {d_q9:FuncData} (F:Fun K "law" "law" s_q23 f fd) (m_len:mg "len" = none) (m_max:mg "max" = none) (m_min:mg "min" = none) (m_range:mg "range" = none)
  (G_q7:FnOk P w K mg base CX0 k a_q7 d_q7 ["_law_layout_here"] (spP 1 (runP n_q7 (b_q7 c_Bound kn)))) (M_q7:mg "_law_asked" = some (.ref a_q7)) (K_q7:PySem.W.keepIn K (.ref a_q7) = true) (B_q7:Binds K d_q7 ["_law_layout_here"] [])
  (G_q2:FnOk P w K mg base CX0 k a_q2 d_q2 ["_law_layout_here"] (spF 1 (runF n_q2 (b_q2 kn)))) (M_q2:mg "_law_asked" = some (.ref a_q2)) (K_q2:PySem.W.keepIn K (.ref a_q2) = true) (B_q2:Binds K d_q2 ["_law_layout_here"] [])
  (G_q19:FnOk P w K mg base CX0 k a_q19 d_q19 ["_law_script","_law_k"] (spF 2 (runF n_q19 b_q19))) (M_q19:mg "_law_box" = some (.ref a_q19)) (K_q19:PySem.W.keepIn K (.ref a_q19) = true) (B_q19:Binds K d_q19 ["_law_script","_law_k"] [])
  (G_q3:FnOk P w K mg base CX0 k a_q3 d_q3 ["_law_box_here"] (spB 1 (runB n_q3 b_q3))) (M_q3:mg "_law_layout" = some (.ref a_q3)) (K_q3:PySem.W.keepIn K (.ref a_q3) = true) (B_q3:Binds K d_q3 ["_law_box_here"] [])
  (G_q15:FnOk P w K mg base CX0 k a_q15 d_q15 ["_law_found","_law_due"] (spP 2 (m_q15 4))) (M_q15:mg "_law_same" = some (.ref a_q15)) (K_q15:PySem.W.keepIn K (.ref a_q15) = true) (B_q15:Binds K d_q15 ["_law_found","_law_due"] [])
  (G_q9:FnOk P w K mg base CX0 k a_q9 d_q9 ["_law_layout_here"] (spF 1 (runF n_q9 b_q9))) (M_q9:mg "_law_steps" = some (.ref a_q9)) (K_q9:PySem.W.keepIn K (.ref a_q9) = true) (B_q9:Binds K d_q9 ["_law_layout_here"] []) :
  FnOk P w K mg base CX0 (k + 1) f fd ["_law_script"] (spP 1 (runP n_q23 (b_q23 c_Bound kn))) :=
 fnP F sc_q23 fun cdv A outer s H E hr =>
  (dss_cons (ds_for (di_range1 rfl m_range (da_cons (de_max m_max (da_cons de_int (da_cons (de_min m_min (da_cons (de_len m_len (da_cons (de_var 0) da_nil)) (da_cons de_int da_nil))) da_nil))) da_nil)) (dg_name 1 sc_q23.nd) (dss_cons (ds_setF 2 sc_q23.nd (df_call G_q19 hr M_q19 K_q19 B_q19 (da_cons (de_var 0) (da_cons (de_var 1) da_nil))))
  (dss_cons (ds_set 3 sc_q23.nd (de_callB1 2 G_q3 hr M_q3 K_q3 B_q3 da_nil))
  (dss_cons (ds_set 4 sc_q23.nd (de_ofF (df_call G_q9 hr M_q9 K_q9 B_q9 (da_cons (de_var 3) da_nil))))
  (dss_one (ds_if (dt_lt (de_len m_len (da_cons (de_var 4) da_nil)) (de_sub (de_len m_len (da_cons (de_item (de_var 3) de_int) da_nil)) de_int)) (dss_one (ds_if (dt_neF (de_call G_q7 hr M_q7 K_q7 B_q7 (da_cons (de_var 3) da_nil)) de_str) (dss_one (ds_ret de_bl)) dss_nil)) (dss_cons (ds_set 5 sc_q23.nd (de_ofF (df_cat (dh_of (de_ofF (df_comp (N' := n_q23) (own := ["_law_ear","_law_holder"]) (lo := 8) (dc_of (di_seq (de_var 4))) (fun _ _ _ _ => (dg_tup (dgs_cons (dg_name 8 (show (n_q23 ++ (["_law_ear","_law_holder"]:List Str):List Str).Nodup by decide +kernel)) (dgs_cons (dg_name 9 (show (n_q23 ++ (["_law_ear","_law_holder"]:List Str):List Str).Nodup by decide +kernel)) dgs_nil)))) (fun _ _ _ _ => dts_nil) (fun _ _ _ _ => (de_tup (da_cons (de_var 9) (da_cons (de_var 8) da_nil))))))) (dh_of (de_ofF (df_comp (N' := (["_law_script","?1","_law_box_here","_law_layout_here","_law_steps_here","_law_due","_law_turn","_law_found"]:List Str)) (own := ["_law_k"]) (lo := 8) (dc_of (di_range1 rfl m_range (da_cons (de_len m_len (da_cons (de_var 4) da_nil)) da_nil))) (fun _ _ _ _ => (dg_name 8 (show ((["_law_script","?1","_law_box_here","_law_layout_here","_law_steps_here","_law_due","_law_turn","_law_found"]:List Str) ++ (["_law_k"]:List Str):List Str).Nodup by decide +kernel))) (fun _ _ _ _ => dts_nil) (fun _ _ _ _ => (de_item (de_var 4) (de_sub (de_sub (de_len m_len (da_cons (de_var 4) da_nil)) de_int) (de_var 8))))))))))
  (dss_one (ds_for (di_range1 rfl m_range (da_cons de_int da_nil)) (dg_name 6 sc_q23.nd) (dss_cons (ds_setF 7 sc_q23.nd (df_call G_q2 hr M_q2 K_q2 B_q2 (da_cons (de_var 3) da_nil)))
  (dss_cons (ds_if (dt_not (dt_truth (de_callR G_q15 hr M_q15 K_q15 B_q15 (dar_cons (dh_own 7) (dar_cons (dh_of (de_var 5)) dar_nil))))) (dss_one (ds_ret de_bl)) dss_nil)
  (dss_one (ds_append 7 (da_cons (de_tup da_nil) da_nil))))))))))))))
  (dss_one (ds_ret de_bl)))
end
end K72
namespace K72
open PySem L2 Jt
noncomputable def hD (h:List Int):D := .tup (h.map .int)
noncomputable def layD (m:Int) (hs:List (List Int)):D := .tup [.int m,.tup (hs.map hD)]
noncomputable def lD (ls:List Nat):List D := ls.map fun (i:Nat) => .int (i:Int)
noncomputable def G (hs:List (List Int)) (i:Nat):List Int := hs.getD i []
theorem flats_map (h:List Int):flats (h.map .int) = some (h.map V.int):= by
 induction h with
 | nil => rfl
 | cons a r ih => simp [flats,flat,ih]
theorem inV_int (c:Int) (h:List Int):inV (.int c) (h.map V.int) = decide (c ∈ h):= by
 induction h with
 | nil => rfl
 | cons a r ih =>
  show (a == c || inV (.int c) (r.map V.int)) = _
  rw [ih]
  by_cases e:c = a
  ·subst e; simp
  ·simp [e,Ne.symm e]
theorem dIn_h (neg:Bool) (c:Int) (h:List Int):dIn neg (.int c) (hD h) = some (.bl (if neg then !decide (c ∈ h) else decide (c ∈ h))):= by
 simp [dIn,hD,seqD,flat,flats_map,inV_int]
theorem seqIts_h (h:List Int):seqIts (hD h) = some (itsOf (h.map .int)) := rfl
theorem boolsOf_map' {α:Type} (f:α -> Bool) (as:List α):boolsOf (as.map fun a => .bl (f a)) = some (as.map f):= by
 induction as with
 | nil => rfl
 | cons a r ih => simp [boolsOf,ih]
theorem m_q22 (h w:List Int) (hw:w.length ≤ 100):runP n_q22 b_q22 [hD h,hD w] = some (.bl (w.all fun c => decide (c ∈ h))):= by
 apply runP_of
 show Ok b_q22 [.pu (hD h),.pu (hD w)] _
 unfold b_q22
 simp
 refine ok_compA w .int (fun c => some (.bl (decide (c ∈ h)))) rfl ?_ (by omega) (fun c _ => ?_) ?_
 ·simp [seqIts_h]
 ·simp [dIn_h]
 ·simp [dAll,boolsOf_map',List.filterMap_eq_map]
theorem atI_nat {α:Type} (xs:List α) (i:Nat) (h:i < xs.length):atI xs (i:Int) = some xs[i]:= by
 have h1:(i:Int) < xs.length := by omega
 simp [atI,ixN,h1,h]
theorem dIx_hs {hs:List (List Int)} {i:Nat} (h:i < hs.length):dIx (.tup (hs.map hD)) (.int (i:Int)) = some (hD (G hs i)):= by
 show atI _ _ = _
 rw [atI_nat _ _ (by simpa using h)]
 simp [G,h]
theorem dIx_lay1 (m:Int) (hs:List (List Int)):dIx (layD m hs) (.int 1) = some (.tup (hs.map hD)) := rfl
theorem dEq_int (neg:Bool) (a b:Int):dEq neg (.int a) (.int b) = some (.bl (if neg then !decide (a = b) else decide (a = b))):= by
 simp [dEq,seqs,dEqF,flat,scal]
theorem dEq_nat (neg:Bool) (a b:Nat):dEq neg (.int (a:Int)) (.int (b:Int)) = some (.bl (if neg then !decide (a = b) else decide (a = b))):= by
 rw [dEq_int]
 simp only [Int.natCast_inj,show ((a:Int) = (b:Int)) = (a = b) from propext Int.ofNat_inj]
theorem dEq_nil (neg:Bool) (xs:List D):dEq neg (.lst xs) (.lst []) = some (.bl (if neg then !xs.isEmpty else xs.isEmpty)):= by
 cases xs <;> simp [dEq,seqs,eqD,eqD.go]
theorem rng_eq (n:Nat):rngD 0 n = lD (List.range n):= by
 simp [rngD,lD]
theorem rng_get (n i:Nat) (h:i < (rngD 0 n).length):(rngD 0 n)[i] = .int (i:Int) := by simp [rngD]
theorem m_q5 (m:Int) (hs:List (List Int)) (hn:hs.length ≤ 6):runP n_q5 b_q5 [layD m hs] = some (.tup (lD (List.range hs.length))):= by
 apply runP_of
 show Ok b_q5 [.pu (layD m hs)] _
 unfold b_q5
 have h1:(hs.length:Int) < 100000 := by omega
 simp [dIx_lay1,dLen,dRng,h1,rng_eq]
structure Fit (hs:List (List Int)) (ls:List Nat) (x:D):Prop where
 n:hs.length ≤ 6
 ln:ls.length ≤ 6
 lt:∀ i ∈ ls,i < hs.length
 w:∀ h ∈ hs,h.length ≤ 100
 x:seqIts x = some (itsOf (lD ls))
noncomputable def shared (hs:List (List Int)) (ls:List Nat) (n:Nat):List Int := (G hs n).filter fun c => ls.any fun o => decide (o ≠ n) && decide (c ∈ G hs o)
noncomputable def holders (hs:List (List Int)) (ls:List Nat) (n:Nat):List Nat := ls.filter fun o => decide (o ≠ n) && (shared hs ls n).all fun c => decide (c ∈ G hs o)
theorem Fit.g {hs:List (List Int)} {ls:List Nat} {x:D} (F:Fit hs ls x) (i:Nat):(G hs i).length ≤ 100:= by
 unfold G
 by_cases h:i < hs.length
 ·rw [List.getD_eq_getElem?_getD,List.getElem?_eq_getElem h]; exact F.w _ (List.getElem_mem h)
 ·rw [List.getD_eq_getElem?_getD,List.getElem?_eq_none (by omega)]; simp
variable {hs:List (List Int)} {ls:List Nat} {x:D}
theorem m_q16 (F:Fit hs ls x) (m:Int) {n:Nat} (hn:n < hs.length):runP n_q16 b_q16 [layD m hs,x,.int n] = some (hD (shared hs ls n)):= by
 apply runP_of
 show Ok b_q16 [.pu (layD m hs),.pu x,.pu (.int n),.un,.un] _
 unfold b_q16
 simp [dIx_lay1]
 refine ok_compA ls (fun (i:Nat) => .int (i:Int)) (fun i => if decide (i ≠ n) = true then some (hD (G hs i)) else none) rfl ?_ (by have := F.ln; omega) (fun i hi => ?_) ?_
 ·simp [F.x,lD]
 ·have := F.lt i hi
  by_cases e:i = n <;> simp [dEq_nat,dIx_hs,this,e]
 rw [filterMap_ite]
 simp [dIx_hs,hn]
 refine ok_compA (G hs n) .int (fun c => if (ls.any fun o => decide (o ≠ n) && decide (c ∈ G hs o)) = true then some (.int c) else none) rfl ?_ (by have := F.g n; omega) (fun c hc => ?_) ?_
 ·simp [dIx_hs,hn,seqIts_h]
 ·simp
  refine ok_compA (ls.filter fun i => decide (i ≠ n)) (fun i => hD (G hs i)) (fun o => some (.bl (decide (c ∈ G hs o)))) rfl ?_ (by have := F.ln; have := List.length_filter_le (fun i => decide (i ≠ n)) ls; omega) (fun i hi => ?_) ?_
  ·simp [seqIts]
  ·simp [dIn_h]
  ·simp [dAny,boolsOf_map',List.filterMap_eq_map,truD]
 ·rw [filterMap_ite]
  simp [dTuple,seqD,hD,shared]
theorem shared_len (F:Fit hs ls x) (n:Nat):(shared hs ls n).length ≤ 100:= by
 have := F.g n
 have := List.length_filter_le (fun c => ls.any fun o => decide (o ≠ n) && decide (c ∈ G hs o)) (G hs n)
 unfold shared
 omega
theorem m_q6 (F:Fit hs ls x) (m:Int) {n:Nat} (hn:n < hs.length):runF n_q6 b_q6 [layD m hs,x,.int n] = some (lD (holders hs ls n)):= by
 apply runF_of
 show Ok b_q6 [.pu (layD m hs),.pu x,.pu (.int n),.un,.un] _
 unfold b_q6
 simp [dIx_lay1,callD,m_q16 F m hn]
 refine ok_compA ls (fun (i:Nat) => .int (i:Int)) (fun o => if (decide (o ≠ n) && (shared hs ls n).all fun c => decide (c ∈ G hs o)) = true then some (.int (o:Int)) else none) rfl ?_ (by have := F.ln; omega) (fun i hi => ?_) ?_
 ·simp [F.x,lD]
 ·have := F.lt i hi
  by_cases e:i = n
  ·simp [dEq_nat,e]
  ·simp [dEq_nat,e,dIx_hs,this,callD,m_q22 _ _ (shared_len F n),truD]
 ·rw [filterMap_ite]
  simp [lD,holders]
noncomputable def earsD (hf:Nat -> List Nat) (ls:List Nat):List D := ls.filterMap fun n => (hf n).head?.map fun (h:Nat) => .tup [.int (n:Int),.int (h:Int)]
theorem earsD_step (hf:Nat -> List Nat) {k:Nat} (h:k < ls.length):earsD hf (ls.take (k + 1)) = earsD hf (ls.take k) ++ ((hf ls[k]).head?.map fun (h:Nat) => D.tup [.int (ls[k]:Int),.int (h:Int)]).toList:= by
 rw [List.take_succ_eq_append_getElem h]
 unfold earsD
 rw [List.filterMap_append]
 congr 1
theorem earsD_len (hf:Nat -> List Nat) (ls:List Nat):(earsD hf ls).length ≤ ls.length := List.length_filterMap_le _ _
theorem m_q10 (F:Fit hs ls x) (m:Int):runF n_q10 b_q10 [layD m hs,x] = some (earsD (holders hs ls) ls):= by
 apply runF_of
 show Ok b_q10 [.pu (layD m hs),.pu x,.un,.un,.un] _
 unfold b_q10
 simp [F.x]
 refine ok_for (lD ls) (fun k δ => ∃ a b,δ = [.pu (layD m hs),.pu x,.ow false (earsD (holders hs ls) (ls.take k)),a,b]) ?_ (fun k hk δ hI => ?_) (fun δ hI => ?_)
 ·exact ⟨.un,.un,rfl⟩
 ·obtain ⟨a,b,rfl⟩ := hI
  have hk':k < ls.length := by simpa [lD] using hk
  have hl:ls[k] < hs.length := F.lt _ (List.getElem_mem hk')
  have e1:(lD ls)[k] = .int (ls[k]:Int) := by simp [lD]
  rw [e1]
  simp [callD,m_q6 F m hl,truD]
  cases q:holders hs ls ls[k] with
  | nil =>
   rw [if_pos (by simp [lD])]
   rw [earsD_step _ hk',q]
   simp
  | cons o r =>
   rw [if_neg (by simp [lD])]
   refine Ok_mAppend ⟨_,_,rfl⟩ ?_
   simp [lD,dIx,atI,ixN]
   have:(earsD (holders hs ls) (ls.take k)).length ≤ 100000:= by
    have h1 := earsD_len (holders hs ls) (ls.take k)
    have h2 := F.ln
    rw [List.length_take] at h1
    omega
   refine ⟨this,?_⟩
   rw [earsD_step _ hk',q]
   simp
 ·obtain ⟨a,b,rfl⟩ := hI
  simp [lD]
noncomputable def othersL (hs:List (List Int)) (ls:List Nat) (e:Nat) (c:Int):List Nat := ls.filter fun o => decide (o ≠ e) && decide (c ∈ G hs o)
noncomputable def holdsB (hs:List (List Int)) (ls:List Nat) (e h:Nat):Bool := ((G hs e).all fun c => (othersL hs ls e c).isEmpty || decide (c ∈ G hs h)) && decide (e ≠ h)
theorem m_law_holds (F:Fit hs ls x) (m:Int) {e h:Nat} (he:e < hs.length) (hh:h < hs.length):runP n_q8 b_q8 [layD m hs,x,.int e,.int h] = some (.bl (holdsB hs ls e h)):= by
 apply runP_of
 show Ok b_q8 [.pu (layD m hs),.pu x,.pu (.int e),.pu (.int h),.un,.un] _
 unfold b_q8
 simp [dIx_lay1,dIx_hs,he,hh,seqIts_h]
 refine ok_for ((G hs e).map .int) (fun k δ => ∃ a b,δ = [.pu (layD m hs),.pu x,.pu (.int e),.pu (.int h),a,b] ∧ ((G hs e).take k).all (fun c => (othersL hs ls e c).isEmpty || decide (c ∈ G hs h)) = true) ?_ (fun k hk δ hI => ?_) (fun δ hI => ?_)
 ·exact ⟨.un,.un,rfl,rfl⟩
 ·obtain ⟨a,b,rfl,hp⟩ := hI
  have hk':k < (G hs e).length := by simpa using hk
  rw [List.getElem_map]
  simp
  refine ok_compA ls (fun (i:Nat) => .int (i:Int)) (fun o => if (decide (o ≠ e) && decide ((G hs e)[k] ∈ G hs o)) = true then some (.int (o:Int)) else none) rfl ?_ (by have := F.ln; omega) (fun i hi => ?_) ?_
  ·simp [F.x,lD]
  ·have := F.lt i hi
   by_cases q:i = e
   ·simp [dEq_nat,q]
   ·by_cases q2:(G hs e)[k] ∈ G hs i <;> simp [dEq_nat,q,q2,dIx_hs,this,dIx_lay1,dIn_h]
  ·rw [filterMap_ite,show (ls.filter fun o => decide (o ≠ e) && decide ((G hs e)[k] ∈ G hs o)) = othersL hs ls e (G hs e)[k] from rfl]
   cases q:othersL hs ls e (G hs e)[k] with
   | nil =>
    simp [dEq_nil]
    rw [List.take_succ_eq_append_getElem hk']
    intro c hc
    rcases List.mem_append.mp hc with hc | hc
    ·simpa using List.all_eq_true.mp hp c hc
    ·rw [List.mem_singleton.mp hc]; exact .inl q
   | cons o r =>
    by_cases q2:(G hs e)[k] ∈ G hs h
    ·simp [dEq_nil,dIx_lay1,dIx_hs,hh,dIn_h,q2]
     rw [List.take_succ_eq_append_getElem hk']
     intro c hc
     rcases List.mem_append.mp hc with hc | hc
     ·simpa using List.all_eq_true.mp hp c hc
     ·rw [List.mem_singleton.mp hc]; exact .inr q2
    ·simp [dEq_nil,dIx_lay1,dIx_hs,hh,dIn_h,q2]
     have:holdsB hs ls e h = false:= by
      unfold holdsB
      rw [Bool.and_eq_false_iff]
      refine .inl ?_
      rw [List.all_eq_false]
      exact ⟨(G hs e)[k],List.getElem_mem hk',by simp [q,q2]⟩
     exact this
 ·obtain ⟨a,b,rfl,hp⟩ := hI
  rw [List.length_map,List.take_length] at hp
  simp [dEq_nat,holdsB,hp]
theorem holds_eq (e:Nat) (he:e ∈ ls):(ls.filter fun h => holdsB hs ls e h) = holders hs ls e:= by
 unfold holders
 refine List.filter_congr fun o ho => ?_
 have:∀ c,(othersL hs ls e c).isEmpty = !(ls.any fun o => decide (o ≠ e) && decide (c ∈ G hs o)) := fun c => by
  unfold othersL
  cases q:ls.any fun o => decide (o ≠ e) && decide (c ∈ G hs o) with
  | false =>
   rw [List.any_eq_false] at q
   simpa [List.filter_eq_nil_iff] using q
  | true =>
   rw [List.any_eq_true] at q
   obtain ⟨o,h1,h2⟩ := q
   rw [Bool.not_true,Bool.eq_false_iff]
   intro h
   rw [List.isEmpty_iff,List.filter_eq_nil_iff] at h
   exact h o h1 h2
 unfold holdsB shared
 rw [List.all_filter,Bool.and_comm]
 congr 1
 ·rw [decide_eq_decide]; exact ⟨Ne.symm,Ne.symm⟩
 ·refine List.all_congr rfl fun c => ?_
  rw [this]
theorem m_law_ears (F:Fit hs ls x) (m:Int):runF n_q13 b_q13 [layD m hs,x] = some (earsD (holders hs ls) ls):= by
 apply runF_of
 show Ok b_q13 [.pu (layD m hs),.pu x,.un,.un,.un] _
 unfold b_q13
 simp [F.x]
 refine ok_for (lD ls) (fun k δ => ∃ a b,δ = [.pu (layD m hs),.pu x,.ow false (earsD (holders hs ls) (ls.take k)),a,b]) ?_ (fun k hk δ hI => ?_) (fun δ hI => ?_)
 ·exact ⟨.un,.un,rfl⟩
 ·obtain ⟨a,b,rfl⟩ := hI
  have hk':k < ls.length := by simpa [lD] using hk
  have hl:ls[k] < hs.length := F.lt _ (List.getElem_mem hk')
  have e1:(lD ls)[k] = .int (ls[k]:Int) := by simp [lD]
  rw [e1]
  simp
  refine ok_compA ls (fun (i:Nat) => .int (i:Int)) (fun o => if holdsB hs ls ls[k] o = true then some (.int (o:Int)) else none) rfl ?_ (by have := F.ln; omega) (fun i hi => ?_) ?_
  ·simp [F.x,lD]
  ·have := F.lt i hi
   cases q:holdsB hs ls ls[k] i <;> simp [callD,m_law_holds F m hl this,truD,q]
  ·rw [filterMap_ite,holds_eq _ (List.getElem_mem hk')]
   cases q:holders hs ls ls[k] with
   | nil =>
    simp [dEq_nil]
    rw [earsD_step _ hk',q]
    simp
   | cons o r =>
    simp [dEq_nil]
    refine Ok_mAppend ⟨_,_,rfl⟩ ?_
    simp [lD,dIx,atI,ixN]
    have:(earsD (holders hs ls) (ls.take k)).length ≤ 100000:= by
     have h1 := earsD_len (holders hs ls) (ls.take k)
     have h2 := F.ln
     rw [List.length_take] at h1
     omega
    refine ⟨this,?_⟩
    rw [earsD_step _ hk',q]
    simp
 ·obtain ⟨a,b,rfl⟩ := hI
  simp [lD]
theorem dMul_s {i j:Int} (h:-(2 ^ 64) < j) (h2:j < 2 ^ 64):dMul (.int i) (.int j) = some (.int (i * j)):= by
 show (if ((decide (-(2 ^ 64) < i) && decide (i < 2 ^ 64)) || (decide (-(2 ^ 64) < j) && decide (j < 2 ^ 64))) = true then _ else _) = _
 rw [if_pos (by rw [decide_eq_true h,decide_eq_true h2]; simp)]
theorem m_law_cell (ns:List Int) (k:Nat):∃ c:Int,runP n_q14 b_q14 [.lst (ns.map .int),.int k] = some (.int c):= by
 have:∃ d,runP n_q14 b_q14 [.lst (ns.map .int),.int k] = some d ∧ ∃ c,d = .int c:= by
  apply runP_ex
  show Ok b_q14 [.pu (.lst (ns.map .int)),.pu (.int k)] _
  unfold b_q14
  simp [dLen,dLt,fInt]
  by_cases h:k < ns.length
  ·have e:dIx (.lst (ns.map .int)) (.int (k:Int)) = some (.int ns[k]):= by
    show atI _ _ = _
    rw [atI_nat _ _ (by simpa using h)]
    simp
   simp [h,e]
  ·simp [h,dMul,dAdd,fInt]; omega
 obtain ⟨d,e,c,rfl⟩ := this
 exact ⟨c,e⟩
theorem m_law_take (n j:Int) (h:0 < j) (h2:j < 1073741824):runB n_q11 b_q11 [.int n] [.int j] = some (.int (n % j),[.int (n / j)]):= by
 have:∃ d xs',runB n_q11 b_q11 [.int n] [.int j] = some (d,xs') ∧ (d = .int (n % j) ∧ xs' = [.int (n / j)]):= by
  apply runB_of
  show Ok b_q11 [.ow true [.int n],.pu (.int j),.un] _
  unfold b_q11
  simp [dMod,dDiv,fInt,dIx,atI,ixN,h,h2]
 obtain ⟨d,xs',e,rfl,rfl⟩ := this
 exact e
theorem m_law_box (ns:List Int) (k:Nat):∃ n:Int,runF n_q19 b_q19 [.lst (ns.map .int),.int k] = some [.int n]:= by
 obtain ⟨c,ec⟩ := m_law_cell ns k
 have:∃ d,runF n_q19 b_q19 [.lst (ns.map .int),.int k] = some d ∧ ∃ c,d = [.int c]:= by
  apply runF_ex
  show Ok b_q19 [.pu (.lst (ns.map .int)),.pu (.int k),.un,.un,.un,.un] _
  unfold b_q19
  simp [callD,ec,dMod,dDiv,fInt,dEqF,flat,scal]
  by_cases h:c % 2 = 0
  ·simp [h]
  ·simp [h,rng1,smallI]
   refine ok_for (rngD 0 24) (fun _ δ => ∃ a b x,δ = [.pu (.lst (ns.map .int)),.pu (.int k),.pu (.int c),.pu (.int a),.pu (.int b),x]) ?_ (fun i hk δ hI => ?_) (fun δ hI => ?_)
   ·exact ⟨_,_,_,rfl⟩
   ·obtain ⟨a,b,x,rfl⟩ := hI
    have hk':i < 24 := by simpa [rngD] using hk
    have e2:dMul (.int (7 * (i:Int))) (.int (i:Int)) = some (.int (7 * (i:Int) * (i:Int))) := dMul_s (by omega) (by omega)
    have e3:∀ z:Int,dMul (.int z) (.int 48271) = some (.int (z * 48271)) := fun z => dMul_s (by omega) (by omega)
    have e4:∀ z:Int,dMul (.int z) (.int 2147483647) = some (.int (z * 2147483647)) := fun z => dMul_s (by omega) (by omega)
    have e5:dMul (.int 7) (.int (i:Int)) = some (.int (7 * (i:Int))) := dMul_s (by omega) (by omega)
    have e6:dMul (.int 11) (.int (k:Int)) = some (.int (11 * (k:Int))) := by simp [dMul,fInt]
    rw [rng_get]
    simp [e2,e3,e4,e5,e6,dAdd,fInt]
   ·obtain ⟨a,b,x,rfl⟩ := hI
    simp
 obtain ⟨d,e,c,rfl⟩ := this
 exact ⟨c,e⟩
theorem same_int (n:Nat) (a:Int):m_q15 (n + 1) [.int a,.int a] = some (.bl true):= by
 show runP n_q15 (b_q15 (m_q15 n)) _ = _
 apply runP_of
 show Ok _ [.pu (.int a),.pu (.int a)] _
 unfold b_q15
 simp [isiB,isiD,truD,dEq_int,dEqF,flat,scal]
theorem zip_self (xs:List D):zipD xs xs = xs.map fun x => .tup [x,x]:= by
 induction xs with
 | nil => rfl
 | cons a r ih => simp [zipD,ih]
theorem same_seq (n:Nat) (b:Bool) (xs:List D) (hn:xs.length ≤ 100000) (h:∀ x ∈ xs,m_q15 n [x,x] = some (.bl true)):m_q15 (n + 1) (if b = true then [.tup xs,.tup xs] else [.lst xs,.lst xs]) = some (.bl true):= by
 show runP n_q15 (b_q15 (m_q15 n)) _ = _
 apply runP_of
 cases b
 ·show Ok _ [.pu (.lst xs),.pu (.lst xs)] _
  unfold b_q15
  simp [isiB,isiD,truD,dEq_int,dEqF,flat,scal,dLen]
  refine ok_compA xs (fun x => .tup [x,x]) (fun _ => some (.bl true)) rfl ?_ hn (fun x hx => ?_) ?_
  ·simp [zipIts,seqK,zip_self]
  ·simp [callD,h x hx]
  ·simp [dAll,boolsOf_map',List.filterMap_eq_map]
 ·show Ok _ [.pu (.tup xs),.pu (.tup xs)] _
  unfold b_q15
  simp [isiB,isiD,truD,dEq_int,dEqF,flat,scal,dLen]
  refine ok_compA xs (fun x => .tup [x,x]) (fun _ => some (.bl true)) rfl ?_ hn (fun x hx => ?_) ?_
  ·simp [zipIts,seqK,zip_self]
  ·simp [callD,h x hx]
  ·simp [dAll,boolsOf_map',List.filterMap_eq_map]
end K72
namespace K72
open PySem L2 Jt
noncomputable def LQ (d:D) (xs:List D):Prop := ∃ (m:Int) (hs:List (List Int)) (n:Int),d = layD m hs ∧ xs = [.int n] ∧ 1 ≤ hs.length ∧ hs.length ≤ 6 ∧ ∀ h ∈ hs,h.length ≤ 100
theorem intsD_map (h:List Int):intsD (h.map .int) = some h:= by
 induction h with
 | nil => rfl
 | cons a r ih => simp [intsD,ih]
theorem ded_len (h:List Int):(ded h).length ≤ h.length:= by
 induction h with
 | nil => simp [ded]
 | cons a r ih => unfold ded; split <;> simp <;> omega
theorem isort_len (h:List Int):(isort h).length = h.length := (isort_perm h).length_eq
noncomputable def okQ:Fl -> DS -> Prop := fun fl δ => ∃ d xs',fl = .rt d ∧ δ[0]? = some (.ow true xs') ∧ LQ d xs'
theorem gEq_nil (neg:Bool) (xs:List D):gEq neg (.lst xs) (.lst []) = some (.bl (if neg then !xs.isEmpty else xs.isEmpty)) := dEq_nil neg xs
theorem dIx_some (hs:List (List Int)) (n:Int) (hp:0 < hs.length):∃ h ∈ hs,dIx (.lst (hs.map hD)) (.int (n % (hs.length:Int))) = some (hD h):= by
 have h1 := Int.emod_nonneg n (show (hs.length:Int) ≠ 0 by omega)
 have h2 := Int.emod_lt_of_pos n (show (0:Int) < hs.length by omega)
 obtain ⟨j,hj⟩:∃ j:Nat,n % (hs.length:Int) = (j:Int) := ⟨(n % (hs.length:Int)).toNat,by omega⟩
 have hlt:j < hs.length := by omega
 refine ⟨hs[j],List.getElem_mem hlt,?_⟩
 rw [hj]
 show atI _ _ = _
 rw [atI_nat _ _ (by simpa using hlt)]
 simp
theorem map_erase {α β:Type} (f:α -> β):∀ (l:List α) (j:Nat),(l.map f).eraseIdx j = (l.eraseIdx j).map f
 | [],_ => rfl
 | _ :: _,0 => rfl
 | a :: r,j + 1 => by
  show f a :: (r.map f).eraseIdx j = f a :: (r.eraseIdx j).map f
  rw [map_erase f r j]
theorem dTuple_lst (xs:List D):dTuple [.lst xs] = some (.tup xs) := rfl
noncomputable def P2 (M Z k:Nat) (way:Int) (hs:List (List Int)) (δ:DS):Prop := ∃ (n:Int) (x:D) (cs:List Int) (x7 x8:Jt.Slot),δ = [.ow true [.int n],.pu (.int M),.pu (.int way),.pu (.int Z),.ow false (hs.map hD),.pu (.int k),.pu x,x7,x8,.un,.un] ∧ seqD x = some (cs.map .int) ∧ cs.length ≤ 7 * (k + 1)
noncomputable def P4 (M Z k:Nat) (way:Int) (δ:DS):Prop := ∃ (n:Int) (hs:List (List Int)) (x5 x6 x7 x8:Jt.Slot),δ = [.ow true [.int n],.pu (.int M),.pu (.int way),.pu (.int Z),.ow false (hs.map hD),x5,x6,x7,x8,.un,.un] ∧ hs.length = k ∧ ∀ h ∈ hs,h.length ≤ 7 * k
theorem m_law_layout (n0:Int):∃ d xs',runB n_q3 b_q3 [.int n0] [] = some (d,xs') ∧ LQ d xs':= by
 apply runB_of
 show Ok b_q3 [.ow true [.int n0],.un,.un,.un,.un,.un,.un,.un,.un,.un,.un] okQ
 unfold b_q3
 refine okSeq (fun δ => ∃ n many:Int,δ = [.ow true [.int n],.pu (.int many),.un,.un,.un,.un,.un,.un,.un,.un,.un] ∧ 1 ≤ many ∧ many ≤ 7) ?_ ?_
 ·simp [-Prod.exists,m_law_take,dAdd,fInt]
  exact ⟨_,_,⟨rfl,rfl⟩,by omega,by omega⟩
 rintro _ ⟨n,many,rfl,hm1,hm2⟩
 refine okSeq (fun δ => ∃ n way:Int,δ = [.ow true [.int n],.pu (.int many),.pu (.int way),.un,.un,.un,.un,.un,.un,.un,.un]) ?_ ?_
 ·simp [-Prod.exists,m_law_take]
 rintro _ ⟨n,way,rfl⟩
 refine okSeq (fun δ => ∃ n size:Int,δ = [.ow true [.int n],.pu (.int many),.pu (.int way),.pu (.int size),.un,.un,.un,.un,.un,.un,.un] ∧ 1 ≤ size ∧ size ≤ 6) ?_ ?_
 ·simp [-Prod.exists,m_law_take,dAdd,fInt]
  exact ⟨_,_,⟨rfl,rfl⟩,by omega,by omega⟩
 rintro _ ⟨n,size,rfl,hs1,hs2⟩
 refine okSeqIf (decide (way = 4 ∧ 2 < many)) ?_ (fun hb => ?_) (fun hb => ?_)
 ·by_cases h1:way = 4 <;> by_cases h2:2 < many <;> simp [dEqF,flat,scal,dGt,fInt,h1,h2]
 ·obtain ⟨rfl,hm⟩ := of_decide_eq_true hb
  obtain ⟨N,hN,hN1,hN2⟩:∃ N:Nat,(if 6 < many then 6 else many) = (N:Int) ∧ 3 ≤ N ∧ N ≤ 6:= by
   refine ⟨(if 6 < many then 6 else many).toNat,?_,?_,?_⟩ <;> split <;> omega
  simp [dMin,hN]
  refine ok_compA (List.range N) (fun (k:Nat) => .int (k:Int)) (fun k => some (hD (isort [(k:Int),((k:Int) + 1) % (N:Int)]))) rfl ?_ (by simp; omega) (fun k _ => ?_) ?_
  ·have:smallI N = true := by simp [smallI]; omega
   simp [rng1,this,rngD]
  ·have:0 < N := by omega
   simp [dAdd,dMod,fInt,seqD,sortI,intsD,this,dTuple,hD]
  ·simp [dTuple,seqD,List.filterMap_eq_map]
   refine ⟨_,_,rfl,rfl,many,(List.range N).map fun (k:Nat) => isort [(k:Int),((k:Int) + 1) % (N:Int)],n,by simp [layD],rfl,by simp; omega,by simp; omega,?_⟩
   simp [isort_len]
 refine okSeqIf (decide (way = 5 ∧ 2 < many)) ?_ (fun hb => ?_) (fun hb => ?_)
 ·by_cases h1:way = 5 <;> by_cases h2:2 < many <;> simp [dEqF,flat,scal,dGt,fInt,h1,h2]
 ·obtain ⟨rfl,hm⟩ := of_decide_eq_true hb
  obtain ⟨N,hN,hN1,hN2⟩:∃ N:Nat,(if 6 < many then 6 else many) = (N:Int) ∧ 3 ≤ N ∧ N ≤ 6:= by
   refine ⟨(if 6 < many then 6 else many).toNat,?_,?_,?_⟩ <;> split <;> omega
  have hp:(0:Int) < N - 2 := by omega
  have hq:(N:Int) - 2 < 1073741824 := by omega
  obtain ⟨S,hS,hS1,hS2⟩:∃ S:Nat,3 + n % ((N:Int) - 2) = (S:Int) ∧ 3 ≤ S ∧ S ≤ 6:= by
   have h1 := Int.emod_nonneg n (show (N:Int) - 2 ≠ 0 by omega)
   have h2 := Int.emod_lt_of_pos n hp
   exact ⟨(3 + n % ((N:Int) - 2)).toNat,by omega,by omega,by omega⟩
  simp [-Prod.exists,dMin,hN,dSub,dAdd,fInt,m_law_take _ _ hp hq,hS]
  have hsm:smallI S = true := by simp [smallI]; omega
  refine ok_compA (List.range S) (fun (k:Nat) => .int (k:Int)) (fun k => some (hD (((List.range S).filter fun i => decide (i ≠ k)).map fun (i:Nat) => (i:Int)))) rfl ?_ (by simp; omega) (fun k _ => ?_) ?_
  ·simp [rng1,hsm,rngD]
  ·simp
   refine ok_compA (List.range S) (fun (k:Nat) => .int (k:Int)) (fun i => if decide (i ≠ k) = true then some (.int (i:Int)) else none) rfl ?_ (by simp; omega) (fun i _ => ?_) ?_
   ·simp [rng1,hsm,rngD]
   ·by_cases e:i = k <;> simp [dEq_nat,e]
   ·rw [filterMap_ite]
    simp [dTuple,seqD,hD]
  ·simp [dTuple,seqD,List.filterMap_eq_map]
   refine ⟨_,_,rfl,rfl,many,(List.range S).map fun (k:Nat) => (((List.range S).filter fun i => decide (i ≠ k)).map fun (i:Nat) => (i:Int)),n / ((N:Int) - 2),by simp [layD],rfl,by simp; omega,by simp; omega,?_⟩
   simp
   intro k hk
   have := List.length_filter_le (fun i => !decide (i = k)) (List.range S)
   rw [List.length_range] at this
   omega
 obtain ⟨M,rfl⟩:∃ M:Nat,many = (M:Int) := ⟨many.toNat,by omega⟩
 obtain ⟨Z,rfl⟩:∃ Z:Nat,size = (Z:Int) := ⟨size.toNat,by omega⟩
 have hZ1:1 ≤ Z := by omega
 have hZ2:Z ≤ 6 := by omega
 have hM1:1 ≤ M := by omega
 have hM2:M ≤ 7 := by omega
 have sZ:smallI Z = true := by simp [smallI]; omega
 have sM:smallI M = true := by simp [smallI]; omega
 clear hb hm1 hm2 hs1 hs2
 refine okSeq (fun δ => δ = [.ow true [.int n],.pu (.int M),.pu (.int way),.pu (.int Z),.ow false [],.un,.un,.un,.un,.un,.un]) (by simp) ?_
 rintro _ rfl
 refine okSeq (fun δ => ∃ (n:Int) (hs:List (List Int)) (x5 x6 x7 x8:Jt.Slot),δ = [.ow true [.int n],.pu (.int M),.pu (.int way),.pu (.int Z),.ow false (hs.map hD),x5,x6,x7,x8,.un,.un] ∧ hs.length = Z ∧ ∀ h ∈ hs,h.length ≤ 42) ?_ ?_
 ·refine okFor (rngD 0 Z) (fun k δ => P4 M Z k way δ) ?_ ?_ ?_ ?_
  ·simp [rng1,sZ]
  ·exact ⟨n,[],.un,.un,.un,.un,rfl,rfl,by simp⟩
  ·rintro k hk _ ⟨n,hs,x5,x6,x7,x8,rfl,hlen,hw⟩
   have hk':k < Z := by simpa [rngD] using hk
   rw [rng_get,Ok_setP]
   refine ⟨by simp,?_⟩
   simp only [List.set_cons_succ,List.set_cons_zero]
   refine okSeq (fun δ => ∃ (n:Int) (cs:List Int),δ = [.ow true [.int n],.pu (.int M),.pu (.int way),.pu (.int Z),.ow false (hs.map hD),.pu (.int k),.pu (.lst (cs.map .int)),x7,x8,.un,.un] ∧ cs.length ≤ 7) ?_ ?_
   ·simp only [Ok_stP,Ok_bind,Ok_pure]
    refine ok_comp_inv (rngD 0 M) (fun _ acc δ => ∃ (n:Int) (cs:List Int),acc = cs.map .int ∧ δ = [.ow true [.int n],.pu (.int M),.pu (.int way),.pu (.int Z),.ow false (hs.map hD),.pu (.int k),x6,x7,x8,.un,.un]) rfl ?_ (by simp [rngD]; omega) ⟨n,[],rfl,rfl⟩ ?_ ?_
    ·simp [rng1,sM]
    ·rintro j hj acc _ ha hl ⟨n,cs,rfl,rfl⟩
     rw [rng_get]
     by_cases q:n % 3 = 0
     ·simp [-Prod.exists,m_law_take,dEqF,flat,scal,q]
      exact ⟨cs ++ [(j:Int)],by simp⟩
     ·simp [-Prod.exists,m_law_take,dEqF,flat,scal,q]
      exact ⟨cs,rfl⟩
    ·rintro xs _ hx hl ⟨n,cs,rfl,rfl⟩
     have:cs.length ≤ 7 := by simp [rngD] at hx; omega
     exact ⟨by simp,trivial,n,cs,rfl,this⟩
   rintro _ ⟨n,cs,rfl,hcs⟩
   refine okSeq (P2 M Z k way hs) ?_ ?_
   ·refine okIf (fun b δ => δ = [.ow true [.int n],.pu (.int M),.pu (.int way),.pu (.int Z),.ow false (hs.map hD),.pu (.int k),.pu (.lst (cs.map .int)),x7,x8,.un,.un] ∧ (b = true -> hs ≠ [])) ?_ ?_ ?_
    ·by_cases q1:way < 3 <;> by_cases q2:hs = [] <;> simp [dLt,fInt,q1,q2,gEq_nil]
    ·rintro _ ⟨rfl,hne⟩
     have hpos:0 < hs.length := List.length_pos_iff.mpr (hne rfl)
     obtain ⟨h,hh,eh⟩ := dIx_some hs n hpos
     have et := m_law_take n hs.length (by omega) (by omega)
     refine okSeq (fun δ => ∃ n:Int,δ = [.ow true [.int n],.pu (.int M),.pu (.int way),.pu (.int Z),.ow false (hs.map hD),.pu (.int k),.pu (.lst (cs.map .int)),.pu (hD h),x8,.un,.un]) ?_ ?_
     ·simp [-Prod.exists,et,eh]
     rintro _ ⟨n,rfl⟩
     refine okSeq (fun δ => ∃ ds:List Int,δ = [.ow true [.int n],.pu (.int M),.pu (.int way),.pu (.int Z),.ow false (hs.map hD),.pu (.int k),.pu (.lst (cs.map .int)),.pu (hD h),.pu (.lst (ds.map .int)),.un,.un] ∧ ds.length ≤ 7) ?_ ?_
     ·simp only [Ok_stP,Ok_bind,Ok_pure]
      refine ok_compA cs .int (fun c => if (hs.filter fun h => decide (c ∈ h)).isEmpty = true then some (.int c) else none) rfl ?_ (by omega) (fun c hc => ?_) ?_
      ·simp [seqIts]
      ·simp
       refine ok_compO (i := 4) (b := false) hs hD (fun h => if decide (c ∈ h) = true then some (hD h) else none) rfl rfl ?_ (by omega) (fun h hh => ?_) ?_
       ·simp
       ·by_cases q:c ∈ h <;> simp [dIn_h,q]
       ·rw [filterMap_ite]
        cases q:(hs.filter fun h => decide (c ∈ h)) with
        | nil =>
         have q' := List.filter_eq_nil_iff.mp q
         simpa [dEq_nil] using q'
        | cons a r =>
         have q':a ∈ hs.filter fun h => decide (c ∈ h) := by rw [q]; exact List.mem_cons_self
         simp at q'
         simp [dEq_nil]
         exact ⟨a,q'⟩
      ·rw [filterMap_ite]
       refine ⟨by simp,trivial,(cs.filter fun c => (hs.filter fun h => decide (c ∈ h)).isEmpty),rfl,?_⟩
       have := List.length_filter_le (fun c => (hs.filter fun h => decide (c ∈ h)).isEmpty) cs
       omega
     rintro _ ⟨ds,rfl,hds⟩
     simp
     refine ok_comp_inv (h.map .int) (fun _ acc δ => ∃ (n:Int) (cs':List Int),acc = cs'.map .int ∧ δ = [.ow true [.int n],.pu (.int M),.pu (.int way),.pu (.int Z),.ow false (hs.map hD),.pu (.int k),.pu (.lst (cs.map .int)),.pu (hD h),.pu (.lst (ds.map .int)),.un,.un]) rfl ?_ (by have := hw h hh; simp; omega) ⟨n,[],rfl,rfl⟩ ?_ ?_
     ·simp [seqIts_h]
     ·rintro j hj acc _ ha hl ⟨n,cs',rfl,rfl⟩
      rw [List.getElem_map]
      by_cases q:n % 2 = 0
      ·simp [-Prod.exists,m_law_take,dEqF,flat,scal,q]
       exact ⟨cs' ++ [h[j]'(by simpa using hj)],by simp⟩
      ·simp [-Prod.exists,m_law_take,dEqF,flat,scal,q]
       exact ⟨cs',rfl⟩
     ·rintro xs _ hx hl ⟨n,cs',rfl,rfl⟩
      have hb := hw h hh
      have hc:cs'.length ≤ h.length := by simpa using hx
      have hsm:ds.length + cs'.length ≤ 100000 := by omega
      simp [gCat,catL,hsm]
      exact ⟨_,_,ds ++ cs',_,_,rfl,by simp [seqD],by simp; omega⟩
    ·rintro _ ⟨rfl,hne⟩
     simp
     exact ⟨_,_,cs,_,_,rfl,by simp [seqD],by omega⟩
   rintro _ ⟨n,x,cs,x7,x8,rfl,hx,hcs⟩
   refine okSeq (P2 M Z k way hs) ?_ ?_
   ·refine okIf (fun b δ => (∃ n:Int,δ = [.ow true [.int n],.pu (.int M),.pu (.int way),.pu (.int Z),.ow false (hs.map hD),.pu (.int k),.pu x,x7,x8,.un,.un]) ∧ (b = true -> hs ≠ [])) ?_ ?_ ?_
    ·by_cases q1:way = 3 <;> by_cases q2:hs = [] <;> by_cases q3:n % 4 = 0 <;> simp [q3,-Prod.exists,dEqF,flat,scal,q1,q2,gEq_nil,m_law_take]
    ·rintro _ ⟨⟨n,rfl⟩,hne⟩
     have hpos:0 < hs.length := List.length_pos_iff.mpr (hne rfl)
     obtain ⟨h,hh,eh⟩ := dIx_some hs n hpos
     have et := m_law_take n hs.length (by omega) (by omega)
     simp [-Prod.exists,et,eh]
     have := hw h hh
     exact ⟨_,_,h,_,_,rfl,rfl,by omega⟩
    ·rintro _ ⟨⟨n,rfl⟩,hne⟩
     simp
     exact ⟨_,_,cs,_,_,rfl,hx,hcs⟩
   rintro _ ⟨n,x,cs,x7,x8,rfl,hx,hcs⟩
   refine Ok_mAppend ⟨_,_,rfl⟩ ?_
   have hc64:cs.length < 64 := by omega
   have hl1 := ded_len cs
   have hl2 := isort_len (ded cs)
   have eM := m_law_take n M (by omega) (by omega)
   have hl3:hs.length ≤ 100000 := by omega
   by_cases q:isort (ded cs) = []
   ·simp [-Prod.exists,hx,sortSet,intsD_map,hc64,dTuple_lst,truD,q,eM,hl3]
    refine ⟨_,hs ++ [[n % (M:Int)]],_,_,_,_,by simp [hD]; exact ⟨rfl,rfl,rfl,rfl,rfl⟩,by simp [hlen],?_⟩
    intro h hh
    rcases List.mem_append.mp hh with hh | hh
    ·have := hw h hh; omega
    ·rw [List.mem_singleton.mp hh]; simp; omega
   ·simp [-Prod.exists,hx,sortSet,intsD_map,hc64,dTuple_lst,truD,q,hl3]
    refine ⟨_,hs ++ [isort (ded cs)],_,_,_,_,by simp [hD]; exact ⟨rfl,rfl,rfl,rfl,rfl⟩,by simp [hlen],?_⟩
    intro h hh
    rcases List.mem_append.mp hh with hh | hh
    ·have := hw h hh; omega
    ·rw [List.mem_singleton.mp hh]; omega
  ·rintro _ ⟨n,hs,x5,x6,x7,x8,rfl,hlen,hw⟩
   have:(rngD 0 Z).length = Z := by simp [rngD]
   rw [this] at hlen hw
   exact ⟨rfl,n,hs,x5,x6,x7,x8,rfl,hlen,fun h hh => by have := hw h hh; omega⟩
 rintro _ ⟨n,hs,x5,x6,x7,x8,rfl,hlen,hw⟩
 refine okSeq (fun δ => δ = [.ow true [.int n],.pu (.int M),.pu (.int way),.pu (.int Z),.ow false (hs.map hD),x5,x6,x7,x8,.ow false (lD (List.range Z)),.un]) ?_ ?_
 ·have:(Z:Int) < 100000 := by omega
  simp [dRng,this,rng_eq]
 rintro _ rfl
 refine okSeq (fun δ => ∃ (n:Int) (ls os:List Nat),δ = [.ow true [.int n],.pu (.int M),.pu (.int way),.pu (.int Z),.ow false (hs.map hD),x5,x6,x7,x8,.ow false (lD ls),.pu (.lst (lD os))] ∧ os.length = Z ∧ ∀ o ∈ os,o < Z) ?_ ?_
 ·simp only [Ok_stP,Ok_bind,Ok_pure]
  refine ok_comp_inv (rngD 0 Z) (fun k acc δ => ∃ (n:Int) (ls os:List Nat),acc = lD os ∧ δ = [.ow true [.int n],.pu (.int M),.pu (.int way),.pu (.int Z),.ow false (hs.map hD),x5,x6,x7,x8,.ow false (lD ls),.un] ∧ os.length = k ∧ ls.length + k = Z ∧ (∀ o ∈ os,o < Z) ∧ ∀ o ∈ ls,o < Z) rfl ?_ (by simp [rngD]; omega) ⟨n,List.range Z,[],rfl,rfl,rfl,by simp,by simp,by simp⟩ ?_ ?_
  ·simp [rng1,sZ]
  ·rintro k hk acc _ ha hl ⟨n,ls,os,rfl,rfl,h1,h2,h3,h4⟩
   have hk':k < Z := by simpa [rngD] using hk
   have hpos:0 < ls.length := by omega
   have et := m_law_take n ls.length (by omega) (by omega)
   have g1 := Int.emod_nonneg n (show (ls.length:Int) ≠ 0 by omega)
   have g2 := Int.emod_lt_of_pos n (show (0:Int) < ls.length by omega)
   obtain ⟨j,hj⟩:∃ j:Nat,n % (ls.length:Int) = (j:Int) := ⟨(n % (ls.length:Int)).toNat,by omega⟩
   have hlt:j < ls.length := by omega
   rw [hj] at et
   have ll:(lD ls).length = ls.length := by simp [lD]
   rw [rng_get]
   simp only [Ok_turnC,Ok_setP,Ok_pure]
   refine ⟨by simp,?_⟩
   simp only [if_true]
   refine Ok_mPop ⟨_,_,rfl⟩ ?_
   simp [-Prod.exists,ll,et]
   refine ⟨j,rfl,by omega,.int (ls[j]:Int),by simp [lD,hlt],_,ls.eraseIdx j,os ++ [ls[j]],by simp [lD],⟨rfl,map_erase _ ls j⟩,by simp [h1],?_,?_,fun o ho => h4 o (List.mem_of_mem_eraseIdx ho)⟩
   ·rw [List.length_eraseIdx,if_pos hlt]; omega
   ·intro o ho
    rcases List.mem_append.mp ho with ho | ho
    ·exact h3 o ho
    ·rw [List.mem_singleton.mp ho]; exact h4 _ (List.getElem_mem hlt)
  ·rintro xs _ hx hl ⟨n,ls,os,rfl,rfl,h1,h2,h3,h4⟩
   have:(rngD 0 Z).length = Z := by simp [rngD]
   exact ⟨by simp,trivial,n,ls,os,rfl,by omega,h3⟩
 rintro _ ⟨n,ls,os,rfl,h1,h3⟩
 simp
 refine ok_compA os (fun (k:Nat) => .int (k:Int)) (fun k => some (hD (G hs k))) rfl ?_ (by omega) (fun k hk => ?_) ?_
 ·simp [seqIts,lD]
 ·have hlt:k < hs.length := by have := h3 k hk; omega
  have:dIx (.lst (hs.map hD)) (.int (k:Int)) = some (hD (G hs k)) := dIx_hs hlt
  simp [this]
 ·simp [dTuple,seqD,List.filterMap_eq_map]
  refine ⟨_,_,rfl,rfl,M,os.map (G hs),n,by simp [layD],rfl,by simp; omega,by simp; omega,?_⟩
  intro h hh
  obtain ⟨k,hk,rfl⟩ := List.mem_map.mp hh
  have hlt:k < hs.length := by have := h3 k hk; omega
  have:G hs k ∈ hs := by simp [G,hlt]
  have := hw _ this
  omega
end K72
namespace K72
open PySem L2 Jt
noncomputable def pD (p:Nat × Nat):D := .tup [.int (p.1:Int),.int (p.2:Int)]
noncomputable def earsN (hs:List (List Int)) (ls:List Nat):List (Nat × Nat) := ls.filterMap fun n => (holders hs ls n).head?.map fun h => (n,h)
theorem earsD_eq (hs:List (List Int)) (ls:List Nat):earsD (holders hs ls) ls = (earsN hs ls).map pD:= by
 unfold earsD earsN
 rw [List.map_filterMap]
 congr 1
 funext n
 cases (holders hs ls n).head? <;> rfl
noncomputable def goS (hs:List (List Int)):Nat -> List Nat -> List (Nat × Nat) × List Nat
 | 0,ls => ([],ls)
 | f + 1,ls => match earsN hs ls with
  | [] => ([],ls)
  | p :: _ => (p :: (goS hs f (ls.filter fun i => decide (i ≠ p.1))).1,(goS hs f (ls.filter fun i => decide (i ≠ p.1))).2)
theorem goS_nil {hs:List (List Int)} {ls:List Nat} (h:earsN hs ls = []):∀ f,goS hs f ls = ([],ls)
 | 0 => rfl
 | f + 1 => by unfold goS; rw [h]
theorem goS_cons {hs:List (List Int)} {ls:List Nat} {p:Nat × Nat} {r:List (Nat × Nat)} (h:earsN hs ls = p :: r) (f:Nat):goS hs (f + 1) ls = (p :: (goS hs f (ls.filter fun i => decide (i ≠ p.1))).1,(goS hs f (ls.filter fun i => decide (i ≠ p.1))).2):= by
 rw [goS,h]
theorem ear_mem {hs:List (List Int)} {ls:List Nat} {p:Nat × Nat} {r:List (Nat × Nat)} (h:earsN hs ls = p :: r):p.1 ∈ ls ∧ p.2 ∈ holders hs ls p.1:= by
 have:p ∈ earsN hs ls := by rw [h]; exact List.mem_cons_self
 obtain ⟨n,hn,e⟩ := List.mem_filterMap.mp this
 obtain ⟨o,ho,rfl⟩ := Option.map_eq_some_iff.mp e
 exact ⟨hn,List.mem_of_mem_head? ho⟩
theorem holders_mem {hs:List (List Int)} {ls:List Nat} {n o:Nat} (h:o ∈ holders hs ls n):o ∈ ls ∧ o ≠ n:= by
 unfold holders at h
 obtain ⟨h1,h2⟩ := List.mem_filter.mp h
 simp only [Bool.and_eq_true,decide_eq_true_eq] at h2
 exact ⟨h1,h2.1⟩
structure Fn (hs:List (List Int)) (ls:List Nat):Prop where
 n:hs.length ≤ 6
 ln:ls.length ≤ 6
 lt:∀ i ∈ ls,i < hs.length
 w:∀ h ∈ hs,h.length ≤ 100
 nd:ls.Nodup
 pos:1 ≤ ls.length
theorem Fn.fit {hs:List (List Int)} {ls:List Nat} {x:D} (F:Fn hs ls) (h:seqIts x = some (itsOf (lD ls))):Fit hs ls x := ⟨F.n,F.ln,F.lt,F.w,h⟩
theorem filt_len {ls:List Nat} {a:Nat} (h:a ∈ ls):(ls.filter fun i => decide (i ≠ a)).length < ls.length:= by
 have := List.length_filter_lt_length_iff_exists (p := fun i => decide (i ≠ a)) (l := ls)
 exact this.mpr ⟨a,h,by simp⟩
theorem Fn.next {hs:List (List Int)} {ls:List Nat} {p:Nat × Nat} {r:List (Nat × Nat)} (F:Fn hs ls) (h:earsN hs ls = p :: r):Fn hs (ls.filter fun i => decide (i ≠ p.1)):= by
 obtain ⟨h1,h2⟩ := ear_mem h
 obtain ⟨h3,h4⟩ := holders_mem h2
 have := filt_len h1
 refine ⟨F.n,by have := F.ln; omega,fun i hi => F.lt i (List.mem_filter.mp hi).1,F.w,F.nd.filter _,?_⟩
 exact List.length_pos_of_mem (List.mem_filter.mpr ⟨h3,by simpa using h4⟩)
variable {hs:List (List Int)} {ls:List Nat}
theorem m_q21 {x:D} (hx:seqIts x = some (itsOf (lD ls))) (hl:ls.length ≤ 6) (a:Nat):runP n_q21 b_q21 [x,.int a] = some (.tup (lD (ls.filter fun i => decide (i ≠ a)))):= by
 apply runP_of
 show Ok b_q21 [.pu x,.pu (.int a)] _
 unfold b_q21
 simp
 refine ok_compA ls (fun (i:Nat) => .int (i:Int)) (fun i => if decide (i ≠ a) = true then some (.int (i:Int)) else none) rfl ?_ (by omega) (fun i hi => ?_) ?_
 ·simp [hx,lD]
 ·by_cases e:i = a <;> simp [dEq_nat,e]
 ·rw [filterMap_ite]
  simp [dTuple,seqD,lD]
end K72
namespace K72
open PySem L2 Jt
variable {hs:List (List Int)} {ls:List Nat}
theorem m_q12 (m:Int) (F0:Fn hs (List.range hs.length)):runF n_q12 b_q12 [layD m hs] = some ((goS hs hs.length (List.range hs.length)).1.map pD):= by
 apply runF_of
 show Ok b_q12 [.pu (layD m hs),.un,.un,.un] _
 unfold b_q12
 have ea:∀ ls,Fn hs ls -> runF n_q10 b_q10 [layD m hs,.tup (lD ls)] = some ((earsN hs ls).map pD) := fun ls F => by
  rw [m_q10 (F.fit rfl) m,earsD_eq]
 simp [callD,m_q5 m hs F0.n,ea _ F0]
 refine okWhile (fun k δ => ∃ (ls:List Nat) (done:List (Nat × Nat)),δ = [.pu (layD m hs),.pu (.tup (lD ls)),.ow false (done.map pD),.pu (.lst ((earsN hs ls).map pD))] ∧ Fn hs ls ∧ ls.length ≤ k ∧ done.length + k ≤ 6 ∧ done ++ (goS hs k ls).1 = (goS hs hs.length (List.range hs.length)).1) ?_ 8 hs.length _ (by have := F0.n; omega) ?_
 ·rintro k _ ⟨ls,done,rfl,F,hl,hd,hg⟩
  cases q:earsN hs ls with
  | nil =>
   rw [goS_nil q] at hg
   simp [truD]
   simpa using congrArg (List.map pD) hg
  | cons p r =>
   obtain ⟨h1,h2⟩ := ear_mem q
   have hlt := filt_len h1
   cases k with
   | zero => omega
   | succ k =>
    rw [goS_cons q] at hg
    have eb := m_q21 (ls := ls) (x := .tup (lD ls)) rfl F.ln p.1
    have e0:dIx (.lst (pD p :: r.map pD)) (.int 0) = some (pD p) := by simp [dIx,atI,ixN]
    have ei:dIx (pD p) (.int 0) = some (.int (p.1:Int)) := rfl
    simp [truD]
    refine Ok_mAppend ⟨_,_,rfl⟩ ?_
    have hd3:done.length ≤ 100000 := by omega
    simp [e0,hd3,ei,callD,eb,ea _ (F.next q)]
    have ea' := ea _ (F.next q)
    simp at ea'
    simp [ea']
    refine ⟨ls.filter fun i => decide (i ≠ p.1),done ++ [p],by simp,F.next q,by omega,by simp; omega,by simpa using hg⟩
 ·exact ⟨List.range hs.length,[],rfl,F0,by simp,by have := F0.n; simpa using this,by simp⟩
theorem lD_map (ls:List Nat):lD ls = (ls.map fun (i:Nat) => (i:Int)).map D.int := by simp [lD]
theorem idxOf_map (a:Nat):∀ ls:List Nat,(ls.map fun (i:Nat) => (i:Int)).idxOf (a:Int) = ls.idxOf a
 | [] => rfl
 | b :: r => by
  rw [List.map_cons,List.idxOf_cons,List.idxOf_cons,idxOf_map a r]
  by_cases e:b = a
  ·subst e; simp
  ·have:((b:Int) == (a:Int)) = false := by simpa using fun h => e (by omega)
   rw [this,show (b == a) = false by simpa using e]
theorem erase_filter (a:Nat):∀ ls:List Nat,ls.Nodup -> a ∈ ls -> ls.eraseIdx (ls.idxOf a) = ls.filter fun i => decide (i ≠ a)
 | [],_,h => by cases h
 | b :: r,nd,h => by
  have nd' := List.nodup_cons.mp nd
  by_cases e:b = a
  ·subst e
   rw [List.idxOf_cons_self,List.eraseIdx_cons_zero,List.filter_cons,if_neg (by simp)]
   symm
   rw [List.filter_eq_self]
   intro c hc
   have:c ≠ b := fun ec => nd'.1 (ec ▸ hc)
   simpa using this
  ·have hr:a ∈ r := (List.mem_cons.mp h).resolve_left fun ea => e ea.symm
   rw [List.idxOf_cons,show (b == a) = false by simpa using e]
   simp only [cond_false]
   rw [List.eraseIdx_cons_succ,List.filter_cons,if_pos (by simpa using e),erase_filter a r nd'.2 hr]
theorem tupFlat_ears (ps:List (Nat × Nat)):(ps.map pD).all tupFlat = true:= by
 rw [List.all_map,List.all_eq_true]
 intro p _
 rfl
theorem m_q9 (m:Int) (F0:Fn hs (List.range hs.length)):runF n_q9 b_q9 [layD m hs] = some ((goS hs hs.length (List.range hs.length)).1.map pD):= by
 apply runF_of
 show Ok b_q9 [.pu (layD m hs),.un,.un] _
 unfold b_q9
 have ea:∀ ls,Fn hs ls -> lentF 2 (runF n_q13 b_q13) [layD m hs,.lst (lD ls)] = some ((earsN hs ls).map pD) := fun ls F => by
  unfold lentF
  rw [m_law_ears (F.fit rfl) m,earsD_eq]
  simp [tupFlat_ears]
  intro a b h
  rfl
 have hI:(hs.length:Int) < 100000 := by have := F0.n; omega
 simp [dIx_lay1,dLen,dRng,hI,rng_eq]
 refine okWhile (fun k δ => ∃ (ls:List Nat) (done:List (Nat × Nat)),δ = [.pu (layD m hs),.ow false (lD ls),.ow false (done.map pD)] ∧ Fn hs ls ∧ ls.length ≤ k ∧ done.length + k ≤ 6 ∧ done ++ (goS hs k ls).1 = (goS hs hs.length (List.range hs.length)).1) ?_ 8 hs.length _ (by have := F0.n; omega) ?_
 ·rintro k _ ⟨ls,done,rfl,F,hl,hd,hg⟩
  cases q:earsN hs ls with
  | nil =>
   rw [goS_nil q] at hg
   simp [ea _ F,q,dEq_nil]
   simpa using congrArg (List.map pD) hg
  | cons p r =>
   obtain ⟨h1,h2⟩ := ear_mem q
   have hlt := filt_len h1
   cases k with
   | zero => omega
   | succ k =>
    rw [goS_cons q] at hg
    have e0:dIx (.lst (pD p :: r.map pD)) (.int 0) = some (pD p) := by simp [dIx,atI,ixN]
    have ei:dIx (pD p) (.int 0) = some (.int (p.1:Int)) := rfl
    have el:dIx (.lst (done.map pD ++ [pD p])) (.int (-1)) = some (pD p):= by
     show atI _ _ = _
     unfold atI ixN
     rw [if_neg (by omega),if_pos (by simp; omega)]
     simp
     rw [show (-1 + ((done.length:Int) + 1)).toNat = done.length by omega]
     rw [List.getElem?_append_right (by simp)]
     simp
    have hd3:done.length ≤ 100000 := by omega
    simp [ea _ F,q,dEq_nil]
    refine Ok_mAppend ⟨_,_,rfl⟩ ?_
    simp [ea _ F,q,e0,hd3]
    refine Ok_mRemove ⟨_,_,rfl⟩ ?_
    simp [dNeg,el,ei]
    refine ⟨ls.map fun (i:Nat) => (i:Int),lD_map ls,List.mem_map.mpr ⟨p.1,h1,rfl⟩,?_⟩
    rw [idxOf_map,er_map,erase_filter p.1 ls F.nd h1]
    refine ⟨ls.filter fun i => decide (i ≠ p.1),done ++ [p],⟨by rw [lD_map],by simp⟩,F.next q,by omega,by simp; omega,by simpa using hg⟩
 ·exact ⟨List.range hs.length,[],rfl,F0,by simp,by have := F0.n; simpa using this,by simp⟩
end K72
namespace K72
open PySem L2 Jt
theorem same_h (n:Nat) (h:List Int) (hn:h.length ≤ 100000):m_q15 (n + 2) [hD h,hD h] = some (.bl true) :=
 same_seq (n + 1) true (h.map .int) (by simpa using hn) fun x hx => by
  obtain ⟨a,_,rfl⟩ := List.mem_map.mp hx
  exact same_int n a
theorem same_steps (ps:List (Nat × Nat)) (hn:ps.length ≤ 100000):lent 2 (m_q15 4) [.lst (ps.map pD),.lst (ps.map pD)] = some (.bl true):= by
 have e:m_q15 4 [.lst (ps.map pD),.lst (ps.map pD)] = some (.bl true):= by
  refine same_seq 3 false (ps.map pD) (by simpa using hn) fun x hx => ?_
  obtain ⟨p,_,rfl⟩ := List.mem_map.mp hx
  exact same_h 1 [(p.1:Int),(p.2:Int)] (by simp)
 simp [lent,e,flatOnly,flat]
end K72
namespace K72
open PySem L2 Jt
noncomputable abbrev s_q17:Stmt := top 31
noncomputable abbrev n_q17:List Str := ["_law_e","_law_kinds","_law_words"]
theorem sc_q17:FnScope n_q17 ["_law_e"] (defScope s_q17) := ⟨rfl,rfl,rfl,by decide +kernel,rfl,by decide +kernel,by decide +kernel⟩
noncomputable def kwords:List Str := ["layout","head","column","tree","order","tables","deed","number","row","text","bound","many"]
section
variable {P:Program} {w:World} {K:PySem.W.Frag} {mg:Str -> Option Value} {base:Heap}
noncomputable abbrev xk (P:Program) (w:World) (K:PySem.W.Frag) (mg:Str -> Option Value) (base:Heap) (f:Addr) (cdv:Value) (A:Around) (outer:List Env) (s:Shared) (H:Hp) (a:Addr) (o:Obj):Cx := cxK P w K mg base n_q17 "_law_kind" (defScope s_q17) f cdv A outer s H a o
structure Cls12 (K:PySem.W.Frag) (mg:Str -> Option Value) (D:Addr) (cs:List Addr) (bs:List Bool):Prop where
 mi:mg "isinstance" = none
 mv:mg "ValueError" = none
 mt:mg "int" = none
 mu:mg "sum" = none
 ve:PySem.W.kitOne K (.ref D) (.type "ValueError") = some true
 ms:(["NoLayout","NoHead","NoColumn","NoTree","NoOrder","NoTables","NoDeed","NoNumber","NoRow","NoText","Bound","TooMany"]:List Str).map mg = cs.map fun C => some (.ref C)
 ks:cs.map (fun C => PySem.W.kitOne K (.ref D) (.ref C)) = bs.map some
noncomputable def tRow (a:Addr) (p q r t:Bool):TE := tLst (tCons (tIsx 0 a p) (tCons (tIsx 0 a q) (tCons (tIsx 0 a r) (tCons (tIsx 0 a t) tNil))))
structure PAz (X:Cx) (es:List Expr) (t:TA):Prop where
 un:PA X es t
structure PEz (X:Cx) (e:Expr) (t:TE):Prop where
 un:PE X e t
theorem paz_nil {X:Cx}:PAz X [] tNil := ⟨pa_nil⟩
theorem paz_S {X:Cx} {es:List Expr} {t:TA} {x:Str} {j:Nat} {p:Pos} (h:PAz X es t):PAz X (.Constant (.str x) j p :: es) (tCons (tC (.str x)) t) := ⟨pa_cons pe_str h.un st_const⟩
noncomputable def rAddS:V -> V -> Hp -> VK -> Prop := fun x y H Q => ∃ i j,x = .str i ∧ y = .str j ∧ i.length + j.length ≤ sizeLine ∧ Q (.str (i ++ j)) H
noncomputable def tKind (K:PySem.W.Frag) (a:Addr) (b1 b2 b3 b4 b5 b6 b7 b8 b9 b10 b11 b12:Bool):TS :=
 tSeq (tAsg (tRow a b1 b2 b3 b4) (gName 1)) (tSeq (tAsg (tOp rCatL (tVar 1) (tRow a b5 b6 b7 b8)) (gName 1)) (tSeq (tAsg (tOp rCatL (tVar 1) (tRow a b9 b10 b11 b12)) (gName 1))
  (tSeq (tIfS (tOr (tNot (fun σ H Q => tIsx 0 a true σ H fun x H' => ∃ k,TruV K x H' k ∧ Q k H')) (tTest (tOp rNe (tCB rSum01 (tCons (tComp (iList K (tVar 1)) 1 (gName 3) tYes (tCB rInt1 (tCons (tVar 3) tNil))) tNil)) (tC (.int 1))))) (tRet (tC (.str "! none of the classes"))) tNext)
  (tSeq (tAsg (tLst (tCons (tC (.str "layout")) (tCons (tC (.str "head")) (tCons (tC (.str "column")) (tCons (tC (.str "tree")) (tCons (tC (.str "order")) (tCons (tC (.str "tables")) (tCons (tC (.str "deed")) (tCons (tC (.str "number")) (tCons (tC (.str "row")) (tCons (tC (.str "text")) (tCons (tC (.str "bound")) (tCons (tC (.str "many")) tNil))))))))))))) (gName 2))
  (tRet (tOp rAddS (tC (.str "! ")) (tOp (rIx K) (tVar 2) (tBM K "list" rIndexT (tVar 1) (tCons (tC (.bl true)) tNil)))))))))
theorem kind_asg (X:Cx) (y:Str) (es:List Expr) (t:TA) (rest:List Stmt) (r:TS) (a1 a2 a3:Pos) (hN:X.N.Nodup) (hi:X.N[2]? = some y) (hx:Loc X.env.scope y) (hf:X.fn y = true ∨ X.env.scope.names.lookup y = some .local) (h:PAz X es t) (hr:PSs X rest r) :
  PSs X (.Assign [.Name y a1] (.List es a2) a3 :: rest) (tSeq (tAsg (tLst t) (gName 2)) r) := pss_cons (ps_set hN hi hx (pe_lst h.un) sw_list hf) hr
theorem kind_ps {f D c1 c2 c3 c4 c5 c6 c7 c8 c9 c10 c11 c12:Addr} {b1 b2 b3 b4 b5 b6 b7 b8 b9 b10 b11 b12:Bool} {cdv:Value} {A:Around} {outer:List Env} {s:Shared} {H:Hp} {a:Addr} {o:Obj} (E:ExcK K D) (Z:Cls12 K mg D [c1,c2,c3,c4,c5,c6,c7,c8,c9,c10,c11,c12] [b1,b2,b3,b4,b5,b6,b7,b8,b9,b10,b11,b12]) (z:ExO (.ref D) o) (hh:A.handled = some (.ref a)) :
  PSs (xk P w K mg base f cdv A outer s H a o) (defBody s_q17) (tKind K a b1 b2 b3 b4 b5 b6 b7 b8 b9 b10 b11 b12):= by
 have ms := Z.ms
 have ks := Z.ks
 simp only [List.map_cons,List.map_nil,List.cons.injEq,and_true] at ms ks
 obtain ⟨m1,m2,m3,m4,m5,m6,m7,m8,m9,m10,m11,m12⟩ := ms
 obtain ⟨k1,k2,k3,k4,k5,k6,k7,k8,k9,k10,k11,k12⟩ := ks
 have mem:(a,o) ∈ (xk P w K mg base f cdv A outer s H a o).pn := List.mem_cons_self
 have hd:HdX (xk P w K mg base f cdv A outer s H a o):= by
  refine ⟨a,o,⟨hh,?_⟩,mem⟩
  obtain ⟨t,T,rfl⟩ := z
  exact ⟨_,rfl,rfl⟩
 have isx:∀ {y:Str} {C:Addr} {b:Bool} {p1 p2 p3 p4:Pos},PySem.W.kitOne K (.ref D) (.ref C) = some b -> mg y = some (.ref C) -> Gl (xk P w K mg base f cdv A outer s H a o) y -> (y == ("__debug__":Str)) = false -> PE (xk P w K mg base f cdv A outer s H a o) (.Call (.Name "isinstance" p1) [.Name "_law_e" p2,.Name y p3] [] p4) (tIsx 0 a b) :=
  fun {y C b p1 p2 p3 p4} e m g d => pe_isx (X := xk P w K mg base f cdv A outer s H a o) (i := 0) (x := "_law_e") E mem z e Z.mi m rfl (.inl rfl) rfl g (by decide) (by decide) d
 have isv:∀ {p1 p2 p3 p4:Pos},PE (xk P w K mg base f cdv A outer s H a o) (.Call (.Name "isinstance" p1) [.Name "_law_e" p2,.Name "ValueError" p3] [] p4) (tIsx 0 a true) :=
  fun {p1 p2 p3 p4} => pe_isxT (X := xk P w K mg base f cdv A outer s H a o) (i := 0) (x := "_law_e") E mem z Z.ve Z.mi Z.mv (by decide +kernel) rfl (.inl rfl) rfl rfl (by decide) (by decide) (by decide) (by decide)
 have kn:∀ {p:Pos},PE (xk P w K mg base f cdv A outer s H a o) (.Name "_law_kinds" p) (tVar 1) := fun {p} => pe_var rfl (.inl rfl)
 have wn:∀ {p:Pos},PE (xk P w K mg base f cdv A outer s H a o) (.Name "_law_words" p) (tVar 2) := fun {p} => pe_var rfl (.inl rfl)
 have nd := sc_q17.nd
 unfold tKind
 refine pss_cons ?_ ?_
 ·exact ps_set (X := xk P w K mg base f cdv A outer s H a o) (i := 1) (x := "_law_kinds") nd rfl (.inl rfl) (pe_lst (pa_cons (isx k1 m1 rfl rfl) (pa_cons (isx k2 m2 rfl rfl) (pa_cons (isx k3 m3 rfl rfl) (pa_cons (isx k4 m4 rfl rfl) pa_nil))))) rfl (.inr rfl)
 refine pss_cons ?_ ?_
 ·exact ps_set (X := xk P w K mg base f cdv A outer s H a o) (i := 1) (x := "_law_kinds") nd rfl (.inl rfl) (pe_op op_catL kn (pe_lst (pa_cons (isx k5 m5 rfl rfl) (pa_cons (isx k6 m6 rfl rfl) (pa_cons (isx k7 m7 rfl rfl) (pa_cons (isx k8 m8 rfl rfl) pa_nil)))))) rfl (.inr rfl)
 refine pss_cons ?_ ?_
 ·exact ps_set (X := xk P w K mg base f cdv A outer s H a o) (i := 1) (x := "_law_kinds") nd rfl (.inl rfl) (pe_op op_catL kn (pe_lst (pa_cons (isx k9 m9 rfl rfl) (pa_cons (isx k10 m10 rfl rfl) (pa_cons (isx k11 m11 rfl rfl) (pa_cons (isx k12 m12 rfl rfl) pa_nil)))))) rfl (.inr rfl)
 refine pss_cons ?_ ?_
 ·refine ps_if (PW.pt (pw_or (pt_not (pt_truth isv (by intro _; rfl))) (pw_or1 (pt_cmpR op_ne (pe_callB (call_sumH hd) rfl Z.mu (by decide +kernel) (pa_cons (pe_compH (N' := n_q17) (own := ["_law_kind_here"]) hd (pig_listH kn) (fun _ _ _ _ => pg_name (i := 3) (x := "_law_kind_here") (show (n_q17 ++ (["_law_kind_here"]:List Str):List Str).Nodup by decide +kernel) rfl (.inl rfl)) (fun _ _ _ _ => pts_nil) (fun _ _ _ _ => pe_callTy call_int1 rfl Z.mt (by decide +kernel) (pa_cons (pe_var (i := 3) rfl (.inl rfl)) pa_nil))) pa_nil)) pe_int rfl)))) (pss_one (ps_ret pe_str)) pss_nil
 refine @kind_asg (xk P w K mg base f cdv A outer s H a o) "_law_words" _ _ _ _ _ _ _ nd rfl (.inl rfl) (.inr rfl) (paz_S (paz_S (paz_S (paz_S (paz_S (paz_S (paz_S (paz_S (paz_S (paz_S (paz_S (paz_S paz_nil)))))))))))) ?_
 exact pss_one (ps_ret (pe_op op_add_str pe_str (pe_ix ix_seq wn (pe_bm PySem.F.plainAttrs_list PySem.F.slot_list_index PySem.F.type_list_index mt_indexT kn (pa_cons pe_bl pa_nil)) (fun _ _ => rfl))))
theorem upd_me {H:Hp} {p:Addr} {v:HO}:upd H p v p = some v := by simp [upd]
theorem upd_old {H:Hp} {p q:Addr} {v u:HO} (h:H q = some u) (hp:H p = none):upd H p v q = some u:= by
 have:q ≠ p := fun e => by rw [e,hp] at h; cases h
 simp [upd,this,h]
theorem same_up {H H':Hp} {p:Addr} {v:HO} (s:Same H H') (h:H' p = none):Same H (upd H' p v) := fun b o e => upd_old (s b o e) h
theorem run_sum {σ:L2.St} {H:Hp} {l:Addr} {bs:List Bool} {i0 n:Nat} {Q:Bool -> Hp -> Prop} (hσ:σ[i0]? = some (some (.ref l))) (hn:σ.length = n) (hl:H l = some (.lst (bs.map V.bl))) (hlen:bs.length ≤ 100) (hc:bs.count true = 1) (hQ:∀ H',Same H H' -> Q false H') :
  tTest (tOp rNe (tCB rSum01 (tCons (tComp (iList K (tVar i0)) 1 (gName n) tYes (tCB rInt1 (tCons (tVar n) tNil))) tNil)) (tC (.int 1))) σ H Q:= by
 have key:tComp (iList K (tVar i0)) 1 (gName n) tYes (tCB rInt1 (tCons (tVar n) tNil)) σ H (fun x H1 => rSum01 [x] H1 fun y H2 => rNe y (.int 1) H2 fun z H3 => ∃ b,z = .bl b ∧ Q b H3):= by
  refine run_ints hσ hn hl hlen fun l' H6 sm h6 => ⟨l',bs,rfl,h6,hlen,?_⟩
  rw [hc]
  exact ⟨rfl,false,rfl,hQ H6 sm⟩
 exact key
theorem kind_run {a:Addr} {b1 b2 b3 b4 b5 b6 b7 b8 b9 b10 b11 b12:Bool} {Q:VK} {H:Hp} {j:Nat} {wd:Str} (hc:[b1,b2,b3,b4,b5,b6,b7,b8,b9,b10,b11,b12].count true = 1) (hj:[b1,b2,b3,b4,b5,b6,b7,b8,b9,b10,b11,b12][j]? = some true)
  (hno:∀ m,m < j -> [b1,b2,b3,b4,b5,b6,b7,b8,b9,b10,b11,b12][m]? = some false) (hw:kwords[j]? = some wd) (hwl:wd.length ≤ 100) (hQ:∀ H',Same H H' -> Q (.str (("! ":Str) ++ wd)) H') :
  tKind K a b1 b2 b3 b4 b5 b6 b7 b8 b9 b10 b11 b12 { nx := fun _ H' => Q .non H',rt := Q } (L2.start n_q17 [.ref a]) H:= by
 have s0:Same H H := fun _ _ e => e
 refine ⟨rfl,rfl,rfl,rfl,show 4 ≤ sizeLine by decide,fun p1 n1 => ?_⟩
 have s1 := same_up (v := .lst [.bl b1,.bl b2,.bl b3,.bl b4]) s0 n1
 refine ⟨.ref p1,rfl,rfl,rfl,rfl,rfl,show 4 ≤ sizeLine by decide,fun p2 n2 => ?_⟩
 have s2 := same_up (v := .lst [.bl b5,.bl b6,.bl b7,.bl b8]) s1 n2
 refine ⟨p1,p2,_,_,rfl,rfl,.inl (upd_old upd_me n2),.inl upd_me,show 8 ≤ sizeLine by decide,fun p3 n3 => ?_⟩
 have s3 := same_up (v := .lst ([.bl b1,.bl b2,.bl b3,.bl b4] ++ [.bl b5,.bl b6,.bl b7,.bl b8])) s2 n3
 refine ⟨.ref p3,rfl,rfl,rfl,rfl,rfl,show 4 ≤ sizeLine by decide,fun p4 n4 => ?_⟩
 have s4 := same_up (v := .lst [.bl b9,.bl b10,.bl b11,.bl b12]) s3 n4
 refine ⟨p3,p4,_,_,rfl,rfl,.inl (upd_old upd_me n4),.inl upd_me,show 12 ≤ sizeLine by decide,fun p5 n5 => ?_⟩
 have s5 := same_up (v := .lst ([b1,b2,b3,b4,b5,b6,b7,b8,b9,b10,b11,b12].map V.bl)) s4 n5
 refine ⟨rfl,true,rfl,?_⟩
 show tTest (tOp rNe (tCB rSum01 (tCons (tComp (iList K (tVar 1)) 1 (gName 3) tYes (tCB rInt1 (tCons (tVar 3) tNil))) tNil)) (tC (.int 1))) _ _ _
 refine run_sum (l := p5) (bs := [b1,b2,b3,b4,b5,b6,b7,b8,b9,b10,b11,b12]) rfl rfl upd_me (show 12 ≤ 100 by decide) hc fun H6 sm => ?_
 have s6:Same H H6 := fun b o e => sm b o (s5 b o e)
 have h5:H6 p5 = some (.lst ([b1,b2,b3,b4,b5,b6,b7,b8,b9,b10,b11,b12].map V.bl)) := sm _ _ upd_me
 dsimp only
 rw [if_neg (by decide)]
 refine ⟨show 12 ≤ sizeLine by decide,fun p6 n6 => ?_⟩
 have s7 := same_up (v := .lst (kwords.map V.str)) s6 n6
 have h5' := upd_old (v := .lst (kwords.map V.str)) h5 n6
 refine ⟨.ref p6,rfl,.ref p5,rfl,.inl ⟨rfl,_,.inl (.inl h5')⟩,p5,[b1,b2,b3,b4,b5,b6,b7,b8,b9,b10,b11,b12],j,rfl,rfl,h5',by simp,hj,hno,.inl ⟨p6,_,j,.str wd,rfl,rfl,.inl (.inl upd_me),?_,_,_,rfl,rfl,?_,hQ _ s7⟩⟩
 ·show atI (kwords.map V.str) (j:Int) = some (.str wd)
  exact L2.atI_nat (by rw [List.getElem?_map,hw]; rfl)
 ·have:(("! ":Str)).length = 2 := by decide +kernel
  rw [this]
  exact Nat.le_trans (Nat.add_le_add_left hwl 2) (by decide)
theorem ok_q17 {k:Nat} {f D c1 c2 c3 c4 c5 c6 c7 c8 c9 c10 c11 c12:Addr} {fd:FuncData} {b1 b2 b3 b4 b5 b6 b7 b8 b9 b10 b11 b12:Bool} {j:Nat} {wd:Str} (F:Fun K "_law_kind" "_law_kind" s_q17 f fd) (E:ExcK K D)
  (Z:Cls12 K mg D [c1,c2,c3,c4,c5,c6,c7,c8,c9,c10,c11,c12] [b1,b2,b3,b4,b5,b6,b7,b8,b9,b10,b11,b12]) (hc:[b1,b2,b3,b4,b5,b6,b7,b8,b9,b10,b11,b12].count true = 1) (hj:[b1,b2,b3,b4,b5,b6,b7,b8,b9,b10,b11,b12][j]? = some true)
  (hno:∀ m,m < j -> [b1,b2,b3,b4,b5,b6,b7,b8,b9,b10,b11,b12][m]? = some false) (hw:kwords[j]? = some wd) (hwl:wd.length ≤ 100):FnH P w K mg base (k + 1) f fd ["_law_e"] D (.str (("! ":Str) ++ wd)) :=
 fnH F sc_q17 rfl fun cdv A outer s H a o z hh => ⟨_,kind_ps E Z z hh,fun Q hQ => kind_run hc hj hno hw hwl hQ⟩
end
end K72
namespace K72
open PySem L2 Jt
section
variable {α β:Type} {δ:DS}
@[simp] theorem Ok_okX {f:M α} {Q:α ⊕ Addr -> DS -> Prop}:Ok (okX f) δ Q ↔ Ok f δ fun a δ' => Q (.inl a) δ' := by simp [okX]
theorem Ok_bX {x:M (α ⊕ Addr)} {f:α -> M (β ⊕ Addr)} {Q:β ⊕ Addr -> DS -> Prop}:Ok (bX x f) δ Q ↔ Ok x δ fun r δ' => match r with | .inl a => Ok (f a) δ' Q | .inr C => Q (.inr C) δ':= by
 unfold bX
 rw [Ok_bind]
 refine Iff.intro (fun ⟨r,δ1,e,q⟩ => ⟨r,δ1,e,?_⟩) fun ⟨r,δ1,e,q⟩ => ⟨r,δ1,e,?_⟩
 ·cases r with
  | inl a => exact q
  | inr C => exact Ok_pure.mp q
 ·cases r with
  | inl a => exact q
  | inr C => exact Ok_pure.mpr q
@[simp] theorem Ok_raiseX {C:Addr} {fs:M (List D)} {Q:Fl ⊕ Addr -> DS -> Prop}:Ok (raiseX C fs) δ Q ↔ Ok fs δ fun ds δ' => Ok (lift (few ds.length)) δ' fun _ δ2 => Q (.inr C) δ2 := by simp [raiseX]
theorem runX_of {N:List Str} {body:M (Fl ⊕ Addr)} {ds:List D} {r:D ⊕ Addr} (h:Ok body (entry N ds) fun z _ => match r with | .inl d => z = .inl (.rt d) | .inr C => z = .inr C):runX N body ds = some r:= by
 obtain ⟨z,δ',e,q⟩ := h
 unfold runX
 rw [e]
 cases r with
 | inl d => have q:z = .inl (.rt d) := q; subst q; rfl
 | inr C => have q:z = .inr C := q; subst q; rfl
theorem Ok_tryRE {ie:Nat} {kn:Addr -> Option Str} {fx:M (Fl ⊕ Addr)} {Q:Fl -> DS -> Prop} {C:Addr} {w:Str} (hk:kn C = some w) (h:Ok fx δ fun r δ' => r = .inr C ∧ δ'[ie]? = some .un ∧ Q (.rt (.str w)) δ'):Ok (tryR ie kn fx) δ Q:= by
 obtain ⟨r,δ',e,rfl,h1,q⟩ := h
 exact ⟨_,_,by unfold tryR; rw [e]; simp only [hk,h1],q⟩
theorem Ok_tryRL {ie:Nat} {kn:Addr -> Option Str} {fx:M (Fl ⊕ Addr)} {Q:Fl -> DS -> Prop} (h:Ok fx δ fun r δ' => ∃ fl,r = .inl fl ∧ Q fl δ'):Ok (tryR ie kn fx) δ Q:= by
 obtain ⟨r,δ',e,fl,rfl,q⟩ := h
 exact ⟨fl,δ',by unfold tryR; rw [e],q⟩
end
variable {hs:List (List Int)}
noncomputable def dueL (ps:List (Nat × Nat)):List (Nat × Nat) := (ps.map fun p => (p.2,p.1)) ++ ps.reverse
theorem seqIts_lst (xs:List D):seqIts (.lst xs) = some (itsOf xs) := rfl
theorem m_q20 (ps:List (Nat × Nat)) (h:ps.length ≤ 6):runF n_q20 b_q20 [.lst (ps.map pD)] = some ((dueL ps).map pD):= by
 apply runF_of
 show Ok b_q20 [.pu (.lst (ps.map pD))] _
 unfold b_q20
 simp only [Ok_bind,Ok_m2H,Ok_pure]
 refine ok_compA ps pD (fun p => some (pD (p.2,p.1))) rfl ?_ (by omega) (fun p _ => ?_) ?_
 ·simp [seqIts_lst]
 ·simp [pD,gTupM,gsCons,gsNil]
 ·have e1:ps.filterMap (fun p => some (pD (p.2,p.1))) = ps.map fun p => pD (p.2,p.1) := by rw [List.filterMap_eq_map']
  rw [e1]
  refine ok_compA ps.reverse pD (fun p => some (pD p)) rfl ?_ (by simp; omega) (fun p _ => ?_) ?_
  ·have:revIts [.lst (ps.map pD)] = some (itsOf (ps.reverse.map pD)):= by
    show some (itsOf (ps.map pD).reverse) = _
    rw [List.map_reverse]
   simp [this]
  ·simp [pD,gTupM,gsCons,gsNil]
  ·have e2:ps.reverse.filterMap (fun p => some (pD p)) = ps.reverse.map pD := by rw [List.filterMap_eq_map']
   rw [e2]
   have g:gCat (.lst (ps.map fun p => pD (p.2,p.1))) (.lst (ps.reverse.map pD)) = some ((dueL ps).map pD):= by
    show (if _ then _ else _) = _
    rw [if_pos (by simp; omega),dueL,List.map_append,List.map_map]
    rfl
   rw [List.map_reverse] at g ⊢
   simp [g]
noncomputable abbrev stp (hs:List (List Int)):List (Nat × Nat) := (goS hs hs.length (List.range hs.length)).1
theorem stp_len (hs:List (List Int)):(stp hs).length ≤ hs.length:= by
 have:∀ (f:Nat) (ls:List Nat),(goS hs f ls).1.length ≤ f := fun f => by
  induction f with
  | zero => intro ls; simp [goS]
  | succ f ih =>
   intro ls
   cases q:earsN hs ls with
   | nil => rw [goS_nil q]; simp
   | cons p r => rw [goS_cons q]; have := ih (ls.filter fun i => decide (i ≠ p.1)); simp at this ⊢; omega
 exact this hs.length (List.range hs.length)
theorem less (a b:Nat):dLt (.int (a:Int)) (.int ((b:Int) - 1)) = some (.bl (decide (a + 1 < b))):= by
 simp [dLt,fInt]
 omega
section
variable (m:Int) (F0:Fn hs (List.range hs.length))
include F0
theorem m_one_n (h:¬ (stp hs).length + 1 < hs.length):runF n_q0 b_q0 [layD m hs] = some ((stp hs).map pD):= by
 apply runF_of
 show Ok b_q0 [.pu (layD m hs),.un] _
 unfold b_q0
 have e := m_q12 m F0
 have e1 := dIx_lay1 m hs
 have el := less (stp hs).length hs.length
 rw [decide_eq_false h] at el
 have es:dSub (.int (hs.length:Int)) (.int 1) = some (.int ((hs.length:Int) - 1)) := by simp [dSub,fInt]
 have en:dLen [.tup (hs.map hD)] = some (.int (hs.length:Int)) := by simp [dLen]
 generalize layD m hs = lay at *
 generalize hs.map hD = hd at *
 refine okSeq (fun δ => δ = [.pu lay,.ow false ((stp hs).map pD)]) (by simp [callD,e]) ?_
 rintro _ rfl
 have ll:((stp hs).map pD).length = (stp hs).length := List.length_map ..
 generalize (stp hs).map pD = sd at *
 refine okSeq (fun δ => δ = [.pu lay,.ow false sd]) ?_ ?_
 ·refine okIf (fun b δ => b = false ∧ δ = [.pu lay,.ow false sd]) ?_ (fun _ h => by cases h.1) ?_
  ·simp [e1,en,es,ll,el]
  ·rintro _ ⟨_,rfl⟩
   exact Ok_pure.mpr ⟨rfl,rfl⟩
 rintro _ rfl
 simp
theorem m_one (C:Addr) (h:(stp hs).length + 1 < hs.length):runX n_q1 (b_q1 C) [layD m hs] = some (.inr C):= by
 apply runX_of
 show Ok (b_q1 C) [.pu (layD m hs),.un] _
 unfold b_q1 seqX
 have e := m_q12 m F0
 have e1 := dIx_lay1 m hs
 have el := less (stp hs).length hs.length
 rw [decide_eq_true h] at el
 have es:dSub (.int (hs.length:Int)) (.int 1) = some (.int ((hs.length:Int) - 1)) := by simp [dSub,fInt]
 have en:dLen [.tup (hs.map hD)] = some (.int (hs.length:Int)) := by simp [dLen]
 have ln:dLen [.lst ((stp hs).map pD)] = some (.int ((stp hs).length:Int)) := by simp [dLen]
 generalize layD m hs = lay at *
 generalize hs.map hD = hd at *
 rw [Ok_bX,Ok_okX]
 refine (show Ok _ _ fun fl δ => fl = .nx ∧ δ = [.pu lay,.pu (.lst ((stp hs).map pD))] by simp [callD,e]).mono fun fl δ hq => ?_
 obtain ⟨rfl,rfl⟩ := hq
 generalize (stp hs).map pD = sd at *
 dsimp only
 rw [Ok_bX]
 refine okIf (fun b δ => b = true ∧ δ = [.pu lay,.pu (.lst sd)]) ?_ ?_ (fun _ h => by cases h.1)
 ·simp [e1,en,es,ln,el]
 ·rintro _ ⟨_,rfl⟩
  rw [Ok_bX]
  simp
theorem m_for_n (h:¬ (stp hs).length + 1 < hs.length):runF n_q4 b_q4 [layD m hs] = some ((dueL (stp hs)).map pD):= by
 apply runF_of
 show Ok b_q4 [.pu (layD m hs)] _
 unfold b_q4
 have e := m_one_n m F0 h
 have h6 := F0.n
 have hl := stp_len hs
 have e2 := m_q20 (stp hs) (by omega)
 generalize layD m hs = lay at *
 generalize (stp hs).map pD = sd at *
 simp [callD,e,e2]
theorem m_for (C:Addr) (h:(stp hs).length + 1 < hs.length):runX n_q18 (b_q18 C) [layD m hs] = some (.inr C):= by
 apply runX_of
 show Ok (b_q18 C) [.pu (layD m hs)] _
 unfold b_q18 seqX consX
 have e := m_one m F0 C h
 generalize layD m hs = lay at *
 simp [Ok_bX,e]
theorem m_asked_n (kn:Addr -> Option Str) (h:¬ (stp hs).length + 1 < hs.length):runF n_q2 (b_q2 kn) [layD m hs] = some ((dueL (stp hs)).map pD):= by
 apply runF_of
 show Ok (b_q2 kn) [.pu (layD m hs),.un] _
 unfold b_q2 seqX
 have e := m_for_n m F0 h
 generalize layD m hs = lay at *
 refine Ok_tryRL ?_
 simp [Ok_bX,callD,e]
theorem m_asked (C:Addr) (kn:Addr -> Option Str) {w:Str} (hk:kn C = some w) (h:(stp hs).length + 1 < hs.length):runP n_q7 (b_q7 C kn) [layD m hs] = some (.str w):= by
 apply runP_of
 show Ok (b_q7 C kn) [.pu (layD m hs),.un] _
 unfold b_q7 seqX consX
 have e := m_for m F0 C h
 generalize layD m hs = lay at *
 refine Ok_tryRE hk ?_
 simp [Ok_bX,e]
end
end K72
namespace K72
open PySem L2 Jt
variable {hs:List (List Int)}
theorem rev_range {α:Type} (l:List α) (z:α):(List.range l.length).map (fun i => l.getD (l.length - 1 - i) z) = l.reverse:= by
 apply List.ext_getElem
 ·simp
 ·intro i h1 h2
  have hi:i < l.length := by simpa using h1
  have:l.length - 1 - i < l.length := by omega
  simp [this]
theorem same_due (ps:List (Nat × Nat)) (hn:ps.length ≤ 6):lent 2 (m_q15 4) [.lst ((dueL ps).map pD),.lst ((dueL ps).map pD)] = some (.bl true) := same_steps (dueL ps) (by simp [dueL]; omega)
noncomputable def LI (ns:List Int) (δ:DS):Prop := ∃ a1 a2 a3 a4 a5 a6 a7:Jt.Slot,δ = [.pu (.lst (ns.map .int)),a1,a2,a3,a4,a5,a6,a7]
theorem law_math0 (C:Addr) (kn:Addr -> Option Str) (hk:kn C = some "! bound"):∀ ns:List Int,ns.length ≤ 63 -> runP n_q23 (b_q23 C kn) [.lst (ns.map .int)] = some (.bl true):= by
 intro ns hns
 apply runP_of
 show Ok (b_q23 C kn) [.pu (.lst (ns.map .int)),.un,.un,.un,.un,.un,.un,.un] _
 unfold b_q23
 refine okSeq (LI ns) ?_ ?_
 ·obtain ⟨N,hN,hN2⟩:∃ N:Nat,(if (if (6:Int) < ns.length then 6 else (ns.length:Int)) > 1 then (if (6:Int) < ns.length then 6 else (ns.length:Int)) else 1) = (N:Int) ∧ N ≤ 6:= by
   refine ⟨(if (if (6:Int) < ns.length then 6 else (ns.length:Int)) > 1 then (if (6:Int) < ns.length then 6 else (ns.length:Int)) else 1).toNat,?_,?_⟩ <;> split <;> split <;> omega
  have sN:smallI N = true := by simp [smallI]; omega
  refine okFor (rngD 0 N) (fun _ δ => LI ns δ) ?_ ⟨_,_,_,_,_,_,_,rfl⟩ ?_ ?_
  ·simp only [Ok_mC,Ok_mCons,Ok_getS,Ok_pure,List.getElem?_cons_zero,Option.some.injEq,Jt.Slot.pu.injEq,exists_eq_left',dLen,Ok_some,dMin,dMax,List.length_map,hN,rng1,sN,if_true]
   simp
  ·rintro k hk' _ ⟨a1,a2,a3,a4,a5,a6,a7,rfl⟩
   rw [rng_get,Ok_setP]
   refine ⟨by simp,?_⟩
   simp only [List.set_cons_succ,List.set_cons_zero]
   obtain ⟨n,en⟩ := m_law_box ns k
   obtain ⟨d,xs',el,m,hs,n',rfl,rfl,h1,h2,h3⟩ := m_law_layout n
   have F0:Fn hs (List.range hs.length) := ⟨h2,by simpa using h2,fun i hi => by simpa using hi,h3,List.nodup_range,by simpa using h1⟩
   have hl := stp_len hs
   have e1 := dIx_lay1 m hs
   have es:dSub (.int (hs.length:Int)) (.int 1) = some (.int ((hs.length:Int) - 1)) := by simp [dSub,fInt]
   have eN:dLen [.tup (hs.map hD)] = some (.int (hs.length:Int)) := by simp [dLen]
   have eL := less (stp hs).length hs.length
   have est := m_q9 m F0
   have eA := m_asked m F0 C kn hk
   have eB := m_asked_n m F0 kn
   have eS := same_due (stp hs) (by omega)
   have hd6:(dueL (stp hs)).length ≤ 12 := by simp [dueL]; omega
   generalize layD m hs = lay at *
   generalize hs.map hD = hd at *
   generalize hz:D.lst (ns.map .int) = z at *
   have ln:dLen [.lst ((stp hs).map pD)] = some (.int ((stp hs).length:Int)) := by simp [dLen]
   refine okSeq (fun δ => δ = [.pu z,.pu (.int k),.ow false [.int n],a3,a4,a5,a6,a7]) ?_ ?_
   ·simp [callD,en]
   rintro _ rfl
   refine okSeq (fun δ => δ = [.pu z,.pu (.int k),.ow false [.int n'],.pu lay,a4,a5,a6,a7]) ?_ ?_
   ·simp [-Prod.exists,el]
   rintro _ rfl
   refine okSeq (fun δ => δ = [.pu z,.pu (.int k),.ow false [.int n'],.pu lay,.pu (.lst ((stp hs).map pD)),a5,a6,a7]) ?_ ?_
   ·simp [callD,est]
   rintro _ rfl
   refine okIf (fun b δ => b = decide ((stp hs).length + 1 < hs.length) ∧ δ = [.pu z,.pu (.int k),.ow false [.int n'],.pu lay,.pu (.lst ((stp hs).map pD)),a5,a6,a7]) ?_ ?_ ?_
   ·generalize decide ((stp hs).length + 1 < hs.length) = b at *
    simp [ln,e1,eN,es,eL]
   ·rintro _ ⟨hb,rfl⟩
    have hA := eA (of_decide_eq_true hb.symm)
    refine okIf (fun b δ => b = false ∧ δ = [.pu z,.pu (.int k),.ow false [.int n'],.pu lay,.pu (.lst ((stp hs).map pD)),a5,a6,a7]) ?_ (fun _ h => by cases h.1) ?_
    ·have:dEqF true (.str "! bound") (.str "! bound") = some (.bl false) := by simp [dEqF,flat,scal,eqV]
     simp [callD,hA,this]
    ·rintro _ ⟨_,rfl⟩
     subst hz
     exact Ok_pure.mpr ⟨_,_,_,_,_,_,_,rfl⟩
   ·rintro _ ⟨hb,rfl⟩
    have hB := eB (of_decide_eq_false hb.symm)
    have hl6:(stp hs).length ≤ 6 := by omega
    refine okSeq (fun δ => δ = [.pu z,.pu (.int k),.ow false [.int n'],.pu lay,.pu (.lst ((stp hs).map pD)),.pu (.lst ((dueL (stp hs)).map pD)),a6,a7]) ?_ ?_
    ·simp only [Ok_stP,Ok_bind,Ok_m2H,Ok_pure]
     refine ok_compA (stp hs) pD (fun p => some (pD (p.2,p.1))) rfl ?_ (by omega) (fun p _ => ?_) ?_
     ·simp [seqIts_lst]
     ·simp [pD,gTupM,gsCons,gsNil]
     ·have e1:(stp hs).filterMap (fun p => some (pD (p.2,p.1))) = (stp hs).map fun p => pD (p.2,p.1) := by rw [List.filterMap_eq_map']
      rw [e1]
      have sL:smallI ((stp hs).length:Int) = true := by simp [smallI]; omega
      refine ok_compA (List.range (stp hs).length) (fun (i:Nat) => .int (i:Int)) (fun i => some (pD ((stp hs).getD ((stp hs).length - 1 - i) (0,0)))) rfl ?_ (by simp; omega) (fun i hi => ?_) ?_
      ·simp [ln,rng1,sL,rngD]
      ·have hi':i < (stp hs).length := List.mem_range.mp hi
       have s1:dSub (.int ((stp hs).length:Int)) (.int 1) = some (.int (((stp hs).length:Int) - 1)) := by simp [dSub,fInt]
       have s2:dSub (.int (((stp hs).length:Int) - 1)) (.int (i:Int)) = some (.int (((stp hs).length - 1 - i:Nat):Int)):= by
        have:((stp hs).length:Int) - 1 - (i:Int) = (((stp hs).length - 1 - i:Nat):Int) := by omega
        simp [dSub,fInt,this]
       have hj:(stp hs).length - 1 - i < ((stp hs).map pD).length := by simp; omega
       have s3:dIx (.lst ((stp hs).map pD)) (.int (((stp hs).length - 1 - i:Nat):Int)) = some (pD ((stp hs).getD ((stp hs).length - 1 - i) (0,0))):= by
        show atI _ _ = _
        rw [atI_nat _ _ hj]
        have:(stp hs).length - 1 - i < (stp hs).length := by omega
        simp [this]
       generalize (stp hs).map pD = sd at *
       generalize pD ((stp hs).getD ((stp hs).length - 1 - i) (0,0)) = pp at *
       simp [ln,s1,s2,s3]
      ·have e2:(List.range (stp hs).length).filterMap (fun i => some (pD ((stp hs).getD ((stp hs).length - 1 - i) (0,0)))) = (stp hs).reverse.map pD:= by
        rw [List.filterMap_eq_map',<- rev_range (stp hs) (0,0),List.map_map]
        rfl
       rw [e2]
       have g:gCat (.lst ((stp hs).map fun p => pD (p.2,p.1))) (.lst ((stp hs).reverse.map pD)) = some ((dueL (stp hs)).map pD):= by
        show (if _ then _ else _) = _
        rw [if_pos (by simp; omega),dueL,List.map_append,List.map_map]
        rfl
       generalize (stp hs).map (fun p => pD (p.2,p.1)) = g1 at *
       generalize (stp hs).reverse.map pD = g2 at *
       simp [g]
    rintro _ rfl
    have hdl:((dueL (stp hs)).map pD).length ≤ 100000 := by rw [List.length_map]; omega
    generalize (dueL (stp hs)).map pD = dd at *
    generalize (stp hs).map pD = sd at *
    refine (okFor (Q := fun fl δ => fl = .nx ∧ LI ns δ) (rngD 0 2) (fun _ δ => ∃ b6 b7:Jt.Slot,δ = [.pu z,.pu (.int k),.ow false [.int n'],.pu lay,.pu (.lst sd),.pu (.lst dd),b6,b7]) ?_ ⟨_,_,rfl⟩ ?_ ?_).mono ?_
    ·simp [rng1,smallI]
    ·rintro i hi _ ⟨b6,b7,rfl⟩
     rw [rng_get,Ok_setP]
     refine ⟨by simp,?_⟩
     simp only [List.set_cons_succ,List.set_cons_zero]
     refine okSeq (fun δ => δ = [.pu z,.pu (.int k),.ow false [.int n'],.pu lay,.pu (.lst sd),.pu (.lst dd),.pu (.int i),.ow false dd]) ?_ ?_
     ·simp [callD,hB]
     rintro _ rfl
     refine okSeq (fun δ => δ = [.pu z,.pu (.int k),.ow false [.int n'],.pu lay,.pu (.lst sd),.pu (.lst dd),.pu (.int i),.ow false dd]) ?_ ?_
     ·refine okIf (fun b δ => b = false ∧ δ = [.pu z,.pu (.int k),.ow false [.int n'],.pu lay,.pu (.lst sd),.pu (.lst dd),.pu (.int i),.ow false dd]) ?_ (fun _ h => by cases h.1) ?_
      ·simp [eS,truD]
      ·rintro _ ⟨_,rfl⟩
       exact Ok_pure.mpr ⟨rfl,rfl⟩
     rintro _ rfl
     refine Ok_mAppend ⟨_,_,rfl⟩ ?_
     simp [hdl]
    ·rintro _ ⟨b6,b7,rfl⟩
     subst hz
     exact ⟨rfl,_,_,_,_,_,_,_,rfl⟩
    ·rintro fl δ ⟨rfl,h⟩
     exact h
  ·intro δ h; exact ⟨rfl,h⟩
 rintro _ ⟨a1,a2,a3,a4,a5,a6,a7,rfl⟩
 simp
end K72
namespace K72
open PySem L2 Jt
theorem len_1 {us:List Value} (h:us.length = 1):∃ a,us = [a] := by match us,h with | [a],_ => exact ⟨a,rfl⟩
theorem len_2 {us:List Value} (h:us.length = 2):∃ a b,us = [a,b] := by match us,h with | [a,b],_ => exact ⟨a,b,rfl⟩
theorem len_3 {us:List Value} (h:us.length = 3):∃ a b c,us = [a,b,c] := by match us,h with | [a,b,c],_ => exact ⟨a,b,c,rfl⟩
theorem len_4 {us:List Value} (h:us.length = 4):∃ a b c d,us = [a,b,c,d] := by match us,h with | [a,b,c,d],_ => exact ⟨a,b,c,d,rfl⟩
noncomputable def kn1 (c:Addr):Addr -> Option Str := fun C => if C = c then some "! bound" else none
theorem kn1_some {c C:Addr} {x:Str} (h:kn1 c C = some x):C = c ∧ x = "! bound":= by
 unfold kn1 at h
 split at h
 ·cases h; exact ⟨by assumption,rfl⟩
 ·cases h
theorem kn1_me (c:Addr):kn1 c c = some "! bound" := if_pos rfl
theorem all_mk {l:PySem.W.OpenLaw} {w:World} {K:PySem.W.Frag} {h:Heap} {mg:Str -> Option Value} {fa f_q22 f_q5 f_q16 f_q6 f_q10 f_q21 f_q12 f_q1 f_q20 f_q18 f_q14 f_q19 f_q11 f_q15 f_q3 f_q8 f_q13 f_q9 f_q7 f_q17 f_q23:Addr} (X:K.In h) (G:h.Ns mainGlobals mg) (hfa:mg "law" = some (.ref fa))
  {od_q22 an_q22 od_q5 an_q5 od_q16 an_q16 od_q6 an_q6 od_q10 an_q10 od_q21 an_q21 od_q12 an_q12 od_q1 an_q1 od_q20 an_q20 od_q18 an_q18 od_q14 an_q14 od_q19 an_q19 od_q11 an_q11 od_q15 an_q15 od_q3 an_q3 od_q8 an_q8 od_q13 an_q13 od_q9 an_q9 od_q7 an_q7 od_q17 an_q17 od_q23 an_q23:Option Addr} {sl_q22 sl_q5 sl_q16 sl_q6 sl_q10 sl_q21 sl_q12 sl_q1 sl_q20 sl_q18 sl_q14 sl_q19 sl_q11 sl_q15 sl_q3 sl_q8 sl_q13 sl_q9 sl_q7 sl_q17 sl_q23:Array (Option Value)} {oc_q22 kV_q22 dc_q22 pm_q22 cd_q22 ct_q22 oc_q5 kV_q5 dc_q5 pm_q5 cd_q5 ct_q5 oc_q16 kV_q16 dc_q16 pm_q16 cd_q16 ct_q16 oc_q6 kV_q6 dc_q6 pm_q6 cd_q6 ct_q6 oc_q10 kV_q10 dc_q10 pm_q10 cd_q10 ct_q10 oc_q21 kV_q21 dc_q21 pm_q21 cd_q21 ct_q21 oc_q12 kV_q12 dc_q12 pm_q12 cd_q12 ct_q12 oc_q1 kV_q1 dc_q1 pm_q1 cd_q1 ct_q1 oc_q20 kV_q20 dc_q20 pm_q20 cd_q20 ct_q20 oc_q18 kV_q18 dc_q18 pm_q18 cd_q18 ct_q18 oc_q14 kV_q14 dc_q14 pm_q14 cd_q14 ct_q14 oc_q19 kV_q19 dc_q19 pm_q19 cd_q19 ct_q19 oc_q11 kV_q11 dc_q11 pm_q11 cd_q11 ct_q11 oc_q15 kV_q15 dc_q15 pm_q15 cd_q15 ct_q15 oc_q3 kV_q3 dc_q3 pm_q3 cd_q3 ct_q3 oc_q8 kV_q8 dc_q8 pm_q8 cd_q8 ct_q8 oc_q13 kV_q13 dc_q13 pm_q13 cd_q13 ct_q13 oc_q9 kV_q9 dc_q9 pm_q9 cd_q9 ct_q9 oc_q7 kV_q7 dc_q7 pm_q7 cd_q7 ct_q7 oc_q17 kV_q17 dc_q17 pm_q17 cd_q17 ct_q17 oc_q23 kV_q23 dc_q23 pm_q23 cd_q23 ct_q23:Value}
  {c_NoLayout c_NoHead c_NoColumn c_NoTree c_NoOrder c_NoTables c_NoDeed c_NoNumber c_NoRow c_NoText c_Bound c_TooMany c_JoinError:Addr}
  (u_NoLayout:PySem.W.nsIn K mainGlobals "NoLayout" = some (some (.ref c_NoLayout)))
  (u_NoHead:PySem.W.nsIn K mainGlobals "NoHead" = some (some (.ref c_NoHead)))
  (u_NoColumn:PySem.W.nsIn K mainGlobals "NoColumn" = some (some (.ref c_NoColumn)))
  (u_NoTree:PySem.W.nsIn K mainGlobals "NoTree" = some (some (.ref c_NoTree)))
  (u_NoOrder:PySem.W.nsIn K mainGlobals "NoOrder" = some (some (.ref c_NoOrder)))
  (u_NoTables:PySem.W.nsIn K mainGlobals "NoTables" = some (some (.ref c_NoTables)))
  (u_NoDeed:PySem.W.nsIn K mainGlobals "NoDeed" = some (some (.ref c_NoDeed)))
  (u_NoNumber:PySem.W.nsIn K mainGlobals "NoNumber" = some (some (.ref c_NoNumber)))
  (u_NoRow:PySem.W.nsIn K mainGlobals "NoRow" = some (some (.ref c_NoRow)))
  (u_NoText:PySem.W.nsIn K mainGlobals "NoText" = some (some (.ref c_NoText)))
  (u_Bound:PySem.W.nsIn K mainGlobals "Bound" = some (some (.ref c_Bound)))
  (u_TooMany:PySem.W.nsIn K mainGlobals "TooMany" = some (some (.ref c_TooMany)))
  (u_JoinError:PySem.W.nsIn K mainGlobals "JoinError" = some (some (.ref c_JoinError)))
  (u_ve:PySem.W.nsIn K mainGlobals "ValueError" = some none) (u_sum:PySem.W.nsIn K mainGlobals "sum" = some none) (u_int:PySem.W.nsIn K mainGlobals "int" = some none) (u_isi:PySem.W.nsIn K mainGlobals "isinstance" = some none) (E:ExcK K c_Bound) (q_Bound:PySem.W.excIn K c_Bound [.type "ValueError",.type "Exception",.type "BaseException",.type "object"] "ValueError.__new__" = true)
  (t_ve:PySem.W.kitOne K (.ref c_Bound) (.type "ValueError") = some true) (t_ex:PySem.W.exmOne K (.ref c_Bound) (.ref c_JoinError) = some true)
  (t_NoLayout:PySem.W.kitOne K (.ref c_Bound) (.ref c_NoLayout) = some false)
  (t_NoHead:PySem.W.kitOne K (.ref c_Bound) (.ref c_NoHead) = some false)
  (t_NoColumn:PySem.W.kitOne K (.ref c_Bound) (.ref c_NoColumn) = some false)
  (t_NoTree:PySem.W.kitOne K (.ref c_Bound) (.ref c_NoTree) = some false)
  (t_NoOrder:PySem.W.kitOne K (.ref c_Bound) (.ref c_NoOrder) = some false)
  (t_NoTables:PySem.W.kitOne K (.ref c_Bound) (.ref c_NoTables) = some false)
  (t_NoDeed:PySem.W.kitOne K (.ref c_Bound) (.ref c_NoDeed) = some false)
  (t_NoNumber:PySem.W.kitOne K (.ref c_Bound) (.ref c_NoNumber) = some false)
  (t_NoRow:PySem.W.kitOne K (.ref c_Bound) (.ref c_NoRow) = some false)
  (t_NoText:PySem.W.kitOne K (.ref c_Bound) (.ref c_NoText) = some false)
  (t_Bound:PySem.W.kitOne K (.ref c_Bound) (.ref c_Bound) = some true)
  (t_TooMany:PySem.W.kitOne K (.ref c_Bound) (.ref c_TooMany) = some false)
  (a_q22:PySem.W.nsIn K mainGlobals "has_all" = some (some (.ref f_q22))) (l_q22:K.lookup f_q22 = some ⟨oc_q22,od_q22,.func (PySem.W.fnOf "has_all" "has_all" (defArgs s_q22) (defBody s_q22) (defScope s_q22) .none kV_q22 dc_q22 pm_q22 an_q22 cd_q22 ct_q22),sl_q22⟩) (c_q22:PySem.W.codeIn K cd_q22 "has_all" = true) (k_q22:PySem.W.keepIn K (.ref f_q22) = true)
  (a_q5:PySem.W.nsIn K mainGlobals "all_numbers" = some (some (.ref f_q5))) (l_q5:K.lookup f_q5 = some ⟨oc_q5,od_q5,.func (PySem.W.fnOf "all_numbers" "all_numbers" (defArgs s_q5) (defBody s_q5) (defScope s_q5) .none kV_q5 dc_q5 pm_q5 an_q5 cd_q5 ct_q5),sl_q5⟩) (c_q5:PySem.W.codeIn K cd_q5 "all_numbers" = true) (k_q5:PySem.W.keepIn K (.ref f_q5) = true)
  (a_q16:PySem.W.nsIn K mainGlobals "shared_by" = some (some (.ref f_q16))) (l_q16:K.lookup f_q16 = some ⟨oc_q16,od_q16,.func (PySem.W.fnOf "shared_by" "shared_by" (defArgs s_q16) (defBody s_q16) (defScope s_q16) .none kV_q16 dc_q16 pm_q16 an_q16 cd_q16 ct_q16),sl_q16⟩) (c_q16:PySem.W.codeIn K cd_q16 "shared_by" = true) (k_q16:PySem.W.keepIn K (.ref f_q16) = true)
  (a_q6:PySem.W.nsIn K mainGlobals "holders_of" = some (some (.ref f_q6))) (l_q6:K.lookup f_q6 = some ⟨oc_q6,od_q6,.func (PySem.W.fnOf "holders_of" "holders_of" (defArgs s_q6) (defBody s_q6) (defScope s_q6) .none kV_q6 dc_q6 pm_q6 an_q6 cd_q6 ct_q6),sl_q6⟩) (c_q6:PySem.W.codeIn K cd_q6 "holders_of" = true) (k_q6:PySem.W.keepIn K (.ref f_q6) = true)
  (a_q10:PySem.W.nsIn K mainGlobals "ears_among" = some (some (.ref f_q10))) (l_q10:K.lookup f_q10 = some ⟨oc_q10,od_q10,.func (PySem.W.fnOf "ears_among" "ears_among" (defArgs s_q10) (defBody s_q10) (defScope s_q10) .none kV_q10 dc_q10 pm_q10 an_q10 cd_q10 ct_q10),sl_q10⟩) (c_q10:PySem.W.codeIn K cd_q10 "ears_among" = true) (k_q10:PySem.W.keepIn K (.ref f_q10) = true)
  (a_q21:PySem.W.nsIn K mainGlobals "all_but" = some (some (.ref f_q21))) (l_q21:K.lookup f_q21 = some ⟨oc_q21,od_q21,.func (PySem.W.fnOf "all_but" "all_but" (defArgs s_q21) (defBody s_q21) (defScope s_q21) .none kV_q21 dc_q21 pm_q21 an_q21 cd_q21 ct_q21),sl_q21⟩) (c_q21:PySem.W.codeIn K cd_q21 "all_but" = true) (k_q21:PySem.W.keepIn K (.ref f_q21) = true)
  (a_q12:PySem.W.nsIn K mainGlobals "steps_for" = some (some (.ref f_q12))) (l_q12:K.lookup f_q12 = some ⟨oc_q12,od_q12,.func (PySem.W.fnOf "steps_for" "steps_for" (defArgs s_q12) (defBody s_q12) (defScope s_q12) .none kV_q12 dc_q12 pm_q12 an_q12 cd_q12 ct_q12),sl_q12⟩) (c_q12:PySem.W.codeIn K cd_q12 "steps_for" = true) (k_q12:PySem.W.keepIn K (.ref f_q12) = true)
  (a_q1:PySem.W.nsIn K mainGlobals "steps_to_one" = some (some (.ref f_q1))) (l_q1:K.lookup f_q1 = some ⟨oc_q1,od_q1,.func (PySem.W.fnOf "steps_to_one" "steps_to_one" (defArgs s_q1) (defBody s_q1) (defScope s_q1) .none kV_q1 dc_q1 pm_q1 an_q1 cd_q1 ct_q1),sl_q1⟩) (c_q1:PySem.W.codeIn K cd_q1 "steps_to_one" = true) (k_q1:PySem.W.keepIn K (.ref f_q1) = true)
  (a_q20:PySem.W.nsIn K mainGlobals "deeds_by" = some (some (.ref f_q20))) (l_q20:K.lookup f_q20 = some ⟨oc_q20,od_q20,.func (PySem.W.fnOf "deeds_by" "deeds_by" (defArgs s_q20) (defBody s_q20) (defScope s_q20) .none kV_q20 dc_q20 pm_q20 an_q20 cd_q20 ct_q20),sl_q20⟩) (c_q20:PySem.W.codeIn K cd_q20 "deeds_by" = true) (k_q20:PySem.W.keepIn K (.ref f_q20) = true)
  (a_q18:PySem.W.nsIn K mainGlobals "deeds_for" = some (some (.ref f_q18))) (l_q18:K.lookup f_q18 = some ⟨oc_q18,od_q18,.func (PySem.W.fnOf "deeds_for" "deeds_for" (defArgs s_q18) (defBody s_q18) (defScope s_q18) .none kV_q18 dc_q18 pm_q18 an_q18 cd_q18 ct_q18),sl_q18⟩) (c_q18:PySem.W.codeIn K cd_q18 "deeds_for" = true) (k_q18:PySem.W.keepIn K (.ref f_q18) = true)
  (a_q14:PySem.W.nsIn K mainGlobals "_law_cell" = some (some (.ref f_q14))) (l_q14:K.lookup f_q14 = some ⟨oc_q14,od_q14,.func (PySem.W.fnOf "_law_cell" "_law_cell" (defArgs s_q14) (defBody s_q14) (defScope s_q14) .none kV_q14 dc_q14 pm_q14 an_q14 cd_q14 ct_q14),sl_q14⟩) (c_q14:PySem.W.codeIn K cd_q14 "_law_cell" = true) (k_q14:PySem.W.keepIn K (.ref f_q14) = true)
  (a_q19:PySem.W.nsIn K mainGlobals "_law_box" = some (some (.ref f_q19))) (l_q19:K.lookup f_q19 = some ⟨oc_q19,od_q19,.func (PySem.W.fnOf "_law_box" "_law_box" (defArgs s_q19) (defBody s_q19) (defScope s_q19) .none kV_q19 dc_q19 pm_q19 an_q19 cd_q19 ct_q19),sl_q19⟩) (c_q19:PySem.W.codeIn K cd_q19 "_law_box" = true) (k_q19:PySem.W.keepIn K (.ref f_q19) = true)
  (a_q11:PySem.W.nsIn K mainGlobals "_law_take" = some (some (.ref f_q11))) (l_q11:K.lookup f_q11 = some ⟨oc_q11,od_q11,.func (PySem.W.fnOf "_law_take" "_law_take" (defArgs s_q11) (defBody s_q11) (defScope s_q11) .none kV_q11 dc_q11 pm_q11 an_q11 cd_q11 ct_q11),sl_q11⟩) (c_q11:PySem.W.codeIn K cd_q11 "_law_take" = true) (k_q11:PySem.W.keepIn K (.ref f_q11) = true)
  (a_q15:PySem.W.nsIn K mainGlobals "_law_same" = some (some (.ref f_q15))) (l_q15:K.lookup f_q15 = some ⟨oc_q15,od_q15,.func (PySem.W.fnOf "_law_same" "_law_same" (defArgs s_q15) (defBody s_q15) (defScope s_q15) .none kV_q15 dc_q15 pm_q15 an_q15 cd_q15 ct_q15),sl_q15⟩) (c_q15:PySem.W.codeIn K cd_q15 "_law_same" = true) (k_q15:PySem.W.keepIn K (.ref f_q15) = true)
  (a_q3:PySem.W.nsIn K mainGlobals "_law_layout" = some (some (.ref f_q3))) (l_q3:K.lookup f_q3 = some ⟨oc_q3,od_q3,.func (PySem.W.fnOf "_law_layout" "_law_layout" (defArgs s_q3) (defBody s_q3) (defScope s_q3) .none kV_q3 dc_q3 pm_q3 an_q3 cd_q3 ct_q3),sl_q3⟩) (c_q3:PySem.W.codeIn K cd_q3 "_law_layout" = true) (k_q3:PySem.W.keepIn K (.ref f_q3) = true)
  (a_q8:PySem.W.nsIn K mainGlobals "_law_holds" = some (some (.ref f_q8))) (l_q8:K.lookup f_q8 = some ⟨oc_q8,od_q8,.func (PySem.W.fnOf "_law_holds" "_law_holds" (defArgs s_q8) (defBody s_q8) (defScope s_q8) .none kV_q8 dc_q8 pm_q8 an_q8 cd_q8 ct_q8),sl_q8⟩) (c_q8:PySem.W.codeIn K cd_q8 "_law_holds" = true) (k_q8:PySem.W.keepIn K (.ref f_q8) = true)
  (a_q13:PySem.W.nsIn K mainGlobals "_law_ears" = some (some (.ref f_q13))) (l_q13:K.lookup f_q13 = some ⟨oc_q13,od_q13,.func (PySem.W.fnOf "_law_ears" "_law_ears" (defArgs s_q13) (defBody s_q13) (defScope s_q13) .none kV_q13 dc_q13 pm_q13 an_q13 cd_q13 ct_q13),sl_q13⟩) (c_q13:PySem.W.codeIn K cd_q13 "_law_ears" = true) (k_q13:PySem.W.keepIn K (.ref f_q13) = true)
  (a_q9:PySem.W.nsIn K mainGlobals "_law_steps" = some (some (.ref f_q9))) (l_q9:K.lookup f_q9 = some ⟨oc_q9,od_q9,.func (PySem.W.fnOf "_law_steps" "_law_steps" (defArgs s_q9) (defBody s_q9) (defScope s_q9) .none kV_q9 dc_q9 pm_q9 an_q9 cd_q9 ct_q9),sl_q9⟩) (c_q9:PySem.W.codeIn K cd_q9 "_law_steps" = true) (k_q9:PySem.W.keepIn K (.ref f_q9) = true)
  (a_q7:PySem.W.nsIn K mainGlobals "_law_asked" = some (some (.ref f_q7))) (l_q7:K.lookup f_q7 = some ⟨oc_q7,od_q7,.func (PySem.W.fnOf "_law_asked" "_law_asked" (defArgs s_q7) (defBody s_q7) (defScope s_q7) .none kV_q7 dc_q7 pm_q7 an_q7 cd_q7 ct_q7),sl_q7⟩) (c_q7:PySem.W.codeIn K cd_q7 "_law_asked" = true) (k_q7:PySem.W.keepIn K (.ref f_q7) = true)
  (a_q17:PySem.W.nsIn K mainGlobals "_law_kind" = some (some (.ref f_q17))) (l_q17:K.lookup f_q17 = some ⟨oc_q17,od_q17,.func (PySem.W.fnOf "_law_kind" "_law_kind" (defArgs s_q17) (defBody s_q17) (defScope s_q17) .none kV_q17 dc_q17 pm_q17 an_q17 cd_q17 ct_q17),sl_q17⟩) (c_q17:PySem.W.codeIn K cd_q17 "_law_kind" = true) (k_q17:PySem.W.keepIn K (.ref f_q17) = true)
  (a_q23:PySem.W.nsIn K mainGlobals "law" = some (some (.ref f_q23))) (l_q23:K.lookup f_q23 = some ⟨oc_q23,od_q23,.func (PySem.W.fnOf "law" "law" (defArgs s_q23) (defBody s_q23) (defScope s_q23) .none kV_q23 dc_q23 pm_q23 an_q23 cd_q23 ct_q23),sl_q23⟩) (c_q23:PySem.W.codeIn K cd_q23 "law" = true) (k_q23:PySem.W.keepIn K (.ref f_q23) = true)
  (z_all:PySem.W.nsIn K mainGlobals "all" = some none)
  (z_any:PySem.W.nsIn K mainGlobals "any" = some none)
  (z_bool:PySem.W.nsIn K mainGlobals "bool" = some none)
  (z_isinstance:PySem.W.nsIn K mainGlobals "isinstance" = some none)
  (z_len:PySem.W.nsIn K mainGlobals "len" = some none)
  (z_list:PySem.W.nsIn K mainGlobals "list" = some none)
  (z_max:PySem.W.nsIn K mainGlobals "max" = some none)
  (z_min:PySem.W.nsIn K mainGlobals "min" = some none)
  (z_range:PySem.W.nsIn K mainGlobals "range" = some none)
  (z_reversed:PySem.W.nsIn K mainGlobals "reversed" = some none)
  (z_set:PySem.W.nsIn K mainGlobals "set" = some none)
  (z_sorted:PySem.W.nsIn K mainGlobals "sorted" = some none)
  (z_tuple:PySem.W.nsIn K mainGlobals "tuple" = some none)
  (z_zip:PySem.W.nsIn K mainGlobals "zip" = some none)
 :∃ fd:FuncData,(∀ (s:Shared) (v:Value),BindsTo s fd ⟨[v],[]⟩ [("_law_script",v)]) ∧ ∀ base:Heap,K.In base -> base.Ns mainGlobals mg -> FnOk l.prog w K mg base CX0 8 fa fd ["_law_script"] spLaw:= by
 have e := hfa.symm.trans (PySem.W.mg_of X G a_q23)
 cases e
 have F_q22 := fun_mk (st := s_q22) l_q22 c_q22 k_q22
 have B_q22 := F_q22.binds (ps := ["things","wanted"]) fun _ _ _ _ _ _ us hl => by obtain ⟨_,_,rfl⟩ := len_2 hl; rfl
 have M_q22 := PySem.W.mg_of X G a_q22
 have F_q5 := fun_mk (st := s_q5) l_q5 c_q5 k_q5
 have B_q5 := F_q5.binds (ps := ["layout"]) fun _ _ _ _ _ _ us hl => by obtain ⟨_,rfl⟩ := len_1 hl; rfl
 have M_q5 := PySem.W.mg_of X G a_q5
 have F_q16 := fun_mk (st := s_q16) l_q16 c_q16 k_q16
 have B_q16 := F_q16.binds (ps := ["layout","left","number"]) fun _ _ _ _ _ _ us hl => by obtain ⟨_,_,_,rfl⟩ := len_3 hl; rfl
 have M_q16 := PySem.W.mg_of X G a_q16
 have F_q6 := fun_mk (st := s_q6) l_q6 c_q6 k_q6
 have B_q6 := F_q6.binds (ps := ["layout","left","number"]) fun _ _ _ _ _ _ us hl => by obtain ⟨_,_,_,rfl⟩ := len_3 hl; rfl
 have M_q6 := PySem.W.mg_of X G a_q6
 have F_q10 := fun_mk (st := s_q10) l_q10 c_q10 k_q10
 have B_q10 := F_q10.binds (ps := ["layout","left"]) fun _ _ _ _ _ _ us hl => by obtain ⟨_,_,rfl⟩ := len_2 hl; rfl
 have M_q10 := PySem.W.mg_of X G a_q10
 have F_q21 := fun_mk (st := s_q21) l_q21 c_q21 k_q21
 have B_q21 := F_q21.binds (ps := ["left","gone"]) fun _ _ _ _ _ _ us hl => by obtain ⟨_,_,rfl⟩ := len_2 hl; rfl
 have M_q21 := PySem.W.mg_of X G a_q21
 have F_q12 := fun_mk (st := s_q12) l_q12 c_q12 k_q12
 have B_q12 := F_q12.binds (ps := ["layout"]) fun _ _ _ _ _ _ us hl => by obtain ⟨_,rfl⟩ := len_1 hl; rfl
 have M_q12 := PySem.W.mg_of X G a_q12
 have F_q1 := fun_mk (st := s_q1) l_q1 c_q1 k_q1
 have B_q1 := F_q1.binds (ps := ["layout"]) fun _ _ _ _ _ _ us hl => by obtain ⟨_,rfl⟩ := len_1 hl; rfl
 have M_q1 := PySem.W.mg_of X G a_q1
 have F_q20 := fun_mk (st := s_q20) l_q20 c_q20 k_q20
 have B_q20 := F_q20.binds (ps := ["steps"]) fun _ _ _ _ _ _ us hl => by obtain ⟨_,rfl⟩ := len_1 hl; rfl
 have M_q20 := PySem.W.mg_of X G a_q20
 have F_q18 := fun_mk (st := s_q18) l_q18 c_q18 k_q18
 have B_q18 := F_q18.binds (ps := ["layout"]) fun _ _ _ _ _ _ us hl => by obtain ⟨_,rfl⟩ := len_1 hl; rfl
 have M_q18 := PySem.W.mg_of X G a_q18
 have F_q14 := fun_mk (st := s_q14) l_q14 c_q14 k_q14
 have B_q14 := F_q14.binds (ps := ["_law_script","_law_k"]) fun _ _ _ _ _ _ us hl => by obtain ⟨_,_,rfl⟩ := len_2 hl; rfl
 have M_q14 := PySem.W.mg_of X G a_q14
 have F_q19 := fun_mk (st := s_q19) l_q19 c_q19 k_q19
 have B_q19 := F_q19.binds (ps := ["_law_script","_law_k"]) fun _ _ _ _ _ _ us hl => by obtain ⟨_,_,rfl⟩ := len_2 hl; rfl
 have M_q19 := PySem.W.mg_of X G a_q19
 have F_q11 := fun_mk (st := s_q11) l_q11 c_q11 k_q11
 have B_q11 := F_q11.binds (ps := ["_law_box_here","_law_many"]) fun _ _ _ _ _ _ us hl => by obtain ⟨_,_,rfl⟩ := len_2 hl; rfl
 have M_q11 := PySem.W.mg_of X G a_q11
 have F_q15 := fun_mk (st := s_q15) l_q15 c_q15 k_q15
 have B_q15 := F_q15.binds (ps := ["_law_found","_law_due"]) fun _ _ _ _ _ _ us hl => by obtain ⟨_,_,rfl⟩ := len_2 hl; rfl
 have M_q15 := PySem.W.mg_of X G a_q15
 have F_q3 := fun_mk (st := s_q3) l_q3 c_q3 k_q3
 have B_q3 := F_q3.binds (ps := ["_law_box_here"]) fun _ _ _ _ _ _ us hl => by obtain ⟨_,rfl⟩ := len_1 hl; rfl
 have M_q3 := PySem.W.mg_of X G a_q3
 have F_q8 := fun_mk (st := s_q8) l_q8 c_q8 k_q8
 have B_q8 := F_q8.binds (ps := ["_law_layout_here","_law_left","_law_ear","_law_holder"]) fun _ _ _ _ _ _ us hl => by obtain ⟨_,_,_,_,rfl⟩ := len_4 hl; rfl
 have M_q8 := PySem.W.mg_of X G a_q8
 have F_q13 := fun_mk (st := s_q13) l_q13 c_q13 k_q13
 have B_q13 := F_q13.binds (ps := ["_law_layout_here","_law_left"]) fun _ _ _ _ _ _ us hl => by obtain ⟨_,_,rfl⟩ := len_2 hl; rfl
 have M_q13 := PySem.W.mg_of X G a_q13
 have F_q9 := fun_mk (st := s_q9) l_q9 c_q9 k_q9
 have B_q9 := F_q9.binds (ps := ["_law_layout_here"]) fun _ _ _ _ _ _ us hl => by obtain ⟨_,rfl⟩ := len_1 hl; rfl
 have M_q9 := PySem.W.mg_of X G a_q9
 have F_q7 := fun_mk (st := s_q7) l_q7 c_q7 k_q7
 have B_q7 := F_q7.binds (ps := ["_law_layout_here"]) fun _ _ _ _ _ _ us hl => by obtain ⟨_,rfl⟩ := len_1 hl; rfl
 have M_q7 := PySem.W.mg_of X G a_q7
 have F_q17 := fun_mk (st := s_q17) l_q17 c_q17 k_q17
 have B_q17 := F_q17.binds (ps := ["_law_e"]) fun _ _ _ _ _ _ us hl => by obtain ⟨_,rfl⟩ := len_1 hl; rfl
 have M_q17 := PySem.W.mg_of X G a_q17
 have F_q23 := fun_mk (st := s_q23) l_q23 c_q23 k_q23
 have B_q23 := F_q23.binds (ps := ["_law_script"]) fun _ _ _ _ _ _ us hl => by obtain ⟨_,rfl⟩ := len_1 hl; rfl
 have M_q23 := PySem.W.mg_of X G a_q23
 have x_NoLayout := PySem.W.mg_of X G u_NoLayout
 have x_NoHead := PySem.W.mg_of X G u_NoHead
 have x_NoColumn := PySem.W.mg_of X G u_NoColumn
 have x_NoTree := PySem.W.mg_of X G u_NoTree
 have x_NoOrder := PySem.W.mg_of X G u_NoOrder
 have x_NoTables := PySem.W.mg_of X G u_NoTables
 have x_NoDeed := PySem.W.mg_of X G u_NoDeed
 have x_NoNumber := PySem.W.mg_of X G u_NoNumber
 have x_NoRow := PySem.W.mg_of X G u_NoRow
 have x_NoText := PySem.W.mg_of X G u_NoText
 have x_Bound := PySem.W.mg_of X G u_Bound
 have x_TooMany := PySem.W.mg_of X G u_TooMany
 have x_JoinError := PySem.W.mg_of X G u_JoinError
 have Z:Cls12 K mg c_Bound [c_NoLayout,c_NoHead,c_NoColumn,c_NoTree,c_NoOrder,c_NoTables,c_NoDeed,c_NoNumber,c_NoRow,c_NoText,c_Bound,c_TooMany] [false,false,false,false,false,false,false,false,false,false,true,false] := ⟨PySem.W.mg_none_of X G u_isi,PySem.W.mg_none_of X G u_ve,PySem.W.mg_none_of X G u_int,PySem.W.mg_none_of X G u_sum,t_ve,by simp only [List.map_cons,List.map_nil,x_NoLayout,x_NoHead,x_NoColumn,x_NoTree,x_NoOrder,x_NoTables,x_NoDeed,x_NoNumber,x_NoRow,x_NoText,x_Bound,x_TooMany],by simp only [List.map_cons,List.map_nil,t_NoLayout,t_NoHead,t_NoColumn,t_NoTree,t_NoOrder,t_NoTables,t_NoDeed,t_NoNumber,t_NoRow,t_NoText,t_Bound,t_TooMany]⟩
 have m_all := PySem.W.mg_none_of X G z_all
 have m_any := PySem.W.mg_none_of X G z_any
 have m_bool := PySem.W.mg_none_of X G z_bool
 have m_isinstance := PySem.W.mg_none_of X G z_isinstance
 have m_len := PySem.W.mg_none_of X G z_len
 have m_list := PySem.W.mg_none_of X G z_list
 have m_max := PySem.W.mg_none_of X G z_max
 have m_min := PySem.W.mg_none_of X G z_min
 have m_range := PySem.W.mg_none_of X G z_range
 have m_reversed := PySem.W.mg_none_of X G z_reversed
 have m_set := PySem.W.mg_none_of X G z_set
 have m_sorted := PySem.W.mg_none_of X G z_sorted
 have m_tuple := PySem.W.mg_none_of X G z_tuple
 have m_zip := PySem.W.mg_none_of X G z_zip
 refine ⟨PySem.W.fnOf "law" "law" (defArgs s_q23) (defBody s_q23) (defScope s_q23) .none kV_q23 dc_q23 pm_q23 an_q23 cd_q23 ct_q23,fun s v => .of_eq rfl,fun base _ _ => ?_⟩
 have G_q22:FnOk l.prog w K mg base CX0 1 _ _ ["things","wanted"] (spP 2 (runP n_q22 b_q22)) := ok_q22 (P := l.prog) (w := w) (base := base) (k := 0) F_q22 m_all
 have G_q5:FnOk l.prog w K mg base CX0 1 _ _ ["layout"] (spP 1 (runP n_q5 b_q5)) := ok_q5 (P := l.prog) (w := w) (base := base) (k := 0) F_q5 m_len m_range m_tuple
 have G_q16:FnOk l.prog w K mg base CX0 1 _ _ ["layout","left","number"] (spP 3 (runP n_q16 b_q16)) := ok_q16 (P := l.prog) (w := w) (base := base) (k := 0) F_q16 m_any m_tuple
 have G_q6:FnOk l.prog w K mg base CX0 2 _ _ ["layout","left","number"] (spF 3 (runF n_q6 b_q6)) := ok_q6 (P := l.prog) (w := w) (base := base) (k := 1) F_q6 (G_q22.mono (by decide)) M_q22 k_q22 B_q22 (G_q16.mono (by decide)) M_q16 k_q16 B_q16
 have G_q10:FnOk l.prog w K mg base CX0 3 _ _ ["layout","left"] (spF 2 (runF n_q10 b_q10)) := ok_q10 (P := l.prog) (w := w) (base := base) (k := 2) F_q10 (G_q6.mono (by decide)) M_q6 k_q6 B_q6
 have G_q21:FnOk l.prog w K mg base CX0 1 _ _ ["left","gone"] (spP 2 (runP n_q21 b_q21)) := ok_q21 (P := l.prog) (w := w) (base := base) (k := 0) F_q21 m_tuple
 have G_q12:FnOk l.prog w K mg base CX0 4 _ _ ["layout"] (spF 1 (runF n_q12 b_q12)) := ok_q12 (P := l.prog) (w := w) (base := base) (k := 3) F_q12 (G_q21.mono (by decide)) M_q21 k_q21 B_q21 (G_q5.mono (by decide)) M_q5 k_q5 B_q5 (G_q10.mono (by decide)) M_q10 k_q10 B_q10
 have G_q1:FnOk l.prog w K mg base (CXr l.prog w) 5 _ _ ["layout"] (spX 1 (runX n_q1 (b_q1 c_Bound))) := ok_q1 (P := l.prog) (w := w) (base := base) (k := 4) F_q1 m_len x_Bound q_Bound (G_q12.mono (by decide)) M_q12 k_q12 B_q12
 have G_q20:FnOk l.prog w K mg base CX0 1 _ _ ["steps"] (spF 1 (runF n_q20 b_q20)) := ok_q20 (P := l.prog) (w := w) (base := base) (k := 0) F_q20 m_reversed
 have G_q18:FnOk l.prog w K mg base (CXr l.prog w) 6 _ _ ["layout"] (spX 1 (runX n_q18 (b_q18 c_Bound))) := ok_q18 (P := l.prog) (w := w) (base := base) (k := 5) F_q18 (G_q1.mono (by decide)) M_q1 k_q1 B_q1 M_q20 k_q20 B_q20
 have G_q14:FnOk l.prog w K mg base CX0 1 _ _ ["_law_script","_law_k"] (spP 2 (runP n_q14 b_q14)) := ok_q14 (P := l.prog) (w := w) (base := base) (k := 0) F_q14 m_len
 have G_q19:FnOk l.prog w K mg base CX0 2 _ _ ["_law_script","_law_k"] (spF 2 (runF n_q19 b_q19)) := ok_q19 (P := l.prog) (w := w) (base := base) (k := 1) F_q19 m_range (G_q14.mono (by decide)) M_q14 k_q14 B_q14
 have G_q11:FnOk l.prog w K mg base CX0 1 _ _ ["_law_box_here","_law_many"] (spB 2 (runB n_q11 b_q11)) := ok_q11 (P := l.prog) (w := w) (base := base) (k := 0) F_q11
 have G_q15:FnOk l.prog w K mg base CX0 4 _ _ ["_law_found","_law_due"] (spP 2 (m_q15 4)) := ok_q15 (P := l.prog) (w := w) (base := base) (k := 0) F_q15 m_all m_bool m_isinstance m_len m_list m_tuple m_zip M_q15 k_q15 B_q15 4
 have G_q3:FnOk l.prog w K mg base CX0 2 _ _ ["_law_box_here"] (spB 1 (runB n_q3 b_q3)) := ok_q3 (P := l.prog) (w := w) (base := base) (k := 1) F_q3 m_len m_list m_min m_range m_set m_sorted m_tuple (G_q11.mono (by decide)) M_q11 k_q11 B_q11
 have G_q8:FnOk l.prog w K mg base CX0 1 _ _ ["_law_layout_here","_law_left","_law_ear","_law_holder"] (spP 4 (runP n_q8 b_q8)) := ok_q8 (P := l.prog) (w := w) (base := base) (k := 0) F_q8
 have G_q13:FnOk l.prog w K mg base CX0 2 _ _ ["_law_layout_here","_law_left"] (spF 2 (runF n_q13 b_q13)) := ok_q13 (P := l.prog) (w := w) (base := base) (k := 1) F_q13 (G_q8.mono (by decide)) M_q8 k_q8 B_q8
 have G_q9:FnOk l.prog w K mg base CX0 3 _ _ ["_law_layout_here"] (spF 1 (runF n_q9 b_q9)) := ok_q9 (P := l.prog) (w := w) (base := base) (k := 2) F_q9 m_len m_list m_range (G_q13.mono (by decide)) M_q13 k_q13 B_q13
 have W:Knd l.prog w K mg base 6 _ c_JoinError _ ["_law_e"] (kn1 c_Bound) := ⟨fun C x h => by
   obtain ⟨rfl,rfl⟩ := kn1_some h
   have q := ok_q17 (P := l.prog) (w := w) (base := base) (k := 5) (j := 10) (wd := "bound") F_q17 E Z rfl rfl (by decide) rfl (by decide +kernel)
   have e:("! ":Str) ++ ("bound":Str) = "! bound" := by decide +kernel
   rw [e] at q
   exact q,fun C x h => by
   obtain ⟨rfl,rfl⟩ := kn1_some h
   exact t_ex⟩
 have G_q7:FnOk l.prog w K mg base CX0 7 _ _ ["_law_layout_here"] (spP 1 (runP n_q7 (b_q7 c_Bound (kn1 c_Bound)))) := ok_q7 (P := l.prog) (w := w) (base := base) (k := 6) F_q7 W x_JoinError M_q17 k_q17 B_q17 (G_q18.mono (by decide)) M_q18 k_q18 B_q18
 have G_q0:FnOk l.prog w K mg base CX0 5 _ _ ["layout"] (spF 1 (runF n_q0 b_q0)) := ok_q0 (P := l.prog) (w := w) (base := base) (k := 4) F_q1 m_len (G_q12.mono (by decide)) M_q12 k_q12 B_q12
 have G_q4:FnOk l.prog w K mg base CX0 6 _ _ ["layout"] (spF 1 (runF n_q4 b_q4)) := ok_q4 (P := l.prog) (w := w) (base := base) (k := 5) F_q18 (G_q20.mono (by decide)) M_q20 k_q20 B_q20 (G_q0.mono (by decide)) M_q1 k_q1 B_q1
 have G_q2:FnOk l.prog w K mg base CX0 7 _ _ ["_law_layout_here"] (spF 1 (runF n_q2 (b_q2 (kn1 c_Bound)))) := ok_q2 (P := l.prog) (w := w) (base := base) (k := 6) F_q7 W x_JoinError M_q17 k_q17 B_q17 (G_q4.mono (by decide)) M_q18 k_q18 B_q18
 have G_q23:FnOk l.prog w K mg base CX0 8 _ _ ["_law_script"] (spP 1 (runP n_q23 (b_q23 c_Bound (kn1 c_Bound)))) := ok_q23 (P := l.prog) (w := w) (base := base) (k := 7) F_q23 m_len m_max m_min m_range (G_q7.mono (by decide)) M_q7 k_q7 B_q7 (G_q2.mono (by decide)) M_q7 k_q7 B_q7 (G_q19.mono (by decide)) M_q19 k_q19 B_q19 (G_q3.mono (by decide)) M_q3 k_q3 B_q3 (G_q15.mono (by decide)) M_q15 k_q15 B_q15 (G_q9.mono (by decide)) M_q9 k_q9 B_q9
 exact law_ok G_q23 (law_math0 c_Bound (kn1 c_Bound) (kn1_me _))
end K72
open PySem PySem.W PyProof.Rows
set_option maxRecDepth 100000
set_option maxHeartbeats 0
namespace TopAll
open PySem PySem.W PySem.Calls PyProof.Rows
def run (st:SharedT→Thread→Option (SharedT×Thread)) (ok:Thread→Bool):Nat→SharedT→Thread→Option SharedT
 |0,_,_=>none
 |n+1,s,t=>match through t with
  |true=>some s
  |false=>match ok t with
   |false=>none
   |true=>match st s t with
    |some (s',t')=>run st ok n s' t'
    |none=>none
theorem run_spec {tb:String→Option Builtin} {p:Program} {w:World} {m:Nat} {an:Option Value}:∀ {n:Nat} {s s':SharedT} {t:Thread},
  run (stepT (denote tb) p w) (stepOk m an) n s t=some s' → topRun tb p w m an n s.abs t=some s'.abs
 |0,_,_,_,h=>by cases h
 |n+1,s,s',t,h=>by
  unfold run at h
  unfold topRun
  cases ht:through t with
  |true=>rw [ht] at h;cases h;rfl
  |false=>
   rw [ht] at h
   cases hk:stepOk m an t with
   |false=>rw [hk] at h;cases h
   |true=>
    rw [hk] at h
    cases hs:stepT (denote tb) p w s t with
    |none=>rw [hs] at h;cases h
    |some r=>obtain ⟨s2,t2⟩:=r;rw [hs] at h;rw [stepT_spec hs];exact run_spec h
noncomputable def boot (w:World) (os:OsState):SharedT:=⟨(boot_heap w.params).objs.toList.zipIdx.foldl (fun t x=>t.ins x.2 x.1) BT.nil,11,(boot_heap w.params).life,Array.mk [],boot_drawn,boot_toks,os⟩
theorem boot_abs (w:World) (os:OsState):(boot w os).abs=⟨boot_heap w.params,Array.mk [],boot_drawn,boot_toks,os⟩:=by kernel_rfl
theorem boot_size (w:World):((boot_heap w.params).isNs mainGlobals && (Array.mk []:Array GenState).size==0,(boot_heap w.params).objs.size,(boot_heap w.params).nsMap mainGlobals "__annotations__")=(true,11,some (.ref 6)):=by kernel_rfl
noncomputable abbrev go (p:Program) (w:World) (N:Nat) (os:OsState):Option SharedT:=run (Fast.tw10156331382660048174 (Fast.tw11892475500146522536 Fast.tw14364793385576792824) p w) (Fast.tw6613529449190102663 11 (some (.ref 6))) N (boot w os) (topStub p)
theorem left {p q:Program} {lo:List Str} {Xt:Shared→Bool} {α:Type} {Yf:Shared→α} {Ya:World→α} {N:Nat} {g0:Bool}
  (e:opening p=plainProg p.main.scope.names) (hN:Nat.ble 600 N=true) (f:∀ s,fenceModules? p s=some s)
  (u1:∀ w:World,(fun os=>(go p w N os).map fun S=>((staticsOk (importedModules p.main.body) (boot_heap w.params) S.abs.heap && namesBound p S.abs.heap && gensDone S.abs && laidKept (boot_heap w.params) S.abs.heap),
   (Fast.tw4187177175401517315 q lo (Fast.tw5923862056798008813 p.main.body) Xt g0 S.abs).1))=fun _=>some (true,(openGood q lo).1))
  (u2:∀ w:World,(fun os=>(go p w N os).map fun S=>(Fast.tw4187177175401517315 q lo (Fast.tw5923862056798008813 p.main.body) Xt g0 S.abs).2)=fun _=>some (openGood q lo).2)
  (u3:∀ w:World,(fun os=>(go p w N os).map fun S=>Yf S.abs)=fun _=>some (Ya w)):LeftO p q lo Xt Yf Ya N g0:=fun w=>by
 obtain ⟨⟨h,gs,d,k,os⟩,e1,e'⟩:=Option.map_eq_some_iff.mp (boot_open e hN f w)
 obtain ⟨rfl,rfl,rfl,rfl⟩:h=boot_heap w.params∧gs=Array.mk []∧d=boot_drawn∧k=boot_toks:=by simpa using e'
 obtain ⟨z1,z2,z3⟩:_∧_∧_:=by simpa only [Prod.mk.injEq] using boot_size w
 obtain ⟨S,r,l1⟩:=Option.map_eq_some_iff.mp (congrFun (u1 w) os)
 have l2:=congrFun (u2 w) os
 have l3:=congrFun (u3 w) os
 simp only [r,Option.map_some,Option.some.injEq] at l2 l3
 obtain ⟨l1,l4⟩:=Prod.mk.inj l1
 rw [←Fast.te4187177175401517315,←Fast.te5923862056798008813] at l2 l4
 unfold go at r
 rw [←Fast.te10156331382660048174,←Fast.te11892475500146522536,←Fast.te14364793385576792824,←Fast.te6613529449190102663] at r
 have r:=run_spec r
 rw [boot_abs] at r
 have t:topFrom treeTable p w N ⟨boot_heap w.params,Array.mk [],boot_drawn,boot_toks,os⟩=some S.abs:=by
  unfold topFrom
  dsimp only
  rw [z1,z2,z3,r]
  show (match staticsOk (importedModules p.main.body) (boot_heap w.params) S.abs.heap && namesBound p S.abs.heap && gensDone S.abs && laidKept (boot_heap w.params) S.abs.heap with |true=>_|false=>_)=_
  rw [l1]
 unfold openEnds
 rw [e1]
 show (topFrom treeTable p w N _).map _=_
 rw [t]
 exact congrArg some (Prod.ext (Prod.ext l4 l2) l3)
end TopAll
abbrev TopAll.q:PySem.Program:=PySem.W.view PySem.Challenge.rw_jointrees_k72_deeds_up_and_down.prog [1,2,3,4,5,6,7,8,9,10,11,12,13,15,17,18,19,20,21,22,24,25,26,28,29,30,31,32,33,34,35,36,37,38]
open PySem PySem.W PySem.Calls PyProof.Rows
theorem TopAll.law:PySem.Challenge.rw_jointrees_k72_deeds_up_and_down.wellSaid=true:=by
 rw [Fast.te9446332074065402090]
 kernel_rfl
theorem TopAll.u1 (w:World):(fun os=>(TopAll.go PySem.Challenge.rw_jointrees_k72_deeds_up_and_down.row.prog w 8000 os).map fun S=>((staticsOk (importedModules PySem.Challenge.rw_jointrees_k72_deeds_up_and_down.row.prog.main.body) (boot_heap w.params) S.abs.heap && namesBound PySem.Challenge.rw_jointrees_k72_deeds_up_and_down.row.prog S.abs.heap && gensDone S.abs && laidKept (boot_heap w.params) S.abs.heap),
   (Fast.tw4187177175401517315 TopAll.q [] (Fast.tw5923862056798008813 PySem.Challenge.rw_jointrees_k72_deeds_up_and_down.row.prog.main.body) (fun s=>xlAt TopAll.q [] s && recOk [] s) true S.abs).1))=fun _=>some (true,(openGood TopAll.q []).1):=by kernel_rfl
theorem TopAll.u2 (w:World):(fun os=>(TopAll.go PySem.Challenge.rw_jointrees_k72_deeds_up_and_down.row.prog w 8000 os).map fun S=>(Fast.tw4187177175401517315 TopAll.q [] (Fast.tw5923862056798008813 PySem.Challenge.rw_jointrees_k72_deeds_up_and_down.row.prog.main.body) (fun s=>xlAt TopAll.q [] s && recOk [] s) true S.abs).2)=fun _=>some (openGood TopAll.q []).2:=by kernel_rfl
set_option hygiene false in
local macro_rules |`(tactic|o_head $H)=>`(tactic|(refine holds_open (r:=PySem.Challenge.rw_jointrees_k72_deeds_up_and_down.row) (q:=TopAll.q) (loose:=[]) (Xt:=fun s=>xlAt TopAll.q [] s && recOk [] s) (XP:=XL TopAll.q []) (Yf:=Hook.obs $H) (Ya:=Hook.val $H) (YP:=Hook.says $H) (N:=8000) ?hl (Hook.of $H) (Hook.keeps $H) (fun s e=>xl_of s (Bool.and_eq_true_iff.mp e).1) XL.keeps (by rfl) (by rfl) (by rfl) (fun s e=>recFacts_of (Bool.and_eq_true_iff.mp e).2) (by rfl) (by assumption) (by decide +kernel) ⟨rfl,rfl,rfl,rfl,rfl,by decide +kernel⟩ ?hw ?hc;(case hl=>exact TopAll.left (by kernel_rfl) (by decide) (fun s=>by kernel_rfl) TopAll.u1 TopAll.u2 (fun w=>by kernel_rfl))))
set_option maxRecDepth 100000 in
set_option maxHeartbeats 0 in
theorem PySem.Challenge.cw_jointrees_k72_deeds_up_and_down_holds : PySem.Challenge.rw_jointrees_k72_deeds_up_and_down.Holds := by
 w_on;refine holds_law TopAll.law fun said=>?_;k_head;(case hw=>w_witness2)
 k_fill
 refine Jt.walkD (l := PySem.Challenge.rw_jointrees_k72_deeds_up_and_down) (k := 8) rfl rfl ⟨rfl,by decide,by decide,rfl⟩ (fun w h Y => PySem.W.kIn_of Y) ?L ?F
 case L => intro w; kernel_rfl
 case F =>
  intro w mg fa h KX G hmg
  refine' K72.all_mk KX G hmg ?u_NoLayout ?u_NoHead ?u_NoColumn ?u_NoTree ?u_NoOrder ?u_NoTables ?u_NoDeed ?u_NoNumber ?u_NoRow ?u_NoText ?u_Bound ?u_TooMany ?u_JoinError ?u_ve ?u_sum ?u_int ?u_isi ⟨?e1,?e2,?e3,?e4,?e5,?e6,?e7,?e8⟩ ?qExc ?tve ?tex ?t_NoLayout ?t_NoHead ?t_NoColumn ?t_NoTree ?t_NoOrder ?t_NoTables ?t_NoDeed ?t_NoNumber ?t_NoRow ?t_NoText ?t_Bound ?t_TooMany ?a_q22 ?l_q22 ?c_q22 ?k_q22 ?a_q5 ?l_q5 ?c_q5 ?k_q5 ?a_q16 ?l_q16 ?c_q16 ?k_q16 ?a_q6 ?l_q6 ?c_q6 ?k_q6 ?a_q10 ?l_q10 ?c_q10 ?k_q10 ?a_q21 ?l_q21 ?c_q21 ?k_q21 ?a_q12 ?l_q12 ?c_q12 ?k_q12 ?a_q1 ?l_q1 ?c_q1 ?k_q1 ?a_q20 ?l_q20 ?c_q20 ?k_q20 ?a_q18 ?l_q18 ?c_q18 ?k_q18 ?a_q14 ?l_q14 ?c_q14 ?k_q14 ?a_q19 ?l_q19 ?c_q19 ?k_q19 ?a_q11 ?l_q11 ?c_q11 ?k_q11 ?a_q15 ?l_q15 ?c_q15 ?k_q15 ?a_q3 ?l_q3 ?c_q3 ?k_q3 ?a_q8 ?l_q8 ?c_q8 ?k_q8 ?a_q13 ?l_q13 ?c_q13 ?k_q13 ?a_q9 ?l_q9 ?c_q9 ?k_q9 ?a_q7 ?l_q7 ?c_q7 ?k_q7 ?a_q17 ?l_q17 ?c_q17 ?k_q17 ?a_q23 ?l_q23 ?c_q23 ?k_q23 ?z_all ?z_any ?z_bool ?z_isinstance ?z_len ?z_list ?z_max ?z_min ?z_range ?z_reversed ?z_set ?z_sorted ?z_tuple ?z_zip
  (case u_NoLayout => k_is)
  (case u_NoHead => k_is)
  (case u_NoColumn => k_is)
  (case u_NoTree => k_is)
  (case u_NoOrder => k_is)
  (case u_NoTables => k_is)
  (case u_NoDeed => k_is)
  (case u_NoNumber => k_is)
  (case u_NoRow => k_is)
  (case u_NoText => k_is)
  (case u_Bound => k_is)
  (case u_TooMany => k_is)
  (case u_JoinError => k_is)
  (case u_ve => k_is)
  (case u_sum => k_is)
  (case u_int => k_is)
  (case u_isi => k_is)
  (case e1 => first | k_is | kernel_rfl)
  (case e2 => first | k_is | kernel_rfl)
  (case e3 => first | k_is | kernel_rfl)
  (case e4 => first | k_is | kernel_rfl)
  (case e5 => first | k_is | kernel_rfl)
  (case e6 => first | k_is | kernel_rfl)
  (case e7 => first | k_is | kernel_rfl)
  (case e8 => first | k_is | kernel_rfl)
  (case qExc => kernel_rfl)
  (case tve => kernel_rfl)
  (case tex => kernel_rfl)
  (case t_NoLayout => kernel_rfl)
  (case t_NoHead => kernel_rfl)
  (case t_NoColumn => kernel_rfl)
  (case t_NoTree => kernel_rfl)
  (case t_NoOrder => kernel_rfl)
  (case t_NoTables => kernel_rfl)
  (case t_NoDeed => kernel_rfl)
  (case t_NoNumber => kernel_rfl)
  (case t_NoRow => kernel_rfl)
  (case t_NoText => kernel_rfl)
  (case t_Bound => kernel_rfl)
  (case t_TooMany => kernel_rfl)
  (case a_q22 => k_is); (case l_q22 => k_is); (case c_q22 => k_is); (case k_q22 => k_is)
  (case a_q5 => k_is); (case l_q5 => k_is); (case c_q5 => k_is); (case k_q5 => k_is)
  (case a_q16 => k_is); (case l_q16 => k_is); (case c_q16 => k_is); (case k_q16 => k_is)
  (case a_q6 => k_is); (case l_q6 => k_is); (case c_q6 => k_is); (case k_q6 => k_is)
  (case a_q10 => k_is); (case l_q10 => k_is); (case c_q10 => k_is); (case k_q10 => k_is)
  (case a_q21 => k_is); (case l_q21 => k_is); (case c_q21 => k_is); (case k_q21 => k_is)
  (case a_q12 => k_is); (case l_q12 => k_is); (case c_q12 => k_is); (case k_q12 => k_is)
  (case a_q1 => k_is); (case l_q1 => k_is); (case c_q1 => k_is); (case k_q1 => k_is)
  (case a_q20 => k_is); (case l_q20 => k_is); (case c_q20 => k_is); (case k_q20 => k_is)
  (case a_q18 => k_is); (case l_q18 => k_is); (case c_q18 => k_is); (case k_q18 => k_is)
  (case a_q14 => k_is); (case l_q14 => k_is); (case c_q14 => k_is); (case k_q14 => k_is)
  (case a_q19 => k_is); (case l_q19 => k_is); (case c_q19 => k_is); (case k_q19 => k_is)
  (case a_q11 => k_is); (case l_q11 => k_is); (case c_q11 => k_is); (case k_q11 => k_is)
  (case a_q15 => k_is); (case l_q15 => k_is); (case c_q15 => k_is); (case k_q15 => k_is)
  (case a_q3 => k_is); (case l_q3 => k_is); (case c_q3 => k_is); (case k_q3 => k_is)
  (case a_q8 => k_is); (case l_q8 => k_is); (case c_q8 => k_is); (case k_q8 => k_is)
  (case a_q13 => k_is); (case l_q13 => k_is); (case c_q13 => k_is); (case k_q13 => k_is)
  (case a_q9 => k_is); (case l_q9 => k_is); (case c_q9 => k_is); (case k_q9 => k_is)
  (case a_q7 => k_is); (case l_q7 => k_is); (case c_q7 => k_is); (case k_q7 => k_is)
  (case a_q17 => k_is); (case l_q17 => k_is); (case c_q17 => k_is); (case k_q17 => k_is)
  (case a_q23 => k_is); (case l_q23 => k_is); (case c_q23 => k_is); (case k_q23 => k_is)
  (case z_all => k_is)
  (case z_any => k_is)
  (case z_bool => k_is)
  (case z_isinstance => k_is)
  (case z_len => k_is)
  (case z_list => k_is)
  (case z_max => k_is)
  (case z_min => k_is)
  (case z_range => k_is)
  (case z_reversed => k_is)
  (case z_set => k_is)
  (case z_sorted => k_is)
  (case z_tuple => k_is)
  (case z_zip => k_is)
