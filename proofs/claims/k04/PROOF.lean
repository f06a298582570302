import PyProof.Rows.All
import Wide.All
import OpenK.AllK
import Wide.FinOn
import Lean
import PyProof.Rows.SetFrom
import PyProof.WalksMore
import PyProof.SetRoads
import PyProof.ListRange
import PyProof.Rows.SortWalk
import PyProof.CollectWalk
import PyProof.ZipIter
import PyProof.EnumStmt
import PyProof.EqAt
import PyProof.EqKinds
import PyProof.TupleCall
import PyProof.CompFree
import PyProof.Cells
import PyProof.ConsumeWalk
import PyProof.TupleOfSeq
import PyProof.NeKinds
import PyProof.IsiPairs
import PyProof.IsiHeapPairs
import PyProof.IsInstanceT
import PyProof.IsiTupleOf
import KE.KSortTup
import KE.KTryMore
import PyProof.ExcBaseAll.ValueError
import KE.RegMulBits
import Wide.ObjOpen
import Wide.RegSB
import PyProof.ExcAttrAll.ValueError
import PyProof.ExcArgsOwn
import PyProof.SumWalk
import PyProof.ReprRoads
import PyProof.Rows.DictMade
import PyProof.Rows.DictMethods
import KE.KRevIter
import PyProof.ListMulRoad
import PyProof.FactsAll.tuple_2
import PyProof.DictCompW
import PySem.Challenge.RW_jointrees_k04_whole_layouts_together
noncomputable section
set_option Elab.async false
set_option linter.all false
set_option maxRecDepth 100000
set_option maxHeartbeats 4000000
namespace Jt
open PySem
def Up (xs:Array Nat):Prop:=xs.toList.Pairwise (· < ·)
theorem Up.lt {xs:Array Nat} (u:Up xs) {i k a b:Nat} (h:i < k) (ha:xs[i]? = some a) (hb:xs[k]? = some b):a < b:= by
 rw [<- Array.getElem?_toList] at ha hb
 obtain ⟨hi,e1⟩:=List.getElem?_eq_some_iff.mp ha
 obtain ⟨hk,e2⟩:=List.getElem?_eq_some_iff.mp hb
 rw [<- e1,<- e2]
 exact List.pairwise_iff_getElem.mp u i k hi hk h
theorem vP {xs:Array Nat} {j:Nat} (u:Up xs):∀ (fuel lo hi:Nat),hi ≤ xs.size -> lo ≤ hi -> hi - lo ≤ fuel ->
  (∀ i v,i < lo -> xs[i]? = some v -> v < j) -> (∀ i v,hi ≤ i -> xs[i]? = some v -> j ≤ v) ->
  SetTable.below.go xs j fuel lo hi ≤ xs.size ∧ (∀ i v,i < SetTable.below.go xs j fuel lo hi -> xs[i]? = some v -> v < j) ∧ ∀ i v,SetTable.below.go xs j fuel lo hi ≤ i -> xs[i]? = some v -> j ≤ v:= by
 intro fuel
 induction fuel with
 | zero =>
  intro lo hi h1 h2 h3 h4 h5
  unfold SetTable.below.go
  have:lo = hi:=by omega
  subst this
  exact ⟨h1,h4,h5⟩
 | succ fuel ih =>
  intro lo hi h1 h2 h3 h4 h5
  unfold SetTable.below.go
  by_cases hl:lo < hi
  ·rw [if_pos hl]
   have hm:(lo + hi) / 2 < xs.size:=by omega
   have eg:xs.getD ((lo + hi) / 2) j = xs[(lo + hi) / 2]:=by simp [Array.getD,hm]
   have em:xs[(lo + hi) / 2]? = some xs[(lo + hi) / 2]:=by simp [hm]
   dsimp only
   by_cases hc:xs.getD ((lo + hi) / 2) j < j
   ·rw [if_pos hc]
    refine ih _ _ h1 (by omega) (by omega) (fun i v hi' e => ?_) h5
    rcases Nat.lt_or_eq_of_le (Nat.le_of_lt_succ hi') with q | q
    ·have:=u.lt q e em
     omega
    ·subst q; rw [em] at e; cases e; omega
   ·rw [if_neg hc]
    refine ih _ _ (by omega) (by omega) (by omega) h4 fun i v hi' e => ?_
    rcases Nat.lt_or_eq_of_le hi' with q | q
    ·have:=u.lt q em e
     omega
    ·subst q; rw [em] at e; cases e; omega
  ·rw [if_neg hl]
   have:lo = hi:=by omega
   subst this
   exact ⟨h1,h4,h5⟩
theorem gS {xs:Array Nat} (u:Up xs) (j:Nat):SetTable.below xs j ≤ xs.size ∧ (∀ i v,i < SetTable.below xs j -> xs[i]? = some v -> v < j) ∧ ∀ i v,SetTable.below xs j ≤ i -> xs[i]? = some v -> j ≤ v:= by
 unfold SetTable.below
 refine vP u _ _ _ (Nat.le_refl _) (Nat.zero_le _) (by omega) (fun i v h => absurd h (Nat.not_lt_zero _)) fun i v h e => ?_
 rw [Array.getElem?_eq_none h] at e
 cases e
theorem sv {xs:Array Nat} (u:Up xs) {j:Nat} (h:xs[SetTable.below xs j]? ≠ some j):j ∉ xs.toList:=fun hm => by
 obtain ⟨i,hi,e⟩:=List.getElem_of_mem hm
 have ei:xs[i]? = some j:=by rw [<- Array.getElem?_toList,List.getElem?_eq_getElem hi,e]
 obtain ⟨_,b1,b2⟩:=gS u j
 rcases Nat.lt_trichotomy i (SetTable.below xs j) with q | q | q
 ·exact absurd (b1 i j q ei) (Nat.lt_irrefl _)
 ·rw [<- q] at h; exact h ei
 ·have hb:SetTable.below xs j < xs.size:=Nat.lt_of_lt_of_le q (by simpa using Nat.le_of_lt hi)
  have e2:xs[SetTable.below xs j]? = some xs[SetTable.below xs j]:=by simp [hb]
  have:=u.lt q e2 ei
  have:=b2 _ _ (Nat.le_refl _) e2
  omega
theorem sD {xs:Array Nat} (u:Up xs) {j:Nat} (h:j ∉ xs.toList):Up (SetTable.insertAt xs (SetTable.below xs j) j):= by
 unfold Up
 rw [SetTable.toList_insertAt]
 obtain ⟨b0,b1,b2⟩:=gS u j
 have u':xs.toList.Pairwise (· < ·):=u
 have hd:∀ y ∈ xs.toList.drop (SetTable.below xs j),j < y:=fun y hy => by
  obtain ⟨i,hi,e⟩:=List.getElem_of_mem hy
  rw [List.getElem_drop] at e
  have hm:y ∈ xs.toList:=List.mem_of_mem_drop hy
  have:=b2 (SetTable.below xs j + i) y (by omega) (by rw [<- Array.getElem?_toList,List.getElem?_eq_some_iff]; exact ⟨by simp at hi; simp; omega,e⟩)
  rcases Nat.lt_or_eq_of_le this with q | q
  ·exact q
  ·subst q; exact absurd hm h
 have ht:∀ y ∈ xs.toList.take (SetTable.below xs j),y < j:=fun y hy => by
  obtain ⟨i,hi,e⟩:=List.getElem_of_mem hy
  rw [List.getElem_take] at e
  have hi':i < SetTable.below xs j ∧ i < xs.toList.length:=by rw [List.length_take] at hi; omega
  exact b1 i y hi'.1 (by rw [<- Array.getElem?_toList,List.getElem?_eq_some_iff]; exact ⟨hi'.2,e⟩)
 rw [List.pairwise_append]
 refine ⟨u'.sublist (List.take_sublist _ _),?_,fun a ha b hb => ?_⟩
 ·rw [List.pairwise_cons]
  exact ⟨hd,u'.sublist (List.drop_sublist _ _)⟩
 ·rcases List.mem_cons.mp hb with e | hb
  ·rw [e]; exact ht a ha
  ·exact Nat.lt_trans (ht a ha) (hd b hb)
def Tb (t:SetTable):Prop:=t.plain = true -> Up t.place
theorem sy {t:SetTable} {j:Nat} (u:Up t.place) (h:t.slot j = .empty ∨ t.slot j = .dummy):j ∉ t.place.toList:= by
 refine sv u fun e => ?_
 unfold SetTable.slot at h
 dsimp only at h
 rw [if_pos (by rw [e]; simp)] at h
 rcases h with h | h <;> cases h
theorem gq (t:SetTable) (p:SetTable.Probe):(t.advance p).dummy = p.dummy:= by
 unfold SetTable.advance
 split <;> rfl
theorem qj {t:SetTable} {f:Nat -> Int} {h:Int}:∀ (fuel:Nat) (p:SetTable.Probe) (j:Nat) (d:Option Nat),(∀ x,p.dummy = some x -> t.slot x = .dummy) ->
  SetTable.probe.go t f h fuel p = some (.empty j d) -> t.slot (d.getD j) = .empty ∨ t.slot (d.getD j) = .dummy:= by
 intro fuel
 induction fuel with
 | zero => intro p j d _ e; unfold SetTable.probe.go at e; cases e
 | succ fuel ih =>
  intro p j d hp e
  unfold SetTable.probe.go at e
  cases q:t.slot p.j with
  | empty =>
   rw [q] at e
   injection e with e
   injection e with e1 e2
   subst e1
   cases d with
   | none => exact .inl q
   | some x => exact .inr (hp x e2)
  | dummy =>
   rw [q] at e
   dsimp only at e
   refine ih _ j d (fun x hx => ?_) e
   rw [gq] at hx
   cases hx
   exact q
  | live i =>
   rw [q] at e
   dsimp only at e
   split at e
   ·cases e
   ·exact ih _ j d (fun x hx => hp x (by rw [gq] at hx; exact hx)) e
theorem kS {t:SetTable} {h:Int} {j:Nat} {b:Bool} (u:Up t.place) (e:t.freeSlot h = some (j,b)):j ∉ t.place.toList:= by
 unfold SetTable.freeSlot at e
 split at e
 ·rename_i j' d q
  cases e
  exact sy u (qj _ _ _ _ (fun x hx => by unfold SetTable.probeStart at hx; cases hx) q)
 ·cases e
theorem rZ {t:SetTable} (h:Tb t) (es:Array (Int × Value)) (k:Int) (x:Value):Tb (layNew t es k x).2.1 ∧ (layNew t es k x).2.1.led = t.led:= by
 unfold layNew
 split
 ·rename_i j b e
  dsimp only
  unfold SetTable.orStandIn
  split
  ·exact ⟨fun hp => sD (h hp) (kS (h hp) e),rfl⟩
  ·exact ⟨fun hp => absurd (show false = true from hp) Bool.false_ne_true,rfl⟩
 ·exact ⟨fun hp => absurd (show false = true from hp) Bool.false_ne_true,rfl⟩
theorem zw {mask finger moves:Nat} {led plain:Bool} {hs:Array Int} {t:SetTable} {o:Array Nat} (e:SetTable.laid mask finger moves led plain hs = some (t,o)):Up t.place ∧ t.led = led:= by
 unfold SetTable.laid at e
 cases q:SetTable.layClean mask hs with
 | none => rw [q] at e; cases e
 | some owner =>
  rw [q] at e
  injection e with e
  injection e with e1 e2
  subst e1
  refine ⟨?_,rfl⟩
  show (List.map _ _).Pairwise _
  rw [List.pairwise_map]
  rw [List.pairwise_filterMap]
  refine List.Pairwise.imp (fun {a b} hab x hx y hy => ?_) List.pairwise_lt_range
  cases q1:owner.getD a none with
  | none => rw [q1] at hx; cases hx
  | some _ =>
   cases q2:owner.getD b none with
   | none => rw [q2] at hy; cases hy
   | some _ => rw [q1] at hx; rw [q2] at hy; cases hx; cases hy; exact hab
theorem oI (t:SetTable) (es:Array (Int × Value)) (n:Nat):Tb (relayAll t es n).2.1 ∧ (relayAll t es n).2.1.led = t.led:= by
 unfold relayAll
 split
 ·rename_i t' o e
  dsimp only
  split
  ·obtain ⟨h1,h2⟩:=zw e
   exact ⟨fun _ => h1,h2⟩
  ·exact ⟨fun hp => absurd (show false = true from hp) Bool.false_ne_true,rfl⟩
 ·exact ⟨fun hp => absurd (show false = true from hp) Bool.false_ne_true,rfl⟩
def eo (p:Int × Tok):Int × Value:=(hashInt p.1,.int p.1 p.2)
def ed (e:Int × Value):Int × Tok:=match e.2 with
 | .int i t => (i,t)
 | _ => (0,0)
theorem Ep (p:Int × Tok):ed (eo p) = p:=rfl
theorem mz {es:Array (Int × Value)} {l:List (Int × Tok)} (p:es.toList.Perm (l.map eo)):∃ l':List (Int × Tok),es.toList = l'.map eo ∧ l'.Perm l:= by
 refine ⟨es.toList.map ed,?_,?_⟩
 ·rw [List.map_map]
  have:es.toList.map (eo ∘ ed) = es.toList.map id:=List.map_congr_left fun x hx => by
   obtain ⟨q,_,rfl⟩:=List.mem_map.mp (p.mem_iff.mp hx)
   rfl
  rw [this,List.map_id]
 ·have:=p.map ed
  rw [List.map_map] at this
  have e:l.map (ed ∘ eo) = l:= by
   have:(ed ∘ eo) = id:=funext Ep
   rw [this,List.map_id]
  rwa [e] at this
structure bx (w:World) (h:Heap) (a:Addr) (l:List (Int × Tok)) (ep:Nat) (t:SetTable):Prop where
 obj:∃ o,h.get? a = some o ∧ o.ExactSet ∧ o.data = .set (l.map eo).toArray ep t
 few:l.length < scanBound
 fits:t.fits l.length = true
 led:t.led = !w.params.followText "set-order"
 tb:Tb t
end Jt
namespace Jt
open PySem
section
variable {prog:Program} {w:World} {A:Around} {E:Value -> Shared -> Prop} {s:Shared} {a:Addr} {l:List (Int × Tok)} {ep:Nat} {t:SetTable}
theorem vF (l:List (Int × Tok)):ElemsOf (intKind prog w) (l.map eo):=fun e he => by
 obtain ⟨p,_,rfl⟩:=List.mem_map.mp he
 exact ⟨⟨p.1,by simp [eo,intKind,Value.isInt],rfl⟩,rfl⟩
theorem ye (k:Int) (l:List (Int × Tok)):((l.map eo).findIdx? fun e => (intKind prog w).is k e.2).isSome = decide (k ∈ l.map (·.1)):= by
 rw [Bool.eq_iff_iff,decide_eq_true_eq,List.findIdx?_isSome,List.any_eq_true]
 constructor
 ·rintro ⟨e,he,hk⟩
  obtain ⟨p,hp,rfl⟩:=List.mem_map.mp he
  obtain ⟨u,eu⟩:=Value.isInt_shape (show Value.isInt k (.int p.1 p.2) = true from hk)
  injection eu with e1
  exact e1 ▸ List.mem_map.mpr ⟨p,hp,rfl⟩
 ·intro h
  obtain ⟨p,hp,rfl⟩:=List.mem_map.mp h
  exact ⟨eo p,List.mem_map_of_mem hp,by simp [eo,intKind,Value.isInt]⟩
theorem bx.store {h:Heap} {es:Array (Int × Value)} {l':List (Int × Tok)} {t':SetTable} (x:bx w h a l ep t) (he:es.toList = l'.map eo) (hn:l'.length < scanBound) (hf:t'.fits l'.length = true) (hl:t'.led = t.led) (hb:Tb t') :
  bx w (h.update a (Obj.putSet es t')) a l' (ep + 1) t':= by
 obtain ⟨o,ho,hx,hd⟩:=x.obj
 have e2:es = (l'.map eo).toArray:=by apply Array.toList_inj.mp; simpa using he
 refine ⟨⟨{ o with data:=.set es (ep + 1) t' },?_,hx,by rw [e2]⟩,hn,hf,hl.trans x.led,hb⟩
 have:=Heap.get?_update_self (Obj.putSet es t') ho (by rw [putSet_of es t' hd]; rfl)
 rwa [putSet_of es t' hd] at this
theorem jQ {es:Array (Int × Value)} {t':SetTable} {Q:Unit -> Shared -> Prop} (x:bx w s.heap a l ep t) (hz:es.size < scanBound) (h:Q () { s with heap:=s.heap.update a (Obj.putSet es t') }) :
  wpAny (model prog w) A (storeSet a es t') Q E s:= by
 obtain ⟨o,ho,_,hd⟩:=x.obj
 exact wpAny_storeSet_of ho hd h (fits_of_scanBound hz)
theorem fJ {es:Array (Int × Value)} {l':List (Int × Tok)} (h:es.toList = l'.map eo):es.size = l'.length:= by
 have:=congrArg List.length h
 simpa using this
theorem uQ {k:Int} {tok:Tok} {Q:Bool -> Shared -> Prop} (x:bx w s.heap a l ep t) (hroom:l.length + 1 < scanBound)
  (h:∀ h' l' ep' t' b,Heap.SameBut a s.heap h' -> bx w h' a l' ep' t' -> (if k ∈ l.map (·.1) then l' = l else l'.Perm (l ++ [(k,tok)])) -> Q b { s with heap:=h' }) :
  wpAny (model prog w) A (setAddHashed a (.int k tok) (hashInt k)) Q E s:= by
 obtain ⟨o,ho,hx,hd⟩:=x.obj
 have hsz:(l.map eo).toArray.size = l.length:=by simp
 have hel:ElemsOf (intKind prog w) (l.map eo).toArray.toList:=by simpa using vF l
 have hft:t.fits (l.map eo).toArray.size = true:=by rw [hsz]; exact x.fits
 unfold setAddHashed setAddHashedIn
 refine wpAny_holding ?_
 refine wpAny_bind (wpAny_setState_of ho hd hft ?_)
 show wpAny _ _ (if byScan (.int k tok) (l.map eo).toArray = true then _ else _) _ _ _
 rw [if_pos (byScan_of (knd:=intKind prog w) rfl (by rw [hsz]; exact x.few) hel)]
 refine wpAny_bind ?_
 unfold setAddByScan
 refine wpAny_bind (wpAny_rule ?_)
 refine wpAny_bind (wpAny_setScan_of (knd:=intKind prog w) (k:=k) (intKind_is _ _ _ _) ho hd hft hel ?_)
 have hfi:=ye (prog:=prog) (w:=w) k l
 rw [show (l.map eo).toArray.toList = l.map eo by simp]
 cases hr:(l.map eo).findIdx? (fun e => (intKind prog w).is k e.2) with
 | some j =>
  rw [hr] at hfi
  have hm:k ∈ l.map (·.1):=of_decide_eq_true hfi.symm
  dsimp only
  refine wpAny_pure (wpAny_pure ?_)
  have:=h s.heap l ep t false (Heap.SameBut.refl a s.heap) x (by rw [if_pos hm])
  exact this
 | none =>
  rw [hr] at hfi
  have hm:k ∉ l.map (·.1):=of_decide_eq_false hfi.symm
  dsimp only
  have p1:=layNew_perm t (l.map eo).toArray (hashInt k) (.int k tok)
  have f1:=layNew_fits t (l.map eo).toArray (hashInt k) (.int k tok)
  obtain ⟨b1,b2⟩:=rZ x.tb (l.map eo).toArray (hashInt k) (.int k tok)
  generalize hL:layNew t (l.map eo).toArray (hashInt k) (.int k tok) = L at p1 f1 b1 b2 ⊢
  obtain ⟨es1,t1,dm,gv⟩:=L
  dsimp only at p1 f1 b1 b2 ⊢
  rw [Array.toList_push,show (l.map eo).toArray.toList ++ [(hashInt k,Value.int k tok)] = (l ++ [(k,tok)]).map eo by simp [eo]] at p1
  obtain ⟨l1,e1,q1⟩:=mz p1
  have n1:l1.length = l.length + 1:=by rw [q1.length_eq]; simp
  have z1:=fJ e1
  have fin:∀ h' l' ep' t',Heap.SameBut a s.heap h' -> bx w h' a l' ep' t' -> l'.Perm l1 -> Q true { s with heap:=h' }:=fun h' l' ep' t' sb x' p' =>
   h h' l' ep' t' true sb x' (by rw [if_neg hm]; exact p'.trans q1)
  have gw:∀ (b:Bool) {s₁:Shared} {Q':Unit -> Shared -> Prop},Q' () s₁ -> wpAny (model prog w) A (match b with | true => rule "set.scan.the-table-gave-way" | false => pure ()) Q' E s₁:=fun b _ _ hq => by
   cases b
   ·exact wpAny_pure hq
   ·exact wpAny_rule hq
  refine wpAny_bind (gw gv ?_)
  have x1:bx w (s.heap.update a (Obj.putSet es1 t1)) a l1 (ep + 1) t1:=x.store e1 (by omega) (by rw [<- z1]; exact f1) b2 b1
  have sb1:=Heap.SameBut.update s.heap a (Obj.putSet es1 t1)
  have tl:∀ (g:Bool -> Sem Unit) (R:Option Bool -> Shared -> Prop),(∀ (b:Bool) {s₁:Shared} {Q':Unit -> Shared -> Prop},Q' () s₁ -> wpAny (model prog w) A (g b) Q' E s₁) ->
    (∀ h' l' ep' t',Heap.SameBut a s.heap h' -> bx w h' a l' ep' t' -> l'.Perm l1 -> R (some true) { s with heap:=h' }) ->
    wpAny (model prog w) A (storeSet a es1 t1 >>= fun _ => if (!dm && t1.tooFull) = true then (g (relayAll t1 es1 (SetTable.grown es1.size)).2.2 >>= fun _ =>
     storeSet a (relayAll t1 es1 (SetTable.grown es1.size)).1 (relayAll t1 es1 (SetTable.grown es1.size)).2.1 >>= fun _ => pure (some true)) else pure (some true)) R E s:=fun g R hg fin => by
   refine wpAny_bind (jQ x (by rw [z1]; omega) ?_)
   by_cases hfull:(!dm && t1.tooFull) = true
   ·rw [if_pos hfull]
    have p2:=relayAll_perm t1 es1 (SetTable.grown es1.size)
    have f2:=relayAll_fits t1 es1 (SetTable.grown es1.size)
    obtain ⟨c1,c2⟩:=oI t1 es1 (SetTable.grown es1.size)
    generalize hR:relayAll t1 es1 (SetTable.grown es1.size) = R at p2 f2 c1 c2 ⊢
    obtain ⟨es2,t2,gv2⟩:=R
    dsimp only at p2 f2 c1 c2 ⊢
    rw [e1] at p2
    obtain ⟨l2,e2,q2⟩:=mz p2
    have n2:l2.length = l1.length:=q2.length_eq
    have z2:=fJ e2
    refine wpAny_bind (hg gv2 ?_)
    refine wpAny_bind (jQ (s:={ s with heap:=s.heap.update a (Obj.putSet es1 t1) }) x1 (by rw [z2]; omega) (wpAny_pure ?_))
    exact fin _ l2 _ t2 (sb1.trans (Heap.SameBut.update _ a _)) (x1.store e2 (by omega) (by rw [<- z2]; exact f2) c2 c1) q2
   ·rw [if_neg hfull]
    exact wpAny_pure (fin _ l1 _ t1 sb1 x1 (List.Perm.refl _))
  split
  ·refine wpAny_bind (wpAny_pure ?_)
   exact tl _ _ gw fun h' l' ep' t' c1 c2 c3 => wpAny_pure (fin h' l' ep' t' c1 c2 c3)
  ·refine wpAny_bind (wpAny_pure ?_)
   exact tl _ _ gw fun h' l' ep' t' c1 c2 c3 => wpAny_pure (fin h' l' ep' t' c1 c2 c3)
end
end Jt
namespace Jt
open PySem
section
variable {prog:Program} {w:World} {A:Around} {E:Value -> Shared -> Prop} {s:Shared} {R:Result -> Shared -> Prop} {I:Addr} {fp wr:List Addr} {n:Nat} {P:Nat -> Value -> Prop} {St:Nat -> Heap -> Prop}
theorem bx.at {h h':Heap} {a:Addr} {l:List (Int × Tok)} {ep:Nat} {t:SetTable} (x:bx w h a l ep t) (k:∀ o,h.get? a = some o -> h'.get? a = some o):bx w h' a l ep t:= by
 obtain ⟨o,ho,hr⟩:=x.obj
 exact ⟨⟨o,k o ho,hr⟩,x.few,x.fits,x.led,x.tb⟩
theorem lA (W:Walks prog w A.in1 I fp wr n P St) (S:Addr) (hSf:S ∉ fp) (val:Nat -> Int) (hval:∀ i v,P i v -> ∃ t,v = .int (val i) t) (hb:n + 1 < scanBound) :
  ∀ (k i:Nat) (h:Heap) (tk:Nat) (l:List (Int × Tok)) (ep:Nat) (t:SetTable),n - i = k -> i ≤ n -> St i h -> bx w h S l ep t -> l.length ≤ i -> (l.map (·.1)).Nodup -> (∀ z,z ∈ l.map (·.1) ↔ ∃ j,j < i ∧ val j = z) ->
   (∀ h' tk' l' ep' t',(∀ b o,b ∉ S :: wr -> h.get? b = some o -> h'.get? b = some o) -> bx w h' S l' ep' t' -> (l'.map (·.1)).Nodup -> (∀ z,z ∈ l'.map (·.1) ↔ ∃ j,j < n ∧ val j = z) -> R (.ok (.ret .none)) { s with heap:=h',toks:=tk' }) ->
   codeAny (model prog w) A (.builtin "set.update.loop" ⟨[.ref S,.ref I],[]⟩) R { s with heap:=h,toks:=tk }:= by
 have hSw:S ∉ wr:=fun z => hSf (W.sub _ z)
 intro k
 induction k with
 | zero =>
  intro i h tk l ep t hk hi st x hl nd mem fin
  have ei:i = n:=by omega
  subst ei
  refine codeAny_builtin PyProof.Rows.F.entry_set_update_loop ?_
  rw [Around.under_plainId PyProof.Rows.F.plain_set_update_loop _]
  show wpAny (model prog w) A.in1 (pyNext (.ref I) >>= _) _ _ _
  refine wpAny_bind (W.done { s with heap:=h,toks:=tk } _ _ st fun h' tk' kp => ?_)
  exact wpAny_pure (fin h' tk' l ep t (fun b o hb' e => kp b o (fun z => hb' (List.mem_cons_of_mem _ z)) e) (x.at fun o e => kp S o hSw e) nd mem)
 | succ k ih =>
  intro i h tk l ep t hk hi st x hl nd mem fin
  have hlt:i < n:=by omega
  refine codeAny_builtin PyProof.Rows.F.entry_set_update_loop ?_
  rw [Around.under_plainId PyProof.Rows.F.plain_set_update_loop _]
  show wpAny (model prog w) A.in1 (pyNext (.ref I) >>= _) _ _ _
  refine wpAny_bind (W.item i { s with heap:=h,toks:=tk } _ _ hlt st fun v h1 tk1 hP st1 kp => ?_)
  obtain ⟨u,rfl⟩:=hval i v hP
  have x1:bx w h1 S l ep t:=x.at fun o e => kp S o hSw e
  show wpAny (model prog w) A.in1 (holding [Value.int (val i) u] (setAdd S (.int (val i) u)) >>= _) _ _ _
  refine wpAny_bind (wpAny_holding ?_)
  unfold setAdd
  refine wpAny_holding ?_
  refine wpAny_bind ((intKind prog w).pyHash (k:=val i) (intKind_is _ _ _ _) ?_)
  refine uQ (s:={ s with heap:=h1,toks:=tk1 + 1 }) x1 (by omega) fun h2 l2 ep2 t2 b sb x2 hif => ?_
  have hm2:(∀ z,z ∈ l2.map (·.1) ↔ ∃ j,j < i + 1 ∧ val j = z) ∧ (l2.map (·.1)).Nodup ∧ l2.length ≤ i + 1:= by
   by_cases hm:val i ∈ l.map (·.1)
   ·rw [if_pos hm] at hif
    subst hif
    refine ⟨fun z => (mem z).trans ⟨fun ⟨j,h1,h2⟩ => ⟨j,by omega,h2⟩,fun ⟨j,h1,h2⟩ => ?_⟩,nd,by omega⟩
    by_cases hj:j < i
    ·exact ⟨j,hj,h2⟩
    ·have:j = i:=by omega
     subst this
     exact (mem z).mp (h2 ▸ hm)
   ·rw [if_neg hm] at hif
    have pm:(l2.map (·.1)).Perm (l.map (·.1) ++ [val i]):=by simpa using hif.map (·.1)
    refine ⟨fun z => ?_,?_,?_⟩
    ·rw [pm.mem_iff,List.mem_append,mem z,List.mem_singleton]
     constructor
     ·rintro (⟨j,h1,h2⟩ | e)
      ·exact ⟨j,by omega,h2⟩
      ·exact ⟨i,by omega,e.symm⟩
     ·rintro ⟨j,h1,h2⟩
      by_cases hj:j < i
      ·exact .inl ⟨j,hj,h2⟩
      ·have:j = i:=by omega
       subst this
       exact .inr h2.symm
    ·rw [pm.nodup_iff,List.nodup_append]
     refine ⟨nd,by simp,fun p hp q hq e => ?_⟩
     rw [List.mem_singleton] at hq
     subst hq; subst e
     exact hm hp
    ·rw [hif.length_eq]; simp; omega
  refine wpAny_pure ⟨plainId_quiet PyProof.Rows.F.plain_set_update_loop _,ih (i + 1) h2 (tk1 + 1) l2 ep2 t2 (by omega) hlt (W.frame _ h1 h2 st1 fun b hb' o e => ?_) x2 hm2.2.2 hm2.2.1 hm2.1 fun h' tk' l' ep' t' c1 c2 c3 c4 => fin h' tk' l' ep' t' (fun b o hb' e => ?_) c2 c3 c4⟩
  ·rw [sb.2 b fun z => hSf (z ▸ hb')]; exact e
  ·refine c1 b o hb' ?_
   rw [sb.2 b fun z => hb' (z ▸ List.mem_cons_self)]
   exact kp b o (fun z => hb' (List.mem_cons_of_mem _ z)) e
theorem km {h:Heap} {S:Addr} (e:h.get? S = some { cls:=.type "set",dict:=none,data:=.set #[] 0 (.fresh 0 0 (!w.params.followText "set-order")) }):bx w h S [] 0 (.fresh 0 0 (!w.params.followText "set-order")) :=
 ⟨⟨_,e,⟨rfl,rfl,rfl⟩,rfl⟩,by decide,by rfl,rfl,fun _ => List.Pairwise.nil⟩
theorem i5 (v:Value) {Q:Value -> Shared -> Prop} (h:Q (.ref s.heap.objs.size) { s with heap:=s.heap.push { cls:=.type "set",dict:=none,data:=.set #[] 0 (.fresh 0 0 (!w.params.followText "set-order")) } }) :
  codeAny (model prog w) A (.call (.builtin "set.__new__") ⟨[.type "set",v],[]⟩) (wants Q E) s:= by
 refine codeAny_of_tree ?_
 show wpAny (model prog w) A.in1 (do checkBuiltinCall "set.__new__" ⟨[.type "set",v],[]⟩; again (.builtin "set.__new__" ⟨[.type "set",v],[]⟩)) _ _ s
 refine wpAny_bind (wpAny_of_eq (F.newCall_set_1 v) (wpAny_pure ⟨plainId_quiet F.plain_set_new _,codeAny_builtin F.entry_set_new ?_⟩))
 rw [Around.under_plainId F.plain_set_new _]
 have hsub:=sub_set_self
 obtain ⟨hp,g,d,tk,os⟩:=s
 unfold Builtin.«set.__new__» Builtin.Frozenset.newClass
 dsimp only
 wp_walk
 refine wpAny_askSetting (wpAny_pure ?_)
 dsimp only
 simp only [newObj]
 exact wpAny_bind (wpAny_alloc (wpAny_pure (wpAny_pure h)))
set_option maxHeartbeats 8000000 in
theorem sO {l:Addr} {items:Array Value} {ns:List Int} {Q:Value -> Shared -> Prop} (hh:A.handled = none) (hl:s.heap.IsList l items) (hi:PyProof.Rows.IntsAre items.toList ns) (hb:items.size + 1 < scanBound)
  (h:∀ (h':Heap) (tk:Nat) (ls:List (Int × Tok)) (ep:Nat) (t:SetTable),bx w h' s.heap.objs.size ls ep t -> (ls.map (·.1)).Nodup -> (∀ z,z ∈ ls.map (·.1) ↔ z ∈ ns) ->
   (∀ b o,s.heap.get? b = some o -> h'.get? b = some o) -> Q (.ref s.heap.objs.size) { s with heap:=h',toks:=tk }) :
  wpAny (model prog w) A (call (.type "set") [.ref l]) Q E s:= by
 obtain ⟨c,tl,hmro⟩:=F.called_set.mro
 have hmade:=F.called_set.made
 have hsub:=F.called_set.sub
 refine wpAny_call (codeAny_of_tree (?_:wpAny _ _ (callAny (.type "set") _) _ _ _))
 refine wpAny_pure ⟨Code.quiet_builtin _ (by decide +kernel),codeAny_builtin F.entry_type_call ?_⟩
 rw [Around.under_plain (weight_type_call_type "set" [.ref l] []) rfl]
 have h1:=F.called_set.notType
 have h2:=F.called_set.canCreate
 have hct:=F.typeCall_set_1 (.ref l)
 repeat (any_goals (first | assumption | wp_step))
 refine codeAny_mono (i5 (.ref l) (E:=E) (Q:=fun obj s₁ => obj = .ref s.heap.objs.size ∧ s₁ = { s with heap:=s.heap.push { cls:=.type "set",dict:=none,data:=.set #[] 0 (.fresh 0 0 (!w.params.followText "set-order")) } }) ⟨rfl,rfl⟩) fun r s₁ hr => ?_
 cases r with
 | error e => exact hr
 | ok fl =>
  cases fl with
  | ret obj =>
   obtain ⟨rfl,rfl⟩:=hr
   have hS:(s.heap.push ({ cls:=.type "set",dict:=none,data:=.set #[] 0 (.fresh 0 0 (!w.params.followText "set-order")) }:Obj)).get? s.heap.objs.size = some ({ cls:=.type "set",dict:=none,data:=.set #[] 0 (.fresh 0 0 (!w.params.followText "set-order")) }:Obj):=Heap.get?_push_size _ rfl
   have hT:Shared.TypeIs { s with heap:=s.heap.push ({ cls:=.type "set",dict:=none,data:=.set #[] 0 (.fresh 0 0 (!w.params.followText "set-order")) }:Obj) } (.ref s.heap.objs.size) "set":=⟨_,hS,rfl⟩
   have hli:=F.called_set.init.lookup
   have hbi:=F.called_set.init.bind (.ref s.heap.objs.size)
   repeat (any_goals (first | assumption | wp_step))
   refine codeAny_mono (codeAny_call_builtin (R:=wants (fun r s₂ => r = .none ∧ ∃ h' tk ls ep t,s₂ = { s with heap:=h',toks:=tk } ∧ bx w h' s.heap.objs.size ls ep t ∧ (ls.map (·.1)).Nodup ∧ (∀ z,z ∈ ls.map (·.1) ↔ z ∈ ns) ∧
     (∀ b o,s.heap.get? b = some o -> h'.get? b = some o)) E) F.called_set.init.plain F.entry_set_init (check_set_init_1 hT ?_)) fun r₂ s₂ hr₂ => ?_
   ·obtain ⟨⟨ocls,odict,odata,oslots⟩,hol,hcl,nl,hdl⟩:=hl
    simp only at hcl hdl
    subst hcl; subst hdl
    have hol':=Heap.get?_push_of_some ({ cls:=.type "set",dict:=none,data:=.set #[] 0 (.fresh 0 0 (!w.params.followText "set-order")) }:Obj) hol
    have hsls:=F.sub_list_set
    have hslf:=F.sub_list_frozenset
    have hne:(Value.type "list" == Value.type "dict") = false:=by decide
    have hl1:(s.heap.push ({ cls:=.type "set",dict:=none,data:=.set #[] 0 (.fresh 0 0 (!w.params.followText "set-order")) }:Obj)).IsList l items:=⟨_,hol',rfl,nl,rfl⟩
    unfold Builtin.«set.__init__» noKeywords Builtin.Frozenset.updateFrom
    generalize hPI:pyIter = PI
    wp_walk
    subst hPI
    refine wpAny_pyIter_list (s:={ s with heap:=s.heap.push ({ cls:=.type "set",dict:=none,data:=.set #[] 0 (.fresh 0 0 (!w.params.followText "set-order")) }:Obj) }) hl1 ?_
    refine wpAny_bind (wpAny_runValue ?_)
    have hlS:l < s.heap.objs.size:=Heap.lt_size hol
    have hh3:A.in1.in1.in1.handled = none:=by simp [hh]
    have hneI:l ≠ (s.heap.push ({ cls:=.type "set",dict:=none,data:=.set #[] 0 (.fresh 0 0 (!w.params.followText "set-order")) }:Obj)).objs.size:=by rw [Heap.size_push]; exact Nat.ne_of_lt (Nat.lt_succ_of_lt hlS)
    have hSf:s.heap.objs.size ∉ [(s.heap.push ({ cls:=.type "set",dict:=none,data:=.set #[] 0 (.fresh 0 0 (!w.params.followText "set-order")) }:Obj)).objs.size,l]:= by
     rw [Heap.size_push]
     intro hm
     rcases List.mem_cons.mp hm with e | hm
     ·exact Nat.ne_of_lt (Nat.lt_succ_self _) e
     ·exact Nat.ne_of_gt hlS (List.mem_singleton.mp hm)
    have hval:∀ (i:Nat) (v:Value),items[i]? = some v -> ∃ t,v = .int ((fun i => ns.getD i 0) i) t:=fun i v hv => PyProof.Rows.IntsAre.int_at hi i v (by rw [Array.getElem?_toList]; exact hv)
    have hln:ns.length = items.size:=by have:=hi.length; simpa using this.symm
    refine lA (Walks.list hh3 _ l hneI items) s.heap.objs.size hSf (fun i => ns.getD i 0) hval hb (items.size - 0) 0 _ s.toks [] 0 (.fresh 0 0 (!w.params.followText "set-order")) (by omega) (Nat.zero_le _) ⟨⟨_,Heap.get?_push_size _ rfl,rfl,rfl⟩,hl1.push _⟩
     (km (Heap.get?_push_of_some _ hS)) (Nat.zero_le _) List.nodup_nil (fun z => ⟨fun hz => (by cases hz),fun ⟨j,hj,_⟩ => absurd hj (Nat.not_lt_zero _)⟩) fun h' tk' l' ep' t' kp x' nd' mem' => ?_
    refine wpAny_pure (?_:wpAny _ _ (ret Value.none) _ _ _)
    refine wpAny_pure ⟨rfl,h',tk',l',ep',t',rfl,x',nd',fun z => (mem' z).trans ⟨fun ⟨j,hj,e⟩ => ?_,fun hz => ?_⟩,fun b o e => ?_⟩
    ·have hj':j < ns.length:=by omega
     have:ns.getD j 0 = ns[j]:=by simp [hj']
     exact e ▸ this ▸ List.getElem_mem hj'
    ·obtain ⟨j,hj,e⟩:=List.getElem_of_mem hz
     exact ⟨j,by omega,by simp [hj,e]⟩
    ·have hb':=Heap.lt_size e
     refine kp b o (fun hm => ?_) (Heap.get?_push_of_some _ (Heap.get?_push_of_some _ e))
     rcases List.mem_cons.mp hm with e' | hm
     ·exact Nat.ne_of_lt hb' e'
     ·have:=List.mem_singleton.mp hm
      rw [Heap.size_push] at this
      exact Nat.ne_of_lt (Nat.lt_succ_of_lt hb') this
   ·cases r₂ with
    | error e => exact hr₂
    | ok fl₂ =>
     cases fl₂ with
     | ret r =>
      obtain ⟨rfl,h',tk,ls,ep,t,rfl,x',nd',mem',kp⟩:=hr₂
      repeat (any_goals (first | assumption | wp_step))
      exact h _ _ ls ep t x' nd' mem' kp
     | _ => exact hr₂.elim
  | _ => exact hr.elim
theorem ou:isSubtype (.type "tuple") (.type "set") = pure false:=by rw [isSubtype_type]; kernel_rfl
theorem ng:isSubtype (.type "tuple") (.type "frozenset") = pure false:=by rw [isSubtype_type]; kernel_rfl
set_option maxHeartbeats 8000000 in
theorem rK {l:Addr} {items:Array Value} {ns:List Int} {Q:Value -> Shared -> Prop} (hh:A.handled = none) (hl:s.heap.IsTuple l items) (hi:PyProof.Rows.IntsAre items.toList ns) (hb:items.size + 1 < scanBound)
  (h:∀ (h':Heap) (tk:Nat) (ls:List (Int × Tok)) (ep:Nat) (t:SetTable),bx w h' s.heap.objs.size ls ep t -> (ls.map (·.1)).Nodup -> (∀ z,z ∈ ls.map (·.1) ↔ z ∈ ns) ->
   (∀ b o,s.heap.get? b = some o -> h'.get? b = some o) -> Q (.ref s.heap.objs.size) { s with heap:=h',toks:=tk }) :
  wpAny (model prog w) A (call (.type "set") [.ref l]) Q E s:= by
 obtain ⟨c,tl,hmro⟩:=F.called_set.mro
 have hmade:=F.called_set.made
 have hsub:=F.called_set.sub
 refine wpAny_call (codeAny_of_tree (?_:wpAny _ _ (callAny (.type "set") _) _ _ _))
 refine wpAny_pure ⟨Code.quiet_builtin _ (by decide +kernel),codeAny_builtin F.entry_type_call ?_⟩
 rw [Around.under_plain (weight_type_call_type "set" [.ref l] []) rfl]
 have h1:=F.called_set.notType
 have h2:=F.called_set.canCreate
 have hct:=F.typeCall_set_1 (.ref l)
 repeat (any_goals (first | assumption | wp_step))
 refine codeAny_mono (i5 (.ref l) (E:=E) (Q:=fun obj s₁ => obj = .ref s.heap.objs.size ∧ s₁ = { s with heap:=s.heap.push { cls:=.type "set",dict:=none,data:=.set #[] 0 (.fresh 0 0 (!w.params.followText "set-order")) } }) ⟨rfl,rfl⟩) fun r s₁ hr => ?_
 cases r with
 | error e => exact hr
 | ok fl =>
  cases fl with
  | ret obj =>
   obtain ⟨rfl,rfl⟩:=hr
   have hS:(s.heap.push ({ cls:=.type "set",dict:=none,data:=.set #[] 0 (.fresh 0 0 (!w.params.followText "set-order")) }:Obj)).get? s.heap.objs.size = some ({ cls:=.type "set",dict:=none,data:=.set #[] 0 (.fresh 0 0 (!w.params.followText "set-order")) }:Obj):=Heap.get?_push_size _ rfl
   have hT:Shared.TypeIs { s with heap:=s.heap.push ({ cls:=.type "set",dict:=none,data:=.set #[] 0 (.fresh 0 0 (!w.params.followText "set-order")) }:Obj) } (.ref s.heap.objs.size) "set":=⟨_,hS,rfl⟩
   have hli:=F.called_set.init.lookup
   have hbi:=F.called_set.init.bind (.ref s.heap.objs.size)
   repeat (any_goals (first | assumption | wp_step))
   refine codeAny_mono (codeAny_call_builtin (R:=wants (fun r s₂ => r = .none ∧ ∃ h' tk ls ep t,s₂ = { s with heap:=h',toks:=tk } ∧ bx w h' s.heap.objs.size ls ep t ∧ (ls.map (·.1)).Nodup ∧ (∀ z,z ∈ ls.map (·.1) ↔ z ∈ ns) ∧
     (∀ b o,s.heap.get? b = some o -> h'.get? b = some o)) E) F.called_set.init.plain F.entry_set_init (check_set_init_1 hT ?_)) fun r₂ s₂ hr₂ => ?_
   ·obtain ⟨⟨ocls,odict,odata,oslots⟩,hol,hcl,nl,hdl⟩:=hl
    simp only at hcl hdl
    subst hcl; subst hdl
    have hol':=Heap.get?_push_of_some ({ cls:=.type "set",dict:=none,data:=.set #[] 0 (.fresh 0 0 (!w.params.followText "set-order")) }:Obj) hol
    have hsls:=ou
    have hslf:=ng
    have hne:(Value.type "tuple" == Value.type "dict") = false:=by decide
    have hl1:(s.heap.push ({ cls:=.type "set",dict:=none,data:=.set #[] 0 (.fresh 0 0 (!w.params.followText "set-order")) }:Obj)).IsTuple l items:=⟨_,hol',rfl,nl,rfl⟩
    unfold Builtin.«set.__init__» noKeywords Builtin.Frozenset.updateFrom
    generalize hPI:pyIter = PI
    wp_walk
    subst hPI
    refine wpAny_pyIter_tuple (s:={ s with heap:=s.heap.push ({ cls:=.type "set",dict:=none,data:=.set #[] 0 (.fresh 0 0 (!w.params.followText "set-order")) }:Obj) }) hl1 ?_
    refine wpAny_bind (wpAny_runValue ?_)
    have hlS:l < s.heap.objs.size:=Heap.lt_size hol
    have hh3:A.in1.in1.in1.handled = none:=by simp [hh]
    have hneI:l ≠ (s.heap.push ({ cls:=.type "set",dict:=none,data:=.set #[] 0 (.fresh 0 0 (!w.params.followText "set-order")) }:Obj)).objs.size:=by rw [Heap.size_push]; exact Nat.ne_of_lt (Nat.lt_succ_of_lt hlS)
    have hSf:s.heap.objs.size ∉ [(s.heap.push ({ cls:=.type "set",dict:=none,data:=.set #[] 0 (.fresh 0 0 (!w.params.followText "set-order")) }:Obj)).objs.size,l]:= by
     rw [Heap.size_push]
     intro hm
     rcases List.mem_cons.mp hm with e | hm
     ·exact Nat.ne_of_lt (Nat.lt_succ_self _) e
     ·exact Nat.ne_of_gt hlS (List.mem_singleton.mp hm)
    have hval:∀ (i:Nat) (v:Value),items[i]? = some v -> ∃ t,v = .int ((fun i => ns.getD i 0) i) t:=fun i v hv => PyProof.Rows.IntsAre.int_at hi i v (by rw [Array.getElem?_toList]; exact hv)
    have hln:ns.length = items.size:=by have:=hi.length; simpa using this.symm
    refine lA (Walks.tuple hh3 _ l hneI items) s.heap.objs.size hSf (fun i => ns.getD i 0) hval hb (items.size - 0) 0 _ s.toks [] 0 (.fresh 0 0 (!w.params.followText "set-order")) (by omega) (Nat.zero_le _) ⟨⟨_,Heap.get?_push_size _ rfl,rfl,rfl⟩,hl1.push _⟩
     (km (Heap.get?_push_of_some _ hS)) (Nat.zero_le _) List.nodup_nil (fun z => ⟨fun hz => (by cases hz),fun ⟨j,hj,_⟩ => absurd hj (Nat.not_lt_zero _)⟩) fun h' tk' l' ep' t' kp x' nd' mem' => ?_
    refine wpAny_pure (?_:wpAny _ _ (ret Value.none) _ _ _)
    refine wpAny_pure ⟨rfl,h',tk',l',ep',t',rfl,x',nd',fun z => (mem' z).trans ⟨fun ⟨j,hj,e⟩ => ?_,fun hz => ?_⟩,fun b o e => ?_⟩
    ·have hj':j < ns.length:=by omega
     have:ns.getD j 0 = ns[j]:=by simp [hj']
     exact e ▸ this ▸ List.getElem_mem hj'
    ·obtain ⟨j,hj,e⟩:=List.getElem_of_mem hz
     exact ⟨j,by omega,by simp [hj,e]⟩
    ·have hb':=Heap.lt_size e
     refine kp b o (fun hm => ?_) (Heap.get?_push_of_some _ (Heap.get?_push_of_some _ e))
     rcases List.mem_cons.mp hm with e' | hm
     ·exact Nat.ne_of_lt hb' e'
     ·have:=List.mem_singleton.mp hm
      rw [Heap.size_push] at this
      exact Nat.ne_of_lt (Nat.lt_succ_of_lt hb') this
   ·cases r₂ with
    | error e => exact hr₂
    | ok fl₂ =>
     cases fl₂ with
     | ret r =>
      obtain ⟨rfl,h',tk,ls,ep,t,rfl,x',nd',mem',kp⟩:=hr₂
      repeat (any_goals (first | assumption | wp_step))
      exact h _ _ ls ep t x' nd' mem' kp
     | _ => exact hr₂.elim
  | _ => exact hr.elim
end
end Jt
namespace Jt
open PySem
theorem t_:Manifest.owners.lookup (String.ofList ['r','o','t','a','r','e','t','i','_','t','e','s'].reverse) = some Manifest.sig_set_iterator:=by kernel_rfl
theorem du:Slot "set_iterator" "__next__" "set_iterator.__next__":=.of (owner:="set_iterator") (n:="__next__") (by rw [typeLookup_type,builtinLookup_eq_fast]; kernel_rfl) (by decide +kernel) (by decide +kernel) (by decide +kernel) (by first | exact .inl (by decide +kernel) | exact .inr (by decide +kernel)) (by rw [isSubtype_type]; kernel_rfl)
theorem qb:entryFor table "set_iterator.__next__" = some Builtin.«set_iterator.__next__»:=entryFor_of_tree (by kernel_rfl)
theorem o7 (v:Value):argsOk "set_iterator.__next__" ⟨[v],[]⟩:= by
 unfold argsOk
 rw [signature?_of (id:="set_iterator.__next__") (n:=['_','_','t','x','e','n','_','_']) (o:=['r','o','t','a','r','e','t','i','_','t','e','s']) (by kernel_rfl) t_]
 kernel_rfl
theorem j_:Slot "set_iterator" "__iter__" "set_iterator.__iter__":=.of (owner:="set_iterator") (n:="__iter__") (by rw [typeLookup_type,builtinLookup_eq_fast]; kernel_rfl) (by decide +kernel) (by decide +kernel) (by decide +kernel) (by first | exact .inl (by decide +kernel) | exact .inr (by decide +kernel)) (by rw [isSubtype_type]; kernel_rfl)
theorem pN:entryFor table "set_iterator.__iter__" = some Builtin.«dict_keyiterator.__iter__»:=entryFor_alias (id':="dict_keyiterator.__iter__") (by kernel_rfl) (by first | rfl | decide +kernel | (unfold String.splitOn; simp +decide [String.splitOnAux])) (by decide +kernel) (by kernel_rfl)
theorem qa (v:Value):argsOk "set_iterator.__iter__" ⟨[v],[]⟩:= by
 unfold argsOk
 rw [signature?_of (id:="set_iterator.__iter__") (n:=['_','_','r','e','t','i','_','_']) (o:=['r','o','t','a','r','e','t','i','_','t','e','s']) (by kernel_rfl) t_]
 kernel_rfl
theorem oC:entryFor table "set.__iter__" = some Builtin.«frozenset.__iter__»:=entryFor_alias (id':="frozenset.__iter__") (by kernel_rfl) (by first | rfl | decide +kernel | (unfold String.splitOn; simp +decide [String.splitOnAux])) (by decide +kernel) (by kernel_rfl)
abbrev oU (h:Heap) (I S:Addr) (f0:Value) (i n ep:Nat):Prop:=h.get? I = some { cls:=.type "set_iterator",dict:=none,data:=.fields #[f0,.int i 0,.ref S,.int n 0,.int ep 0],slots:=#[] }
section
variable {prog:Program} {w:World} {A:Around} {E:Value -> Shared -> Prop} {s:Shared} {I S:Addr} {l:List (Int × Tok)} {ep:Nat} {t:SetTable} {i:Nat} {f0:Value}
theorem bx.state {Q:(Array (Int × Value) × Nat × SetTable) -> Shared -> Prop} (x:bx w s.heap S l ep t) (h:Q ((l.map eo).toArray,ep,t) s):wpAny (model prog w) A (setState S) Q E s:= by
 obtain ⟨o,ho,_,hd⟩:=x.obj
 exact wpAny_setState_of ho hd (by simpa using x.fits) h
theorem bx.ty (x:bx w s.heap S l ep t):s.TypeIs (.ref S) "set":= by
 obtain ⟨o,ho,hx,_⟩:=x.obj
 exact ⟨o,ho,hx.1⟩
theorem j5 {α:Type} {Q:α -> Shared -> Prop} (hh:A.handled = none) (hE:∀ h' e,(∀ b o,s.heap.get? b = some o -> h'.get? b = some o) -> (∃ o,h'.get? e = some o ∧ o.cls = .type "StopIteration") -> E (.ref e) { s with heap:=h' }) :
  wpAny (model prog w) A (newExc (.type "StopIteration") [] >>= fun x => (raiseNew x:Sem α)) Q E s:= by
 refine wpAny_bind ?_
 simp only [newExc,newTuple]
 refine wpAny_bind (wpAny_newObj_type ?_ (by size_fits))
 refine wpAny_bind (m:=firstArgMember _ _) (wpAny_of_eq (a:=Value.none) (by first | rfl | (simp only [firstArgMember]; rfl)) ?_)
 refine wpAny_newObj_type ?_ (by size_fits)
 simp only [raiseNew]
 refine wpAny_bind (wpAny_handled ?_)
 rw [hh]
 refine wpAny_bind (wpAny_pure (wpAny_throw ?_))
 exact hE _ _ (fun b o e => Heap.get?_push_of_some _ (Heap.get?_push_of_some _ e)) ⟨_,Heap.get?_push_size _ rfl,rfl⟩
theorem jF {Q:Option Value -> Shared -> Prop} (hI:oU s.heap I S f0 i l.length ep) (x:bx w s.heap S l ep t)
  (h:wpAny (model prog w) A.in1 (if let .int slot _:=f0 then (do
    match <- setNext S slot.toNat i ep with
    | some (x,next) =>
     setField (.ref I) 0 (rawInt next)
     setField (.ref I) 1 (rawInt (i + 1))
     ret x
    | none => setField (.ref I) 2 .none; raiseNew (<- newExc (.type "StopIteration") []))
   else (do
    let some places <- seqItems? f0 | unsupported "internal:set_iterator"
    match places[i]? with
    | some (.int place _) =>
     let x <- setNextDrawn S place.toNat ep
     setField (.ref I) 1 (rawInt (i + 1))
     ret x
    | some _ => unsupported "internal:set_iterator"
    | none => setField (.ref I) 0 (rawInt 0); setField (.ref I) 2 .none; raiseNew (<- newExc (.type "StopIteration") [])))
   (fun fin s' => ∃ v,fin = .done (.ret v) ∧ Q (some v) s') (fun e s' => (∃ a o,e = .ref a ∧ s'.heap.get? a = some o ∧ o.cls = .type "StopIteration") ∧ Q none s') s) :
  wpAny (model prog w) A (pyNext (.ref I)) Q E s:= by
 have hT:s.TypeIs (.ref I) "set_iterator":=⟨_,hI,rfl⟩
 unfold pyNext
 refine wpAny_bind (wpAny_attempt (wpAny_callSpecial?_slot (name:=Str.ofString "__next__") hT du (wpAny_call_entry du hT qb ?_ (o7 _))))
 unfold Builtin.«set_iterator.__next__»
 refine wpAny_bind (m:=slotArgs "__next__" 0 ⟨[.ref I],[]⟩) (wpAny_pure ?_)
 refine wpAny_bind (wpAny_fieldsOf hI rfl ?_)
 dsimp only
 refine wpAny_bind ?_
 unfold setEntries
 refine wpAny_bind (x.state (wpAny_pure ?_))
 rw [if_neg (by simp)]
 simp only [Int.toNat_natCast]
 refine wpAny_mono h (fun fin s' h' => ?_) fun e s' h' => ?_
 ·obtain ⟨v,rfl,q⟩:=h'
  exact ⟨v,rfl,wpAny_pure q⟩
 ·obtain ⟨⟨a,o,rfl,ho,hc⟩,q⟩:=h'
  exact wpAny_bind (wpAny_isInstance (T:="StopIteration") (b:=true) ⟨o,ho,hc⟩ isSubtype_stop (wpAny_pure q))
end
end Jt
namespace Jt
open PySem
section
variable {prog:Program} {w:World} {A:Around} {E:Value -> Shared -> Prop} {s:Shared} {I S:Addr} {l:List (Int × Tok)} {ep:Nat} {t:SetTable} {i:Nat} {f0:Value}
theorem qz {Q:Option Value -> Shared -> Prop} {slot nx:Nat} {v:Value} (hIS:I ≠ S) (hI:oU s.heap I S (.int slot 0) i l.length ep) (x:bx w s.heap S l ep t)
  (hn:∀ (Q':Option (Value × Nat) -> Shared -> Prop) (E':Value -> Shared -> Prop),Q' (some (v,nx)) s -> wpAny (model prog w) A.in1 (setNext S slot i ep) Q' E' s)
  (hQ:∀ h',oU h' I S (.int nx 0) (i + 1) l.length ep -> bx w h' S l ep t -> (∀ b o,b ≠ I -> s.heap.get? b = some o -> h'.get? b = some o) -> Q (some v) { s with heap:=h' }) :
  wpAny (model prog w) A (pyNext (.ref I)) Q E s:= by
 refine jF hI x ?_
 dsimp only
 refine wpAny_bind (hn _ _ ?_)
 dsimp only
 refine wpAny_bind (wpAny_setField_rec hI (by simp) fun h1 hI1 sb1 => ?_)
 refine wpAny_bind (wpAny_setField_rec hI1 (by simp) fun h2 hI2 sb2 => wpAny_pure ⟨v,rfl,?_⟩)
 refine hQ h2 (by simpa [oU,rawInt] using hI2) (x.at fun o e => ?_) fun b o hb e => ?_
 ·rw [sb2.2 S hIS.symm,sb1.2 S hIS.symm]; exact e
 ·rw [sb2.2 b hb,sb1.2 b hb]; exact e
theorem i_ {Q:Option Value -> Shared -> Prop} {slot:Nat} (hh:A.handled = none) (hI:oU s.heap I S (.int slot 0) i l.length ep) (x:bx w s.heap S l ep t)
  (hn:∀ (Q':Option (Value × Nat) -> Shared -> Prop) (E':Value -> Shared -> Prop),Q' none s -> wpAny (model prog w) A.in1 (setNext S slot i ep) Q' E' s)
  (hQ:∀ h',(∀ b o,b ≠ I -> s.heap.get? b = some o -> h'.get? b = some o) -> Q none { s with heap:=h' }) :
  wpAny (model prog w) A (pyNext (.ref I)) Q E s:= by
 refine jF hI x ?_
 dsimp only
 refine wpAny_bind (hn _ _ ?_)
 dsimp only
 refine wpAny_bind (wpAny_setField_rec hI (by simp) fun h1 hI1 sb1 => ?_)
 refine j5 (s:={ s with heap:=h1 }) hh fun h' e kp he => ?_
 obtain ⟨o,ho,hc⟩:=he
 refine ⟨⟨e,o,rfl,ho,hc⟩,hQ h' fun b o hb e => kp b o ?_⟩
 show h1.get? b = some o
 rw [sb1.2 b hb]; exact e
theorem zF {Q:Option Value -> Shared -> Prop} {T:Addr} {places:Array Value} {p:Nat} {v:Int × Tok} (hIS:I ≠ S) (hIT:I ≠ T) (hI:oU s.heap I S (.ref T) i l.length ep) (x:bx w s.heap S l ep t)
  (hT:s.heap.get? T = some { cls:=.type "tuple",data:=.seq places }) (hp:places[i]? = some (.int p 0)) (hv:l[p]? = some v)
  (hQ:∀ h',oU h' I S (.ref T) (i + 1) l.length ep -> bx w h' S l ep t -> (∀ b o,b ≠ I -> s.heap.get? b = some o -> h'.get? b = some o) -> Q (some (.int v.1 v.2)) { s with heap:=h' }) :
  wpAny (model prog w) A (pyNext (.ref I)) Q E s:= by
 refine jF hI x ?_
 dsimp only
 refine wpAny_bind (wpAny_seqItems hT rfl ?_)
 dsimp only
 rw [hp]
 dsimp only
 refine wpAny_bind ?_
 unfold setNextDrawn
 refine wpAny_bind (x.state ?_)
 dsimp only
 rw [if_neg (by simp)]
 have:(l.map eo).toArray[(p:Int).toNat]? = some (eo v):=by simp [hv]
 rw [this]
 refine wpAny_pure ?_
 refine wpAny_bind (wpAny_setField_rec hI (by simp) fun h1 hI1 sb1 => wpAny_pure ⟨_,rfl,?_⟩)
 refine hQ h1 (by simpa [oU,rawInt] using hI1) (x.at fun o e => ?_) fun b o hb e => ?_
 ·rw [sb1.2 S hIS.symm]; exact e
 ·rw [sb1.2 b hb]; exact e
theorem oE {Q:Option Value -> Shared -> Prop} {T:Addr} {places:Array Value} (hh:A.handled = none) (hI:oU s.heap I S (.ref T) i l.length ep) (x:bx w s.heap S l ep t)
  (hT:s.heap.get? T = some { cls:=.type "tuple",data:=.seq places }) (hp:places[i]? = none)
  (hQ:∀ h',(∀ b o,b ≠ I -> s.heap.get? b = some o -> h'.get? b = some o) -> Q none { s with heap:=h' }) :
  wpAny (model prog w) A (pyNext (.ref I)) Q E s:= by
 refine jF hI x ?_
 dsimp only
 refine wpAny_bind (wpAny_seqItems hT rfl ?_)
 dsimp only
 rw [hp]
 dsimp only
 refine wpAny_bind (wpAny_setField_rec hI (by simp) fun h1 hI1 sb1 => ?_)
 refine wpAny_bind (wpAny_setField_rec hI1 (by simp) fun h2 hI2 sb2 => ?_)
 refine j5 (s:={ s with heap:=h2 }) hh fun h' e kp he => ?_
 obtain ⟨o,ho,hc⟩:=he
 refine ⟨⟨e,o,rfl,ho,hc⟩,hQ h' fun b o hb e => kp b o ?_⟩
 show h2.get? b = some o
 rw [sb2.2 b hb,sb1.2 b hb]; exact e
theorem mm {Q:Value -> Shared -> Prop} {n:Nat} (hI:oU s.heap I S f0 i n ep) (h:Q (.ref I) s):wpAny (model prog w) A (pyIter (.ref I)) Q E s:= by
 have hT:s.TypeIs (.ref I) "set_iterator":=⟨_,hI,rfl⟩
 refine wpAny_pyIter_slot hT j_ (wpAny_call_entry j_ hT pN ?_ (qa _))
 show wpAny (model prog w) _ (ret (.ref I)) _ _ s
 exact wpAny_pure ⟨_,rfl,"set_iterator",_,hT,du.lookup,h⟩
theorem cX {α:Type}:∀ {l:List α} {i:Nat} (h:i < l.length),(l[i] :: l.eraseIdx i).Perm l
 | [],_,h => absurd h (Nat.not_lt_zero _)
 | x :: l,0,_ => List.Perm.refl _
 | x :: l,i + 1,h => by
  rw [List.getElem_cons_succ,List.eraseIdx_cons_succ]
  exact (List.Perm.swap _ _ _).trans ((cX (l:=l) (i:=i) (by simpa using h)).cons x)
theorem zq {α:Type} (next:Nat -> Nat):∀ (fuel k:Nat) (left:List α) (out:Array α),fuel = left.length -> (pickOrder.go next fuel k left out).toList.Perm (out.toList ++ left):= by
 intro fuel
 induction fuel with
 | zero =>
  intro k left out h
  have:left = []:=List.eq_nil_of_length_eq_zero h.symm
  subst this
  unfold pickOrder.go
  simp
 | succ fuel ih =>
  intro k left out h
  unfold pickOrder.go
  have hl:next k % left.length < left.length:=Nat.mod_lt _ (by omega)
  rw [List.getElem?_eq_getElem hl]
  dsimp only
  refine (ih _ _ _ (by rw [List.length_eraseIdx]; split <;> omega)).trans ?_
  rw [Array.toList_push,List.append_assoc]
  refine List.Perm.append_left _ ?_
  exact (cX hl)
theorem sH {α:Type} (next:Nat -> Nat) (xs:Array α):(pickOrder next xs).toList.Perm xs.toList:= by
 unfold pickOrder
 have:=zq next xs.size 0 xs.toList #[] (by simp)
 simpa using this
theorem p9 {M:Model} {Q:List Nat -> Shared -> Prop}:∀ (n:Nat) (xs:List Nat) (s:Shared),n = xs.length -> (∀ ys d,ys.Perm xs -> Q ys { s with drawn:=d }) -> wpAny M A (drawOrder n xs) Q E s:= by
 intro n
 induction n generalizing Q with
 | zero =>
  intro xs s h hQ
  have:xs = []:=List.eq_nil_of_length_eq_zero h.symm
  subst this
  exact wpAny_pure (hQ [] s.drawn (List.Perm.refl _))
 | succ n ih =>
  intro xs s h hQ
  cases xs with
  | nil => cases h
  | cons x xs =>
   unfold drawOrder
   refine wpAny_bind (fun Γ p hΓ => ?_)
   rw [show choose Source.order (x :: xs).length = Sem.choose Source.order (x :: xs).length Sem.pure from rfl,Sem.wp_choose]
   refine ⟨by simp,?_⟩
   rw [Sem.wp_pure]
   have hl:M.w.draws Source.order (s.drawn.get Source.order) % (x :: xs).length < (x :: xs).length:=Nat.mod_lt _ (by simp)
   dsimp only
   rw [List.getElem?_eq_getElem hl]
   dsimp only
   refine wpAny_bind (ih _ _ (by rw [List.length_eraseIdx]; split <;> (simp at h ⊢; omega)) fun ys d py => wpAny_pure ?_)
   exact hQ _ d ((py.cons _).trans (cX hl))
end
end Jt
namespace Jt
open PySem
section
variable {prog:Program} {w:World} {A:Around} {E:Value -> Shared -> Prop} {s:Shared} {I S:Addr} {l:List (Int × Tok)} {ep:Nat} {t:SetTable} {i:Nat} {f0:Value}
theorem jr {Q:Bool -> Shared -> Prop} (h:Q (w.params.followText "set-order") s):wpAny (model prog w) A setsByText Q E s:= by
 unfold setsByText
 exact wpAny_bind (wpAny_askSetting (wpAny_pure h))
theorem sL {Q:Bool -> Shared -> Prop} (x:bx w s.heap S l ep t) (h:Q (!w.params.followText "set-order" && (!t.plain && decide (l.length > 1))) s):wpAny (model prog w) A (setDrawn S) Q E s:= by
 unfold setDrawn
 refine wpAny_bind (x.state ?_)
 refine wpAny_bind (jr ?_)
 have e:(l.map eo).toArray.size = l.length:=by simp
 rw [<- e] at h
 exact wpAny_pure h
theorem lQ {Q:Option (Value × Nat) -> Shared -> Prop} {slot:Nat} (hw:w.params.followText "set-order" = true) (x:bx w s.heap S l ep t) (h:Q (((pickOrder (w.params.setOrder S ep) (l.map eo).toArray)[i]?).map fun e => (e.2,slot)) s) :
  wpAny (model prog w) A (setNext S slot i ep) Q E s:= by
 unfold setNext
 refine wpAny_bind (x.state ?_)
 dsimp only
 refine wpAny_bind (jr ?_)
 rw [hw,if_pos rfl,if_neg (by simp)]
 refine wpAny_bind ?_
 unfold setWalk
 refine wpAny_bind (x.state ?_)
 dsimp only
 refine wpAny_bind (jr ?_)
 rw [hw,if_pos rfl]
 exact wpAny_bind (wpAny_askSetting (wpAny_pure (wpAny_pure h)))
theorem kz {Q:Option (Value × Nat) -> Shared -> Prop} {slot:Nat} (hw:w.params.followText "set-order" = false) (hd:(!t.plain && decide (l.length > 1)) = false) (x:bx w s.heap S l ep t)
  (h:Q (match (l.map eo).toArray[SetTable.below t.place slot]?,t.place[SetTable.below t.place slot]? with
   | some (_,x),some j => some (x,j + 1)
   | _,_ => none) s):wpAny (model prog w) A (setNext S slot i ep) Q E s:= by
 unfold setNext
 refine wpAny_bind (x.state ?_)
 dsimp only
 refine wpAny_bind (jr ?_)
 rw [hw,if_neg Bool.false_ne_true]
 have e:(l.map eo).toArray.size = l.length:=by simp
 rw [<- e] at hd
 refine (show ∀ {b:Bool} {m k:Sem (Option (Value × Nat))},b = false -> wpAny (model prog w) A k Q E s -> wpAny (model prog w) A (if b = true then m else k) Q E s from fun hb hk => by rw [hb,if_neg Bool.false_ne_true]; exact hk) hd ?_
 refine wpAny_bind ?_
 have hl:t.led = true:=by rw [x.led,hw]; rfl
 refine (show ∀ {b:Bool} {m k:Sem PUnit} {Q':PUnit -> Shared -> Prop},b = false -> wpAny (model prog w) A k Q' E s -> wpAny (model prog w) A (if b = true then m else k) Q' E s from fun hb hk => by rw [hb,if_neg Bool.false_ne_true]; exact hk) (show (!t.led && !(l.map eo).toArray.isEmpty) = false by rw [hl]; rfl) ?_
 exact wpAny_pure (wpAny_pure h)
def my (prog:Program) (w:World) (I S:Addr) (l:List (Int × Tok)) (h':Heap) (top:Addr):Prop :=
 ∃ (ord:List (Int × Tok)) (fp:List Addr) (St:Nat -> Heap -> Prop),ord.Perm l ∧ (∀ A:Around,A.handled = none -> Walks prog w A I fp [I] l.length (fun i v => ∃ p,ord[i]? = some p ∧ v = .int p.1 p.2) St) ∧ St 0 h' ∧
  (∀ i h,St i h -> ∃ o,h.get? I = some o ∧ o.cls = .type "set_iterator") ∧ I ∈ fp ∧ ∀ b ∈ fp,b < h'.objs.size ∧ (b = S ∨ top ≤ b)
theorem nR {h':Heap} {top:Addr} (hw:w.params.followText "set-order" = true) (hIS:I ≠ S) (ht:top ≤ I) (hI:oU h' I S (.int 0 0) 0 l.length ep) (x:bx w h' S l ep t):my prog w I S l h' top:= by
 have p0:=sH (w.params.setOrder S ep) (l.map eo).toArray
 rw [show (l.map eo).toArray.toList = l.map eo by simp] at p0
 obtain ⟨ord,eord,pord⟩:=mz p0
 have eg:∀ i:Nat,(pickOrder (w.params.setOrder S ep) (l.map eo).toArray)[i]? = (ord[i]?).map eo:=fun i => by
  rw [<- Array.getElem?_toList,eord,List.getElem?_map]
 have hlen:ord.length = l.length:=pord.length_eq
 refine ⟨ord,[I,S],fun i h => oU h I S (.int 0 0) i l.length ep ∧ bx w h S l ep t,pord,fun A hh => ⟨?_,?_,?_,?_,?_⟩,⟨hI,x⟩,fun i h st => ⟨_,st.1,rfl⟩,by simp,fun b hb => ?_⟩
 ·intro b hb
  rw [List.mem_singleton.mp hb]; simp
 ·intro i h h2 st k
  exact ⟨k I (by simp) _ st.1,st.2.at fun o e => k S (by simp) o e⟩
 ·intro i s Q E hi st hQ
  have hx:ord[i]? = some ord[i]:=List.getElem?_eq_getElem (by omega)
  refine qz (v:=.int ord[i].1 ord[i].2) (nx:=0) hIS st.1 st.2 (fun Q' E' q => lQ hw st.2 ?_) fun h2 a1 a2 a3 => hQ _ h2 s.toks ⟨_,hx,rfl⟩ ⟨a1,a2⟩ fun b o hb e => a3 b o (fun z => hb (by rw [z]; simp)) e
  rw [eg,hx]; exact q
 ·intro s Q E st hQ
  refine i_ hh st.1 st.2 (fun Q' E' q => lQ hw st.2 ?_) fun h2 a3 => hQ h2 s.toks fun b o hb e => a3 b o (fun z => hb (by rw [z]; simp)) e
  rw [eg,List.getElem?_eq_none (by omega)]; exact q
 ·intro i s Q E st hQ
  exact mm st.1 hQ
 ·rcases List.mem_cons.mp hb with e | hb
  ·rw [e]; exact ⟨Heap.lt_size hI,.inr ht⟩
  ·rw [List.mem_singleton.mp hb]
   obtain ⟨o,ho,_⟩:=x.obj
   exact ⟨Heap.lt_size ho,.inl rfl⟩
theorem pV {xs:Array Nat} (u:Up xs) {i j:Nat} (h:xs[i]? = some j):SetTable.below xs (j + 1) = i + 1:= by
 obtain ⟨b0,b1,b2⟩:=gS u (j + 1)
 have h1:i < SetTable.below xs (j + 1):= by
  rcases Nat.lt_or_ge i (SetTable.below xs (j + 1)) with q | q
  ·exact q
  ·have:=b2 i j q h; omega
 rcases Nat.lt_or_ge (i + 1) (SetTable.below xs (j + 1)) with q | q
 ·have hs:i + 1 < xs.size:=by omega
  have e2:xs[i + 1]? = some xs[i + 1]:=by simp [hs]
  have a1:=b1 (i + 1) _ q e2
  have a2:=u.lt (Nat.lt_succ_self i) h e2
  omega
 ·omega
theorem oX {xs:Array Nat} (u:Up xs):SetTable.below xs 0 = 0:= by
 obtain ⟨b0,b1,b2⟩:=gS u 0
 rcases Nat.eq_zero_or_pos (SetTable.below xs 0) with q | q
 ·exact q
 ·have e2:xs[0]? = some xs[0]:=by simp
  have:=b1 0 _ q e2
  omega
theorem l4 {h':Heap} {top:Addr} (hw:w.params.followText "set-order" = false) (hd:(!t.plain && decide (l.length > 1)) = false) (hIS:I ≠ S) (ht:top ≤ I) (hI:oU h' I S (.int 0 0) 0 l.length ep) (x:bx w h' S l ep t):my prog w I S l h' top:= by
 have hsz:t.place.size = l.length:= by
  have:=x.fits
  simp only [SetTable.fits,Bool.and_eq_true,beq_iff_eq] at this
  exact this.1
 have u:Up t.place:= by
  cases hp:t.plain with
  | true => exact x.tb hp
  | false =>
   rw [hp] at hd
   have hl:¬ l.length > 1:=by simpa using hd
   unfold Up
   have hlt:t.place.toList.length ≤ 1:=by rw [Array.length_toList]; omega
   generalize t.place.toList = q at hlt
   match q,hlt with
   | [],_ => exact List.Pairwise.nil
   | [_],_ => exact List.pairwise_singleton _ _
   | _ :: _ :: _,h => simp at h
 refine ⟨l,[I,S],fun i h => ∃ slot:Nat,oU h I S (.int slot 0) i l.length ep ∧ bx w h S l ep t ∧ SetTable.below t.place slot = i,List.Perm.refl _,fun A hh => ⟨?_,?_,?_,?_,?_⟩,⟨0,hI,x,oX u⟩,fun i h ⟨_,st,_⟩ => ⟨_,st,rfl⟩,by simp,fun b hb => ?_⟩
 ·intro b hb
  rw [List.mem_singleton.mp hb]; simp
 ·rintro i h h2 ⟨slot,st1,st2,st3⟩ k
  exact ⟨slot,k I (by simp) _ st1,st2.at fun o e => k S (by simp) o e,st3⟩
 ·rintro i s Q E hi ⟨slot,st1,st2,st3⟩ hQ
  have hx:l[i]? = some l[i]:=List.getElem?_eq_getElem hi
  have hp:t.place[i]? = some t.place[i]:=by simp [hsz,hi]
  refine qz (v:=.int l[i].1 l[i].2) (nx:=t.place[i] + 1) hIS st1 st2 (fun Q' E' q => kz hw hd st2 ?_) fun h2 a1 a2 a3 => hQ _ h2 s.toks ⟨_,hx,rfl⟩ ⟨_,a1,a2,pV u hp⟩ fun b o hb e => a3 b o (fun z => hb (by rw [z]; simp)) e
  have e1:(l.map eo).toArray[i]? = some (eo l[i]):=by simp [hi]
  rw [st3,e1,hp]; exact q
 ·rintro s Q E ⟨slot,st1,st2,st3⟩ hQ
  refine i_ hh st1 st2 (fun Q' E' q => kz hw hd st2 ?_) fun h2 a3 => hQ h2 s.toks fun b o hb e => a3 b o (fun z => hb (by rw [z]; simp)) e
  have e1:(l.map eo).toArray[l.length]? = none:=by simp
  rw [st3,e1]; exact q
 ·rintro i s Q E ⟨slot,st1,st2,st3⟩ hQ
  exact mm st1 hQ
 ·rcases List.mem_cons.mp hb with e | hb
  ·rw [e]; exact ⟨Heap.lt_size hI,.inr ht⟩
  ·rw [List.mem_singleton.mp hb]
   obtain ⟨o,ho,_⟩:=x.obj
   exact ⟨Heap.lt_size ho,.inl rfl⟩
theorem nu {h':Heap} {top T:Addr} {ys:List Nat} (hp:ys.Perm (List.range l.length)) (hIS:I ≠ S) (hIT:I ≠ T) (ht:top ≤ I) (htT:top ≤ T) (hI:oU h' I S (.ref T) 0 l.length ep) (x:bx w h' S l ep t)
  (hT:h'.get? T = some { cls:=.type "tuple",data:=.seq (ys.map fun (i:Nat) => rawInt i).toArray }):my prog w I S l h' top:= by
 have hyl:ys.length = l.length:=by rw [hp.length_eq,List.length_range]
 have hin:∀ y ∈ ys,y < l.length:=fun y hy => List.mem_range.mp (hp.mem_iff.mp hy)
 have hpo:(ys.filterMap fun i => l[i]?).Perm l:=(hp.filterMap _).trans (by rw [List.filterMap_getElem?_range_length])
 have eg:∀ i (h:i < ys.length),(ys.filterMap fun i => l[i]?)[i]? = l[ys[i]]?:= by
  have gen:∀ (zs:List Nat),(∀ y ∈ zs,y < l.length) -> ∀ i (h:i < zs.length),(zs.filterMap fun i => l[i]?)[i]? = l[zs[i]]?:= by
   intro zs
   induction zs with
   | nil => intro _ i h; exact absurd h (Nat.not_lt_zero _)
   | cons z zs ih =>
    intro hz i h
    have hzl:z < l.length:=hz z List.mem_cons_self
    have e1:l[z]? = some l[z]:=List.getElem?_eq_getElem hzl
    rw [List.filterMap_cons_some e1]
    cases i with
    | zero => simp [e1]
    | succ i => simpa using ih (fun y hy => hz y (List.mem_cons_of_mem _ hy)) i (by simpa using h)
  exact gen ys hin
 refine ⟨ys.filterMap fun i => l[i]?,[I,S,T],fun i h => oU h I S (.ref T) i l.length ep ∧ bx w h S l ep t ∧ h.get? T = some { cls:=.type "tuple",data:=.seq (ys.map fun (i:Nat) => rawInt i).toArray },hpo,fun A hh => ⟨?_,?_,?_,?_,?_⟩,⟨hI,x,hT⟩,fun i h st => ⟨_,st.1,rfl⟩,by simp,fun b hb => ?_⟩
 ·intro b hb
  rw [List.mem_singleton.mp hb]; simp
 ·rintro i h h2 ⟨st1,st2,st3⟩ k
  exact ⟨k I (by simp) _ st1,st2.at fun o e => k S (by simp) o e,k T (by simp) _ st3⟩
 ·rintro i s Q E hi ⟨st1,st2,st3⟩ hQ
  have hi':i < ys.length:=by omega
  have hyi:ys[i] < l.length:=hin _ (List.getElem_mem hi')
  have hx:l[ys[i]]? = some l[ys[i]]:=List.getElem?_eq_getElem hyi
  refine zF hIS hIT st1 st2 st3 (p:=ys[i]) (by simp [hi',rawInt]) hx fun h2 a1 a2 a3 => hQ _ h2 s.toks ⟨_,(eg i hi').trans hx,rfl⟩ ⟨a1,a2,a3 T _ (fun z => hIT z.symm) st3⟩ fun b o hb e => a3 b o (fun z => hb (by rw [z]; simp)) e
 ·rintro s Q E ⟨st1,st2,st3⟩ hQ
  exact oE hh st1 st2 st3 (by simp [hyl]) fun h2 a3 => hQ h2 s.toks fun b o hb e => a3 b o (fun z => hb (by rw [z]; simp)) e
 ·rintro i s Q E ⟨st1,st2,st3⟩ hQ
  exact mm st1 hQ
 ·rcases List.mem_cons.mp hb with e | hb
  ·rw [e]; exact ⟨Heap.lt_size hI,.inr ht⟩
  ·rcases List.mem_cons.mp hb with e | hb
   ·rw [e]
    obtain ⟨o,ho,_⟩:=x.obj
    exact ⟨Heap.lt_size ho,.inl rfl⟩
   ·rw [List.mem_singleton.mp hb]
    exact ⟨Heap.lt_size hT,.inr htT⟩
theorem su {Q:Value -> Shared -> Prop} (x:bx w s.heap S l ep t)
  (h:∀ (I:Addr) (h':Heap) (d:Drawn),(∀ b o,s.heap.get? b = some o -> h'.get? b = some o) -> s.heap.objs.size ≤ I -> my prog w I S l h' s.heap.objs.size -> Q (.ref I) { s with heap:=h',drawn:=d }) :
  wpAny (model prog w) A (pyIter (.ref S)) Q E s:= by
 have hS:S < s.heap.objs.size:=by obtain ⟨o,ho,_⟩:=x.obj; exact Heap.lt_size ho
 refine wpAny_pyIter_slot x.ty F.slot_set_iter (wpAny_call_entry F.slot_set_iter x.ty oC ?_ (F.args_set_iter_1 _))
 unfold Builtin.«frozenset.__iter__»
 refine wpAny_bind (m:=Builtin.Frozenset.slot0 "__iter__" ⟨[.ref S],[]⟩) (wpAny_pure ?_)
 refine wpAny_bind ?_
 unfold Builtin.Frozenset.sizeOf setEntries
 refine wpAny_bind (wpAny_bind (x.state (wpAny_pure (wpAny_pure ?_))))
 have ez:(l.map eo).toArray.size = l.length:=by simp
 rw [ez]
 refine wpAny_bind (sL x ?_)
 by_cases hb:(!w.params.followText "set-order" && (!t.plain && decide (l.length > 1))) = true
 ·rw [if_pos hb]
  refine wpAny_bind (p9 l.length (List.range l.length) s (by simp) fun ys d py => ?_)
  have hyl:ys.length = l.length:=by rw [py.length_eq,List.length_range]
  refine wpAny_bind (wpAny_newTuple ?_ (by rw [List.length_map,hyl]; exact fits_of_scanBound x.few))
  have x2:bx w (s.heap.push { cls:=.type "tuple",data:=.seq (ys.map fun (i:Nat) => rawInt i).toArray }) S l ep t:=x.at fun o e => Heap.get?_push_of_some _ e
  refine wpAny_bind ?_
  unfold setEpoch
  refine wpAny_bind (bx.state (s:={ s with drawn:=d,heap:=s.heap.push { cls:=.type "tuple",data:=.seq (ys.map fun (i:Nat) => rawInt i).toArray } }) x2 (wpAny_pure ?_))
  refine wpAny_bind (wpAny_newObj_type (wpAny_pure ⟨_,rfl,"set_iterator",_,⟨_,Heap.get?_push_size _ rfl,rfl⟩,du.lookup,?_⟩))
  refine h _ _ d (fun b o e => Heap.get?_push_of_some _ (Heap.get?_push_of_some _ e)) (by show s.heap.objs.size ≤ (s.heap.push _).objs.size; rw [Heap.size_push]; exact Nat.le_succ _) ?_
  refine nu (t:=t) py (fun z => ?_) (fun z => ?_) ?_ (Nat.le_refl _) (Heap.get?_push_size _ rfl) (x2.at fun o e => Heap.get?_push_of_some _ e) (Heap.get?_push_of_some _ (Heap.get?_push_size _ rfl))
  ·rw [<- z] at hS
   have hS':(s.heap.push { cls:=.type "tuple",data:=.seq (ys.map fun (i:Nat) => rawInt i).toArray }).objs.size < s.heap.objs.size:=hS
   rw [Heap.size_push] at hS'
   exact absurd hS' (Nat.not_lt.mpr (Nat.le_succ _))
  ·have z':(s.heap.push { cls:=.type "tuple",data:=.seq (ys.map fun (i:Nat) => rawInt i).toArray }).objs.size = s.heap.objs.size:=z
   rw [Heap.size_push] at z'
   exact Nat.succ_ne_self _ z'
  ·show s.heap.objs.size ≤ (s.heap.push _).objs.size
   rw [Heap.size_push]; exact Nat.le_succ _
 ·rw [if_neg hb]
  refine wpAny_bind (wpAny_pure ?_)
  refine wpAny_bind ?_
  unfold setEpoch
  refine wpAny_bind (x.state (wpAny_pure ?_))
  refine wpAny_bind (wpAny_newObj_type (wpAny_pure ⟨_,rfl,"set_iterator",_,⟨_,Heap.get?_push_size _ rfl,rfl⟩,du.lookup,?_⟩))
  refine h _ _ s.drawn (fun b o e => Heap.get?_push_of_some _ e) (Nat.le_refl _) ?_
  have x2:bx w (s.heap.push { cls:=.type "set_iterator",data:=.fields [rawInt 0,rawInt 0,.ref S,rawInt l.length,rawInt ep].toArray }) S l ep t:=x.at fun o e => Heap.get?_push_of_some _ e
  cases hw:w.params.followText "set-order" with
  | true => exact nR hw (fun z => Nat.lt_irrefl _ (z ▸ hS)) (Nat.le_refl _) (Heap.get?_push_size _ rfl) x2
  | false =>
   rw [hw] at hb
   exact l4 hw (by simpa using hb) (fun z => Nat.lt_irrefl _ (z ▸ hS)) (Nat.le_refl _) (Heap.get?_push_size _ rfl) x2
end
end Jt
namespace Jt
open PySem
section
variable {prog:Program} {w:World} {A:Around} {E:Value -> Shared -> Prop} {s:Shared} {I S:Addr} {l:List (Int × Tok)} {ep:Nat} {t:SetTable}
theorem tW {Q:Bool -> Shared -> Prop} (x:bx w s.heap S l ep t) (h:Q false s):wpAny (model prog w) A (Builtin.List.listLengthHint (.ref S)) Q E s:= by
 unfold Builtin.List.listLengthHint
 refine wpAny_bind (wpAny_specialOf x.ty F.slot_set_len.lookup ?_)
 generalize xf:("set.__len__":String) = id0
 wp_delta
 rw [show splitId id0 = some ("set","__len__") from by subst xf; decide +kernel]
 subst xf
 refine wpAny_bind (wpAny_isInstance (T:="set") (b:=true) x.ty (by rw [isSubtype_type]; kernel_rfl) ?_)
 refine wpAny_ite_split (fun hab => absurd hab (by decide)) (fun _ => ?_)
 refine wpAny_ite_split (fun _ => ?_) (fun hab => absurd (by decide +kernel) hab)
 exact wpAny_bind (wpAny_typeOf x.ty (wpAny_pure h))
theorem yh {ord:List (Int × Tok)} {acc:Array Value} (h:ItemsOf (fun i v => ∃ p,ord[i]? = some p ∧ v = .int p.1 p.2) acc ord.length):acc.toList = ord.map fun p => Value.int p.1 p.2:= by
 refine List.ext_getElem? fun i => ?_
 rw [List.getElem?_map]
 by_cases hi:i < acc.size
 ·have e:acc[i]? = some acc[i]:=by simp [hi]
  obtain ⟨p,h1,h2⟩:=h.2 i _ e
  rw [Array.getElem?_toList,e,h1,h2]; rfl
 ·rw [Array.getElem?_toList,Array.getElem?_eq_none (by omega),List.getElem?_eq_none (by have:=h.1; omega)]; rfl
theorem mL {Q:List Value -> Shared -> Prop} (hh:A.handled = none) (x:bx w s.heap S l ep t)
  (h:∀ (ord:List (Int × Tok)) (h':Heap) (tk:Nat) (d:Drawn),ord.Perm l -> (∀ b o,s.heap.get? b = some o -> h'.get? b = some o) -> Q (ord.map fun p => Value.int p.1 p.2) { s with heap:=h',toks:=tk,drawn:=d }) :
  wpAny (model prog w) A (collect (.ref S)) Q E s:= by
 have hSlt:S < s.heap.objs.size:=by obtain ⟨o,ho,_⟩:=x.obj; exact Heap.lt_size ho
 unfold collect
 refine wpAny_bind (wpAny_runValue (codeAny_builtin F.entry_proto_collect ?_))
 rw [Around.under_plainId F.plain_proto_collect _]
 show wpAny (model prog w) A.in1 (newList [] >>= fun l => again (.builtin "list.__iadd__" ⟨[l,.ref S],[]⟩)) _ _ s
 refine wpAny_bind (wpAny_newObj_type (wpAny_pure ⟨plainId_quiet F.plain_list_iadd _,codeAny_builtin F.entry_list_iadd ?_⟩))
 rw [Around.under_plainId F.plain_list_iadd _]
 have g1:(s.heap.push { cls:=.type "list",data:=.seq ([]:List Value).toArray }).get? s.heap.objs.size = some { cls:=.type "list",data:=.seq ([]:List Value).toArray }:=Heap.get?_push_size _ rfl
 have x1:bx w (s.heap.push { cls:=.type "list",data:=.seq ([]:List Value).toArray }) S l ep t:=x.at fun o e => Heap.get?_push_of_some _ e
 have hsr:Builtin.List.listSameRef (.ref s.heap.objs.size) (.ref S) = false:= by
  show (s.heap.objs.size == S) = false
  simp only [beq_eq_false_iff_ne]
  exact Nat.ne_of_gt hSlt
 show wpAny (model prog w) A.in1 (Builtin.List.listExtendWith (.ref s.heap.objs.size) (.ref S) (.ref s.heap.objs.size)) _ _ _
 unfold Builtin.List.listExtendWith
 refine wpAny_bind (wpAny_typeOf (bx.ty (s:={ s with heap:=s.heap.push { cls:=.type "list",data:=.seq ([]:List Value).toArray } }) x1) ?_)
 have h2:(Value.type "set" == Value.type "list") = false:=by decide
 have h3:(Value.type "set" == Value.type "tuple") = false:=by decide
 simp only [hsr,h2,h3,Bool.or_false,Bool.false_eq_true,if_false]
 refine wpAny_bind (su (s:={ s with heap:=s.heap.push { cls:=.type "list",data:=.seq ([]:List Value).toArray } }) x1 fun I h1 d kp hI Y => ?_)
 have x2:bx w h1 S l ep t:=x1.at fun o e => kp S o e
 refine wpAny_bind (wpAny_holding (tW (s:={ s with heap:=h1,drawn:=d }) x2 ?_))
 refine wpAny_ite_split (fun _ => ?_) (fun hab => absurd (by decide +kernel) hab)
 refine wpAny_bind (wpAny_rule (wpAny_bind ?_))
 have g2:=kp _ _ g1
 show wpAny (model prog w) A.in1 (updateSeq s.heap.objs.size (·.push .none) >>= fun _ => updateSeq s.heap.objs.size (·.pop)) _ _ { s with heap:=h1,drawn:=d }
 refine wpAny_bind (wpAny_updateSeq (s:={ s with heap:=h1,drawn:=d }) g2 rfl ?_)
 have g3:=Heap.get?_update_self (Obj.mapSeq (·.push Value.none)) g2 rfl
 refine wpAny_updateSeq (s:={ s with heap:=h1.update s.heap.objs.size (Obj.mapSeq (·.push Value.none)),drawn:=d }) g3 rfl ?_ (hz:=by seq_fits)
 have g4:=Heap.get?_update_self (Obj.mapSeq (·.pop)) g3 rfl
 obtain ⟨ord,fp,St,po,W,st0,hT,hIf,hfp⟩:=Y
 have hSf:s.heap.objs.size ∉ fp:=fun hm => by
  obtain ⟨_,h6⟩:=hfp _ hm
  rcases h6 with e | e
  ·rw [e] at hSlt; exact Nat.lt_irrefl _ hSlt
  ·have e':(s.heap.push { cls:=.type "list",data:=.seq ([]:List Value).toArray }).objs.size ≤ s.heap.objs.size:=e
   rw [Heap.size_push] at e'
   exact Nat.not_succ_le_self _ e'
 have ja:∀ b o,b ≠ s.heap.objs.size -> h1.get? b = some o -> ((h1.update s.heap.objs.size (Obj.mapSeq (·.push Value.none))).update s.heap.objs.size (Obj.mapSeq (·.pop))).get? b = some o:=fun b o hb e => by
  rw [Heap.get?_update_other _ _ (Ne.symm hb),Heap.get?_update_other _ _ (Ne.symm hb)]; exact e
 have hlen:ord.length = l.length:=po.length_eq
 have st1:St 0 ((h1.update s.heap.objs.size (Obj.mapSeq (·.push Value.none))).update s.heap.objs.size (Obj.mapSeq (·.pop))):=(W A.in1 hh).frame 0 h1 _ st0 fun b hb o e => ja b o (fun z => hSf (z ▸ hb)) e
 refine wpAny_pure ⟨plainId_quiet F.plain_extend_loop _,codeAny_extend_loopS (W A.in1 hh).toS (fits_of_scanBound x.few) _ hSf _ l.length 0 { s with heap:=(h1.update s.heap.objs.size (Obj.mapSeq (·.push Value.none))).update s.heap.objs.size (Obj.mapSeq (·.pop)),drawn:=d } #[] _ rfl (Nat.zero_le _) st1 g4 (ItemsOf.nil _) fun s' acc' c' hm hS' hacc => ?_⟩
 show wpAny (model prog w) A (load s.heap.objs.size >>= _) _ _ s'
 refine wpAny_bind (wpAny_load hS' (wpAny_pure ?_))
 rw [<- hlen] at hacc
 rw [yh hacc,Moved.eq_with hm]
 refine h ord s'.heap s'.toks d po fun b o e => ?_
 have hb:=Heap.lt_size e
 refine hm.heap b o (fun hmem => ?_) (ja b o (Nat.ne_of_lt hb) (kp b o (Heap.get?_push_of_some _ e)))
 rcases List.mem_cons.mp hmem with e' | hmem
 ·rw [e'] at hb; exact Nat.lt_irrefl _ hb
 ·have e':=List.mem_singleton.mp hmem
  have hI':(s.heap.push { cls:=.type "list",data:=.seq ([]:List Value).toArray }).objs.size ≤ I:=hI
  rw [Heap.size_push] at hI'
  exact absurd hb (Nat.not_lt.mpr (Nat.le_of_succ_le (e' ▸ hI')))
theorem je {v:Value} {ns:List Int} {Q:Value -> Shared -> Prop}
  (hc:∀ (A':Around) (Q':List Value -> Shared -> Prop) (E':Value -> Shared -> Prop),(A'.handled = A.handled) -> (∀ (vs:List Value) (ms:List Int) (h':Heap) (tk:Nat) (d:Drawn),PyProof.Rows.IntsAre vs ms -> ms.Perm ns -> (∀ b o,s.heap.get? b = some o -> h'.get? b = some o) -> Q' vs { s with heap:=h',toks:=tk,drawn:=d }) ->
   wpAny (model prog w) A' (collect v) Q' E' s) (h64:ns.length < 64)
  (h:∀ (h1 h':Heap) (tk:Nat) (d:Drawn) (out:List Value) (ms:List Int) (e:Nat),(∀ b o,s.heap.get? b = some o -> h1.get? b = some o) -> (∀ b o,h1.get? b = some o -> h'.get? b = some o) -> h'.get? h1.objs.size = some { cls:=.type "list",data:=.seq out.toArray e } ->
   PyProof.Rows.IntsAre out ms -> ms.Perm ns -> ms.Pairwise (· ≤ ·) -> Q (.ref h1.objs.size) { s with heap:=h',toks:=tk,drawn:=d }) :
  wpAny (model prog w) A (call (.builtin "sorted") [v]) Q E s:= by
 refine Calls.call_function_entry PyProof.Rows.kind_sorted PyProof.Rows.plain_sorted PyProof.Rows.entry_sorted (PyProof.Rows.args_sorted1 _) ?_
 unfold Builtin.«sorted»
 refine wpAny_bind (m:=checkCount "sorted" 1 1 _) (wpAny_pure ?_)
 refine wpAny_bind (hc _ _ _ (by simp) fun vs ms h1 tk d hi pm kp => ?_)
 have hl:vs.length = ns.length:=by rw [hi.length,pm.length_eq]
 refine wpAny_bind (wpAny_newList ?_ (by rw [hl,sizeLine_eq]; omega))
 have g1:(h1.push (PyProof.Rows.seqObj "list" vs.toArray 0)).get? h1.objs.size = some (PyProof.Rows.seqObj "list" vs.toArray 0):=Heap.get?_push_size _ rfl
 refine wpAny_bind (wpAny_holding (wpAny_call_entry PyProof.Rows.slot_list_sort ⟨_,g1,rfl⟩ PyProof.Rows.entry_list_sort (PyProof.Rows.list_sort_tree (s:={ s with heap:=h1.push (PyProof.Rows.seqObj "list" vs.toArray 0),toks:=tk,drawn:=d }) g1 hi (by omega) fun out ms' a1 a2 a3 => ⟨_,rfl,?_⟩) (PyProof.Rows.args_list_sort _)))
 obtain ⟨e,he⟩:=PyProof.Rows.sortedHeap_at (out:=out) g1
 refine wpAny_pure ⟨_,rfl,h h1 _ tk d out.toList ms' e kp (fun b o eb => ?_) (by simpa [PyProof.Rows.seqObj] using he) a1 (a2.trans pm) a3⟩
 have hb:=Heap.lt_size eb
 show (PyProof.Rows.sortedHeap (h1.push (PyProof.Rows.seqObj "list" vs.toArray 0)) h1.objs.size vs out).get? b = some o
 rw [PyProof.Rows.sortedHeap_old (Nat.ne_of_lt hb) (by rw [Heap.size_push]; exact Nat.lt_succ_of_lt hb)]
 exact Heap.get?_push_of_some _ eb
end
end Jt
namespace Jt
open PySem
def kg (b:Bool) (h:Heap) (q:Addr) (xs:Array Value):Prop:=match b with
 | true => h.IsTuple q xs
 | false => h.IsList q xs
def kH (b:Bool) (h:Heap) (it q:Addr) (k:Nat):Prop:=match b with
 | true => h.IsTupleIter it q k
 | false => h.IsListIter it q k
def dv (b:Bool) (q:Addr):Obj:={ cls:=.type (if b then "tuple_iterator" else "list_iterator"),data:=.fields #[.ref q,.int 0 0] }
section
variable {prog:Program} {w:World} {A:Around} {E:Value -> Shared -> Prop} {s:Shared} {b:Bool} {it q:Addr} {k:Nat} {xs:Array Value}
theorem kg.at {h h':Heap} (x:kg b h q xs) (e:∀ o,h.get? q = some o -> h'.get? q = some o):kg b h' q xs:= by
 cases b with
 | true => obtain ⟨o,ho,r⟩:=x; exact ⟨o,e o ho,r⟩
 | false => obtain ⟨o,ho,r⟩:=x; exact ⟨o,e o ho,r⟩
theorem kH.at {h h':Heap} (x:kH b h it q k) (e:∀ o,h.get? it = some o -> h'.get? it = some o):kH b h' it q k:= by
 cases b with
 | true => obtain ⟨o,ho,r⟩:=x; exact ⟨o,e o ho,r⟩
 | false => obtain ⟨o,ho,r⟩:=x; exact ⟨o,e o ho,r⟩
theorem kH.lt {h:Heap} (x:kH b h it q k):it < h.objs.size:= by
 cases b with
 | true => obtain ⟨o,ho,r⟩:=x; exact Heap.lt_size ho
 | false => obtain ⟨o,ho,r⟩:=x; exact Heap.lt_size ho
theorem kg.lt {h:Heap} (x:kg b h q xs):q < h.objs.size:= by
 cases b with
 | true => obtain ⟨o,ho,r⟩:=x; exact Heap.lt_size ho
 | false => obtain ⟨o,ho,r⟩:=x; exact Heap.lt_size ho
theorem hV {Q:Value -> Shared -> Prop} (x:kg b s.heap q xs) (h:Q (.ref s.heap.objs.size) { s with heap:=s.heap.push (dv b q) }):wpAny (model prog w) A (pyIter (.ref q)) Q E s:= by
 cases b with
 | true => exact wpAny_pyIter_tuple x h
 | false => exact wpAny_pyIter_list x h
theorem kH.new {h:Heap}:kH b (h.push (dv b q)) h.objs.size q 0:= by
 cases b with
 | true => exact ⟨_,Heap.get?_push_size _ rfl,rfl,rfl⟩
 | false => exact ⟨_,Heap.get?_push_size _ rfl,rfl,rfl⟩
theorem jw {x:Value} {Q:Value -> Shared -> Prop} (hi:kH b s.heap it q k) (hq:kg b s.heap q xs) (hx:xs[k]? = some x) (h:∀ h',kH b h' it q (k + 1) -> Heap.SameBut it s.heap h' -> Q x { s with heap:=h' }) :
  wpAny (model prog w) A (Builtin.SmallTypes.nextOf (.ref it)) Q E s:= by
 cases b with
 | false => exact wpAny_nextOf_list_item hi hq hx h
 | true =>
  obtain ⟨o,ho,hc,hd⟩:=id hi
  obtain ⟨oq,hoq,_,n,hdq⟩:=hq
  have hT:s.TypeIs (.ref it) "tuple_iterator":=⟨o,ho,hc⟩
  unfold Builtin.SmallTypes.nextOf
  refine wpAny_bind (wpAny_callSpecial?_slot (name:=Str.ofString "__next__") hT F.slot_tuple_iterator_next (wpAny_call_entry F.slot_tuple_iterator_next hT F.entry_tuple_iterator_next (?_:wpAny _ _ (field (.ref it) 0 >>= _) _ _ s) (F.args_tuple_iterator_next_1 _)))
  refine wpAny_bind (wpAny_field ho hd (x:=.ref q) rfl (?_:wpAny _ _ (if (Value.ref q == Value.none) = true then _ else _) _ _ s))
  rw [if_neg (show ¬ ((Value.ref q == Value.none) = true) from Bool.false_ne_true)]
  refine (?_:wpAny _ _ (field (.ref it) 1 >>= _) _ _ s)
  refine wpAny_bind (wpAny_field ho hd (x:=.int k 0) rfl (?_:wpAny _ _ (seqItems? (.ref q) >>= _) _ _ s))
  refine wpAny_bind (wpAny_seqItems hoq hdq ?_)
  simp only [Int.toNat_natCast,hx]
  refine wpAny_bind (wpAny_setField ho hd (by simp) (wpAny_pure ⟨x,rfl,wpAny_pure (h _ ⟨_,Heap.get?_update_self _ ho (Obj.isFreed_of_fields (Obj.data_mapFields hd _)),(Obj.cls_mapFields ..).trans hc,?_⟩ (Heap.SameBut.update ..))⟩))
  rw [Obj.data_mapFields hd]; simp [rawInt]
theorem oZ {Q:Value -> Shared -> Prop} (hh:A.handled = none) (hi:kH b s.heap it q k) (hq:kg b s.heap q xs) (hx:xs[k]? = none)
  (h:∀ h' e,(∀ c o,c ≠ it -> s.heap.get? c = some o -> h'.get? c = some o) -> (∃ o,h'.get? e = some o ∧ o.cls = .type "StopIteration") -> E (.ref e) { s with heap:=h' }) :
  wpAny (model prog w) A (Builtin.SmallTypes.nextOf (.ref it)) Q E s:= by
 cases b with
 | false => exact wpAny_nextOf_list_end hh hi hq hx h
 | true =>
  obtain ⟨o,ho,hc,hd⟩:=id hi
  obtain ⟨oq,hoq,_,n,hdq⟩:=hq
  have hT:s.TypeIs (.ref it) "tuple_iterator":=⟨o,ho,hc⟩
  unfold Builtin.SmallTypes.nextOf
  refine wpAny_bind (wpAny_callSpecial?_slot (name:=Str.ofString "__next__") hT F.slot_tuple_iterator_next (wpAny_call_entry F.slot_tuple_iterator_next hT F.entry_tuple_iterator_next (?_:wpAny _ _ (field (.ref it) 0 >>= _) _ _ s) (F.args_tuple_iterator_next_1 _)))
  refine wpAny_bind (wpAny_field ho hd (x:=.ref q) rfl (?_:wpAny _ _ (if (Value.ref q == Value.none) = true then _ else _) _ _ s))
  rw [if_neg (show ¬ ((Value.ref q == Value.none) = true) from Bool.false_ne_true)]
  refine (?_:wpAny _ _ (field (.ref it) 1 >>= _) _ _ s)
  refine wpAny_bind (wpAny_field ho hd (x:=.int k 0) rfl (?_:wpAny _ _ (seqItems? (.ref q) >>= _) _ _ s))
  refine wpAny_bind (wpAny_seqItems hoq hdq ?_)
  simp only [Int.toNat_natCast,hx]
  refine wpAny_bind (wpAny_rule (wpAny_bind (wpAny_setField ho hd (by simp) (?_:wpAny _ _ (newExc (.type "StopIteration") [] >>= _) _ _ _))))
  refine j5 (s:={ s with heap:=s.heap.update it _ }) (by simpa using hh) fun h' e kp he => h h' e (fun c o hc e' => kp c o ?_) he
  exact (Heap.get?_update_other _ _ (Ne.symm hc)).trans e'
structure CW (z TI TO i1 i2 l1 l2:Addr):Prop where
 ni:[z,TI,TO,i1,i2].Nodup
 n1:l1 ∉ [z,TO,i1,i2]
 n2:l2 ∉ [z,TO,i1,i2]
abbrev E1 (b1 b2:Bool) (z TI TO i1 i2 l1 l2:Addr) (xs ys:Array Value) (k:Nat) (f:Value) (h:Heap):Prop :=
 IsZip h z TI TO f ∧ IsPair h TI (.ref i1) (.ref i2) ∧ (∃ a c,IsPair h TO a c) ∧ kH b1 h i1 l1 k ∧ kH b2 h i2 l2 k ∧ kg b1 h l1 xs ∧ kg b2 h l2 ys
variable {b1 b2:Bool} {z TI TO i1 i2 l1 l2:Addr} {ys:Array Value}
theorem CW.ne (D:CW z TI TO i1 i2 l1 l2):TI ≠ z ∧ TO ≠ z ∧ i1 ≠ z ∧ i2 ≠ z ∧ TI ≠ TO ∧ TI ≠ i1 ∧ TI ≠ i2 ∧ TO ≠ i1 ∧ TO ≠ i2 ∧ i1 ≠ i2 ∧ l1 ≠ z ∧ l1 ≠ TO ∧ l1 ≠ i1 ∧ l1 ≠ i2 ∧ l2 ≠ z ∧ l2 ≠ TO ∧ l2 ≠ i1 ∧ l2 ≠ i2:= by
 obtain ⟨h,h1,h2⟩:=D
 simp only [List.nodup_cons,List.mem_cons,List.not_mem_nil,or_false,not_or,List.nodup_nil,and_true,not_false_eq_true] at h h1 h2
 obtain ⟨⟨a1,a2,a3,a4⟩,⟨b1,b2,b3⟩,⟨c1,c2⟩,d1⟩:=h
 exact ⟨Ne.symm a1,Ne.symm a2,Ne.symm a3,Ne.symm a4,b1,b2,b3,c1,c2,d1,h1.1,h1.2.1,h1.2.2.1,h1.2.2.2,h2.1,h2.2.1,h2.2.2.1,h2.2.2.2⟩
theorem jW {T:Addr} {a c v:Value} {j:Nat} {Q:Unit -> Shared -> Prop} (hT:IsPair s.heap T a c) (h:∀ h',h'.get? T = some { cls:=.type "tuple",data:=.seq ((#[a,c]:Array Value).setIfInBounds j v) } -> Heap.SameBut T s.heap h' -> Q () { s with heap:=h' }) :
  wpAny (model prog w) A (updateSeq T (·.setIfInBounds j v)) Q E s:=wpAny_updateSeq_pair hT h
theorem wz {v1 v2:Value} {Q:Option Value -> Shared -> Prop} (D:CW z TI TO i1 i2 l1 l2) (st:E1 b1 b2 z TI TO i1 i2 l1 l2 xs ys k .none s.heap) (hx:xs[k]? = some v1) (hy:ys[k]? = some v2)
  (hQ:∀ h',E1 b1 b2 z TI TO i1 i2 l1 l2 xs ys (k + 1) (rawInt s.heap.objs.size) h' -> IsPair h' s.heap.objs.size v1 v2 -> (∀ c o,c ∉ [z,TO,i1,i2] -> s.heap.get? c = some o -> h'.get? c = some o) -> Q (some (.ref s.heap.objs.size)) { s with heap:=h' }) :
  wpAny (model prog w) A (pyNext (.ref z)) Q E s:= by
 obtain ⟨n1,n2,n3,n4,n5,n6,n7,n8,n9,n10,m1,m2,m3,m4,m5,m6,m7,m8⟩:=D.ne
 obtain ⟨hz,hTI,⟨a,c,hTO⟩,q1,q2,p1,p2⟩:=st
 have hT:s.TypeIs (.ref z) "zip":=⟨_,hz,rfl⟩
 unfold pyNext
 refine wpAny_bind (wpAny_attempt (wpAny_callSpecial?_slot (name:=Str.ofString "__next__") hT F.slot_zip_next (wpAny_call_entry F.slot_zip_next hT F.entry_zip_next (?_:wpAny _ _ (field (.ref z) 2 >>= _) _ _ _) (F.args_zip_next_1 _))))
 refine wpAny_bind (wpAny_field hz rfl (x:=.bool false) rfl (?_:wpAny _ _ (field (.ref z) 3 >>= _) _ _ _))
 refine wpAny_bind (wpAny_field hz rfl (x:=.ref TI) rfl (wpAny_bind (wpAny_seqItems hTI rfl (?_:wpAny _ _ (Builtin.SmallTypes.ownedTupleIsFree (.ref z) >>= _) _ _ _))))
 refine wpAny_bind ?_
 unfold Builtin.SmallTypes.ownedTupleIsFree
 refine wpAny_bind (wpAny_field hz rfl (x:=.none) rfl (wpAny_pure ?_))
 simp only [if_true]
 refine wpAny_bind (wpAny_rule (wpAny_bind (wpAny_field hz rfl (x:=.ref TO) rfl ?_)))
 refine wpAny_bind (wpAny_setField_rec hz (by simp) fun h1 z1 s1 => ?_)
 replace z1:IsZip h1 z TI TO .ellipsis:=z1
 refine wpAny_bind ?_
 simp only [List.zipIdx_cons,List.zipIdx_nil,List.forIn_cons,List.forIn_nil]
 refine wpAny_bind (wpAny_bind (wpAny_onRaise (?_:wpAny _ _ (Builtin.SmallTypes.nextOf (.ref i1) >>= _) _ _ _)))
 refine wpAny_bind (jw (s:={ s with heap:=h1 }) (q1.at fun o e => s1.extBut _ _ n3 e) (p1.at fun o e => s1.extBut _ _ m1 e) hx fun h2 q1' s2 => wpAny_pure ?_)
 have t2:IsPair h2 TO a c:=s2.extBut _ _ n8 (s1.extBut _ _ n2 hTO)
 refine wpAny_bind (wpAny_seqItems (s:={ s with heap:=h2 }) t2 rfl (wpAny_bind (jW (s:={ s with heap:=h2 }) t2 fun h3 t3 s3 => ?_)))
 replace t3:IsPair h3 TO v1 c:=t3
 refine wpAny_bind (wpAny_letGo (wpAny_pure ?_))
 refine wpAny_bind (wpAny_bind (wpAny_onRaise (?_:wpAny _ _ (Builtin.SmallTypes.nextOf (.ref i2) >>= _) _ _ _)))
 refine wpAny_bind (jw (s:={ s with heap:=h3 }) (q2.at fun o e => s3.extBut _ _ n9.symm (s2.extBut _ _ n10.symm (s1.extBut _ _ n4 e))) (p2.at fun o e => s3.extBut _ _ m6 (s2.extBut _ _ m7 (s1.extBut _ _ m5 e))) hy fun h4 q2' s4 => wpAny_pure ?_)
 have t4:IsPair h4 TO v1 c:=s4.extBut _ _ n9 t3
 refine wpAny_bind (wpAny_seqItems (s:={ s with heap:=h4 }) t4 rfl (wpAny_bind (jW (s:={ s with heap:=h4 }) t4 fun h5 t5 s5 => ?_)))
 replace t5:IsPair h5 TO v1 v2:=t5
 refine wpAny_bind (wpAny_letGo (wpAny_pure (wpAny_pure ?_)))
 refine wpAny_bind (wpAny_seqItems (s:={ s with heap:=h5 }) t5 rfl (wpAny_bind (wpAny_newTuple ?_)))
 have hsz:h5.objs.size = s.heap.objs.size:=by rw [s5.1,s4.1,s3.1,s2.1,s1.1]
 have up5:∀ c o,c ∉ [z,TO,i1,i2] -> s.heap.get? c = some o -> h5.get? c = some o:=fun c o hc e => by
  simp only [List.mem_cons,List.not_mem_nil,or_false,not_or] at hc
  obtain ⟨c1,c2,c3,c4⟩:=hc
  exact s5.extBut _ _ c2 (s4.extBut _ _ c4 (s3.extBut _ _ c2 (s2.extBut _ _ c3 (s1.extBut _ _ c1 e))))
 have z5:IsZip h5 z TI TO .ellipsis:=s5.extBut _ _ n2.symm (s4.extBut _ _ n4.symm (s3.extBut _ _ n2.symm (s2.extBut _ _ n3.symm z1)))
 refine (?_:wpAny _ _ (Builtin.SmallTypes.ownedTupleHandOut (.ref z) (.ref h5.objs.size) >>= _) _ _ _)
 refine wpAny_bind ?_
 unfold Builtin.SmallTypes.ownedTupleHandOut
 have z6:IsZip (h5.push { cls:=.type "tuple",data:=.seq #[v1,v2] }) z TI TO .ellipsis:=Heap.get?_push_of_some _ z5
 refine wpAny_bind (wpAny_setField_rec (s:={ s with heap:=h5.push { cls:=.type "tuple",data:=.seq #[v1,v2] } }) z6 (by simp) fun h7 z7 s7 => ?_)
 replace z7:IsZip h7 z TI TO (rawInt h5.objs.size):=z7
 refine wpAny_setField_rec (s:={ s with heap:=h7 }) z7 (by simp) fun h8 z8 s8 => ?_
 replace z8:IsZip h8 z TI TO (rawInt h5.objs.size):=z8
 have up:∀ c o,c ≠ z -> h5.get? c = some o -> h8.get? c = some o:=fun c o c1 e => s8.extBut _ _ c1 (s7.extBut _ _ c1 (Heap.get?_push_of_some _ e))
 have zl:z ≠ h5.objs.size:=Nat.ne_of_lt (Heap.lt_size z5)
 have new8:IsPair h8 h5.objs.size v1 v2:=s8.extBut _ _ zl.symm (s7.extBut _ _ zl.symm (Heap.get?_push_size _ rfl))
 rw [hsz] at z8 new8
 refine wpAny_pure ⟨_,rfl,(?_:wpAny _ _ (pure (some (Value.ref h5.objs.size))) _ _ _)⟩
 rw [hsz]
 refine wpAny_pure (hQ h8 ⟨z8,up _ _ n1 (up5 TI _ (by simp [n1,n5,n6,n7]) hTI),⟨_,_,up _ _ n2 t5⟩,q1'.at fun o e => up _ _ n3 (s5.extBut _ _ n8.symm (s4.extBut _ _ n10 (s3.extBut _ _ n8.symm e))),q2'.at fun o e => up _ _ n4 (s5.extBut _ _ n9.symm e),
  p1.at fun o e => up _ _ m1 (up5 l1 _ D.n1 e),p2.at fun o e => up _ _ m5 (up5 l2 _ D.n2 e)⟩ new8 fun c o hc e => up c o (fun z' => hc (by rw [z']; simp)) (up5 c o hc e))
theorem xF {Q:Option Value -> Shared -> Prop} (hh:A.handled = none) (D:CW z TI TO i1 i2 l1 l2) (st:E1 b1 b2 z TI TO i1 i2 l1 l2 xs ys k .none s.heap) (hx:xs[k]? = none ∨ ys[k]? = none)
  (hQ:∀ h',(∀ c o,c ∉ [z,TO,i1,i2] -> s.heap.get? c = some o -> h'.get? c = some o) -> Q none { s with heap:=h' }):wpAny (model prog w) A (pyNext (.ref z)) Q E s:= by
 obtain ⟨n1,n2,n3,n4,n5,n6,n7,n8,n9,n10,m1,m2,m3,m4,m5,m6,m7,m8⟩:=D.ne
 obtain ⟨hz,hTI,⟨a,c,hTO⟩,q1,q2,p1,p2⟩:=st
 have hT:s.TypeIs (.ref z) "zip":=⟨_,hz,rfl⟩
 have fin:∀ (h:Heap) (e:Addr),IsZip h z TI TO .ellipsis -> (∀ c o,c ∉ [z,TO,i1,i2] -> s.heap.get? c = some o -> h.get? c = some o) -> (∃ o,h.get? e = some o ∧ o.cls = .type "StopIteration") ->
   wpAny (model prog w) A.in1 (setField (.ref z) 0 .none) (fun _ s' => wpAny (model prog w) A (do if <- isInstance (Value.ref e) (.type "StopIteration") then pure (none:Option Value) else throw (Value.ref e)) Q E s') (fun _ _ => False) { s with heap:=h }:=fun h e hz kp he => by
  obtain ⟨o,ho,hc⟩:=he
  refine wpAny_setField_rec (s:={ s with heap:=h }) hz (by simp) fun h' _ sb => ?_
  have hez:e ≠ z:=fun x => by subst x; rw [hz] at ho; cases ho; simp at hc
  refine wpAny_bind (wpAny_isInstance (T:="StopIteration") (b:=true) ⟨o,sb.extBut _ _ hez ho,hc⟩ isSubtype_stop (wpAny_pure (hQ h' fun c o hc e => sb.extBut _ _ (fun z' => hc (by rw [z']; simp)) (kp c o hc e))))
 unfold pyNext
 refine wpAny_bind (wpAny_attempt (wpAny_callSpecial?_slot (name:=Str.ofString "__next__") hT F.slot_zip_next (wpAny_call_entry F.slot_zip_next hT F.entry_zip_next (?_:wpAny _ _ (field (.ref z) 2 >>= _) _ _ _) (F.args_zip_next_1 _))))
 refine wpAny_bind (wpAny_field hz rfl (x:=.bool false) rfl (?_:wpAny _ _ (field (.ref z) 3 >>= _) _ _ _))
 refine wpAny_bind (wpAny_field hz rfl (x:=.ref TI) rfl (wpAny_bind (wpAny_seqItems hTI rfl (?_:wpAny _ _ (Builtin.SmallTypes.ownedTupleIsFree (.ref z) >>= _) _ _ _))))
 refine wpAny_bind ?_
 unfold Builtin.SmallTypes.ownedTupleIsFree
 refine wpAny_bind (wpAny_field hz rfl (x:=.none) rfl (wpAny_pure ?_))
 simp only [if_true]
 refine wpAny_bind (wpAny_rule (wpAny_bind (wpAny_field hz rfl (x:=.ref TO) rfl ?_)))
 refine wpAny_bind (wpAny_setField_rec hz (by simp) fun h1 z1 s1 => ?_)
 replace z1:IsZip h1 z TI TO .ellipsis:=z1
 refine wpAny_bind ?_
 simp only [List.zipIdx_cons,List.zipIdx_nil,List.forIn_cons,List.forIn_nil]
 refine wpAny_bind (wpAny_bind (wpAny_onRaise (?_:wpAny _ _ (Builtin.SmallTypes.nextOf (.ref i1) >>= _) _ _ _)))
 have p1':kg b1 h1 l1 xs:=p1.at fun o e => s1.extBut _ _ m1 e
 have q1'':kH b1 h1 i1 l1 k:=q1.at fun o e => s1.extBut _ _ n3 e
 cases hxk:xs[k]? with
 | none =>
  refine wpAny_bind (oZ (s:={ s with heap:=h1 }) (by simpa using hh) q1'' p1' hxk fun h2 e kp he => ?_)
  refine wpAny_mono (fin h2 e (kp _ _ n3.symm z1) (fun c o hc e' => ?_) he) (fun _ _ q => q) fun _ _ q => q.elim
  simp only [List.mem_cons,List.not_mem_nil,or_false,not_or] at hc
  exact kp _ _ hc.2.2.1 (s1.extBut _ _ hc.1 e')
 | some v1 =>
  have hy:ys[k]? = none:= by
   rcases hx with h | h
   ·rw [hxk] at h; cases h
   ·exact h
  refine wpAny_bind (jw (s:={ s with heap:=h1 }) q1'' p1' hxk fun h2 q1' s2 => wpAny_pure ?_)
  have t2:IsPair h2 TO a c:=s2.extBut _ _ n8 (s1.extBut _ _ n2 hTO)
  refine wpAny_bind (wpAny_seqItems (s:={ s with heap:=h2 }) t2 rfl (wpAny_bind (jW (s:={ s with heap:=h2 }) t2 fun h3 t3 s3 => ?_)))
  refine wpAny_bind (wpAny_letGo (wpAny_pure ?_))
  refine wpAny_bind (wpAny_bind (wpAny_onRaise (?_:wpAny _ _ (Builtin.SmallTypes.nextOf (.ref i2) >>= _) _ _ _)))
  refine wpAny_bind (oZ (s:={ s with heap:=h3 }) (by simpa using hh) (q2.at fun o e => s3.extBut _ _ n9.symm (s2.extBut _ _ n10.symm (s1.extBut _ _ n4 e))) (p2.at fun o e => s3.extBut _ _ m6 (s2.extBut _ _ m7 (s1.extBut _ _ m5 e))) hy fun h4 e kp he => ?_)
  refine wpAny_mono (fin h4 e (kp _ _ n4.symm (s3.extBut _ _ n2.symm (s2.extBut _ _ n3.symm z1))) (fun c o hc e' => ?_) he) (fun _ _ q => q) fun _ _ q => q.elim
  simp only [List.mem_cons,List.not_mem_nil,or_false,not_or] at hc
  exact kp _ _ hc.2.2.2 (s3.extBut _ _ hc.2.1 (s2.extBut _ _ hc.2.2.1 (s1.extBut _ _ hc.1 e')))
end
end Jt
namespace Jt
open PySem
section
variable {prog:Program} {w:World} {A:Around} {E:Value -> Shared -> Prop} {s:Shared} {b1 b2 b:Bool} {l1 l2 q it e:Addr} {xs ys:Array Value} {k:Nat}
def uq (b1 b2:Bool) (h:Heap) (l1 l2:Addr):Heap:=(h.push (dv b1 l1)).push (dv b2 l2)
def CT (b1 b2:Bool) (h:Heap) (l1 l2:Addr):Heap:=((uq b1 b2 h l1 l2).push { cls:=.type "tuple",data:=.seq #[.ref h.objs.size,.ref (h.push (dv b1 l1)).objs.size] }).push { cls:=.type "tuple",data:=.seq #[.none,.none] }
def Ay (b1 b2:Bool) (h:Heap) (l1 l2:Addr):Heap:=(CT b1 b2 h l1 l2).push { cls:=.type "zip",data:=.fields #[.none,.bool false,.bool false,.ref (uq b1 b2 h l1 l2).objs.size,.ref ((uq b1 b2 h l1 l2).push { cls:=.type "tuple",data:=.seq #[.ref h.objs.size,.ref (h.push (dv b1 l1)).objs.size] }).objs.size] }
theorem sf (b1 b2:Bool) (l1 l2:Addr) (xs ys:Array Value):Meets (Builtin.«zip.__new__» ⟨[.type "zip",.ref l1,.ref l2],[]⟩) (fun _ R s => kg b1 s.heap l1 xs ∧ kg b2 s.heap l2 ys ∧ R (.ok (.ret (.ref (CT b1 b2 s.heap l1 l2).objs.size))) { s with heap:=Ay b1 b2 s.heap l1 l2 }) :=
 .of_wp fun prog w A R s h => by
  obtain ⟨hp,g,d,tk,os⟩:=s
  obtain ⟨h1,h2,h⟩:=h
  have hsub:=sub_zip
  have L1:kg b1 (Shared.heap ⟨hp,g,d,tk,os⟩) l1 xs:=h1
  have L2:kg b2 (Shared.heap ⟨hp.push (dv b1 l1),g,d,tk,os⟩) l2 ys:=h2.at fun o e => Heap.get?_push_of_some _ e
  wp_walk using hV L1,hV L2
  exact ⟨_,rfl,h⟩
theorem ym {Q:Value -> Shared -> Prop} (h1:kg b1 s.heap l1 xs) (h2:kg b2 s.heap l2 ys)
  (h:∀ h' z TI TO i1 i2,CW z TI TO i1 i2 l1 l2 -> E1 b1 b2 z TI TO i1 i2 l1 l2 xs ys 0 .none h' -> (∀ c o,s.heap.get? c = some o -> h'.get? c = some o) -> (∀ c ∈ [z,TI,TO,i1,i2],s.heap.objs.size ≤ c) -> Q (.ref z) { s with heap:=h' }) :
  wpAny (model prog w) A (call (.type "zip") [.ref l1,.ref l2]) Q E s:= by
 refine callType_new F.called_zip (by decide) (F.typeCall_zip_2 _ _) (F.newCall_zip_2 _ _) (fun obj => F.args_object_init_3 obj _ _) F.entry_zip_new (sf b1 b2 l1 l2 xs ys) ⟨h1,h2,?_⟩
 have a1:(s.heap.push (dv b1 l1)).objs.size = s.heap.objs.size + 1:=Heap.size_push ..
 have a2:(uq b1 b2 s.heap l1 l2).objs.size = s.heap.objs.size + 2:=by unfold uq; rw [Heap.size_push,a1]
 have a3:((uq b1 b2 s.heap l1 l2).push { cls:=.type "tuple",data:=.seq #[.ref s.heap.objs.size,.ref (s.heap.push (dv b1 l1)).objs.size] }).objs.size = s.heap.objs.size + 3:=by rw [Heap.size_push,a2]
 have a4:(CT b1 b2 s.heap l1 l2).objs.size = s.heap.objs.size + 4:=by unfold CT; rw [Heap.size_push,a3]
 have up4:∀ c o,(CT b1 b2 s.heap l1 l2).get? c = some o -> (Ay b1 b2 s.heap l1 l2).get? c = some o:=fun c o e => Heap.get?_push_of_some _ e
 have EF:∀ c o,(uq b1 b2 s.heap l1 l2).get? c = some o -> (Ay b1 b2 s.heap l1 l2).get? c = some o:=fun c o e => up4 c o (Heap.get?_push_of_some _ (Heap.get?_push_of_some _ e))
 have up:∀ c o,s.heap.get? c = some o -> (Ay b1 b2 s.heap l1 l2).get? c = some o:=fun c o e => EF c o (Heap.get?_push_of_some _ (Heap.get?_push_of_some _ e))
 have g5:(Ay b1 b2 s.heap l1 l2).get? (CT b1 b2 s.heap l1 l2).objs.size = some _:=Heap.get?_push_size _ rfl
 have g4:(Ay b1 b2 s.heap l1 l2).get? ((uq b1 b2 s.heap l1 l2).push { cls:=.type "tuple",data:=.seq #[.ref s.heap.objs.size,.ref (s.heap.push (dv b1 l1)).objs.size] }).objs.size = some _:=up4 _ _ (Heap.get?_push_size _ rfl)
 have g3:(Ay b1 b2 s.heap l1 l2).get? (uq b1 b2 s.heap l1 l2).objs.size = some _:=up4 _ _ (Heap.get?_push_of_some _ (Heap.get?_push_size _ rfl))
 have lt1:=h1.lt
 have lt2:=h2.lt
 refine ⟨⟨_,g5,rfl⟩,h (Ay b1 b2 s.heap l1 l2) _ (uq b1 b2 s.heap l1 l2).objs.size ((uq b1 b2 s.heap l1 l2).push { cls:=.type "tuple",data:=.seq #[.ref s.heap.objs.size,.ref (s.heap.push (dv b1 l1)).objs.size] }).objs.size s.heap.objs.size (s.heap.push (dv b1 l1)).objs.size ?_
  ⟨g5,g3,⟨_,_,g4⟩,kH.new.at fun o e => EF _ _ (Heap.get?_push_of_some _ e),kH.new.at fun o e => EF _ _ e,h1.at fun o e => up _ _ e,h2.at fun o e => up _ _ e⟩ up fun c hc => ?_⟩
 ·rw [a3,a4,a2,a1]
  have e1:∀ j:Nat,l1 ≠ s.heap.objs.size + j:=fun j z => Nat.ne_of_lt (Nat.lt_of_lt_of_le lt1 (Nat.le_add_right _ j)) z
  have e2:∀ j:Nat,l2 ≠ s.heap.objs.size + j:=fun j z => Nat.ne_of_lt (Nat.lt_of_lt_of_le lt2 (Nat.le_add_right _ j)) z
  have ne:∀ i j:Nat,i ≠ j -> s.heap.objs.size + i ≠ s.heap.objs.size + j:=fun i j h z => h (Nat.add_left_cancel z)
  have ne0:∀ j:Nat,j ≠ 0 -> s.heap.objs.size + j ≠ s.heap.objs.size:=fun j h z => h (Nat.add_left_cancel (m:=j) (k:=0) z)
  refine ⟨?_,?_,?_⟩
  ·simp only [List.nodup_cons,List.mem_cons,List.not_mem_nil,or_false,not_or,List.nodup_nil,and_true,not_false_eq_true]
   exact ⟨⟨ne 4 2 (by decide),ne 4 3 (by decide),ne0 4 (by decide),ne 4 1 (by decide)⟩,⟨ne 2 3 (by decide),ne0 2 (by decide),ne 2 1 (by decide)⟩,⟨ne0 3 (by decide),ne 3 1 (by decide)⟩,(ne0 1 (by decide)).symm⟩
  ·simp only [List.mem_cons,List.not_mem_nil,or_false,not_or]
   exact ⟨e1 4,e1 3,Nat.ne_of_lt lt1,e1 1⟩
  ·simp only [List.mem_cons,List.not_mem_nil,or_false,not_or]
   exact ⟨e2 4,e2 3,Nat.ne_of_lt lt2,e2 1⟩
 ·rw [a3,a4,a2,a1] at hc
  simp only [List.mem_cons,List.not_mem_nil,or_false] at hc
  rcases hc with e | e | e | e | e
  ·rw [e]; exact Nat.le_add_right _ 4
  ·rw [e]; exact Nat.le_add_right _ 2
  ·rw [e]; exact Nat.le_add_right _ 3
  ·rw [e]; exact Nat.le_refl _
  ·rw [e]; exact Nat.le_add_right _ 1
theorem o6 (b:Bool) (l:Addr) (xs:Array Value):Meets (Builtin.«enumerate.__new__» ⟨[.type "enumerate",.ref l],[]⟩) (fun _ R s => kg b s.heap l xs ∧ R (.ok (.ret (.ref (s.heap.push (dv b l)).objs.size)))
  { s with heap:=(s.heap.push (dv b l)).push { cls:=.type "enumerate",data:=.fields #[.none,.bool false,.ref s.heap.objs.size,rawInt 0,.none,.none] } }) :=
 .of_wp fun prog w A R s h => by
  obtain ⟨hp,g,d,tk,os⟩:=s
  obtain ⟨h1,h⟩:=h
  have hsub:=sub_enumerate
  have L1:kg b (Shared.heap ⟨hp,g,d,tk,os⟩) l xs:=h1
  wp_walk
  refine wpAny_stack_any fun st => wpAny_pure ?_
  split
  ·rename_i c _ _ _ _ _
   cases (c == Value.type "enumerate")
   ·wp_walk using hV L1
    exact ⟨_,rfl,h⟩
   ·wp_walk using hV L1
    exact ⟨_,rfl,h⟩
  ·wp_walk using hV L1
   exact ⟨_,rfl,h⟩
abbrev FZ (b:Bool) (e it l:Addr) (xs:Array Value) (k:Nat) (h:Heap):Prop:=(∃ old,IsEnum h e it k old) ∧ kH b h it l k ∧ kg b h l xs
theorem wM {Q:Value -> Shared -> Prop} (h1:kg b s.heap q xs)
  (h:∀ h' e it,e ≠ it -> q ≠ e -> q ≠ it -> FZ b e it q xs 0 h' -> (∀ c o,s.heap.get? c = some o -> h'.get? c = some o) -> s.heap.objs.size ≤ e -> s.heap.objs.size ≤ it -> Q (.ref e) { s with heap:=h' }) :
  wpAny (model prog w) A (call (.type "enumerate") [.ref q]) Q E s:= by
 refine callType_new F.called_enumerate (by decide) (F.typeCall_enumerate_1 _) (F.newCall_enumerate_1 _) (fun obj => F.args_object_init_2 obj _) F.entry_enumerate_new (o6 b q xs) ⟨h1,?_⟩
 have a1:(s.heap.push (dv b q)).objs.size = s.heap.objs.size + 1:=Heap.size_push ..
 have lt1:=h1.lt
 refine ⟨⟨_,Heap.get?_push_size _ rfl,rfl⟩,h _ _ s.heap.objs.size (fun z => ?_) (fun z => ?_) (Nat.ne_of_lt lt1) ⟨⟨.none,Heap.get?_push_size _ rfl⟩,kH.new.at fun o e => Heap.get?_push_of_some _ e,h1.at fun o e => Heap.get?_push_of_some _ (Heap.get?_push_of_some _ e)⟩ (fun c o e => Heap.get?_push_of_some _ (Heap.get?_push_of_some _ e)) ?_ (Nat.le_refl _)⟩
 ·rw [a1] at z; exact Nat.succ_ne_self _ z
 ·rw [a1] at z; exact Nat.ne_of_lt (Nat.lt_succ_of_lt lt1) z
 ·rw [a1]; exact Nat.le_succ _
theorem rR {v:Value} {Q:Option Value -> Shared -> Prop} (hne:e ≠ it) (hqe:q ≠ e) (hqi:q ≠ it) (st:FZ b e it q xs k s.heap) (hx:xs[k]? = some v)
  (hQ:∀ h',IsEnumOut h' e it ((k:Int) + 1) v s.heap.objs.size -> kH b h' it q (k + 1) -> kg b h' q xs -> IsPair h' s.heap.objs.size (.int k s.toks) v -> (∀ c o,c ≠ e -> c ≠ it -> s.heap.get? c = some o -> h'.get? c = some o) -> Q (some (.ref s.heap.objs.size)) { s with heap:=h',toks:=s.toks + 1 }) :
  wpAny (model prog w) A (pyNext (.ref e)) Q E s:= by
 obtain ⟨⟨old,he⟩,hi,hq⟩:=st
 have hT:s.TypeIs (.ref e) "enumerate":=⟨_,he,rfl⟩
 have hel:e < s.heap.objs.size:=Heap.lt_size he
 unfold pyNext
 refine wpAny_bind (wpAny_attempt (wpAny_callSpecial?_slot (name:=Str.ofString "__next__") hT F.slot_enumerate_next (wpAny_call_entry F.slot_enumerate_next hT F.entry_enumerate_next (?_:wpAny _ _ (field (.ref e) 2 >>= _) _ _ _) (F.args_enumerate_next_1 _))))
 obtain ⟨hp,g,d,tk,os⟩:=s
 refine wpAny_bind (wpAny_field he rfl (x:=.ref it) rfl (wpAny_bind (jw hi hq hx fun h1 hi1 s1 => ?_)))
 replace s1:Heap.SameBut it hp h1:=s1
 have e1:IsEnum h1 e it k old:=(s1.2 e hne).trans he
 refine (?_:wpAny _ _ (field (.ref e) 3 >>= _) _ _ ⟨h1,g,d,tk,os⟩)
 refine wpAny_bind (wpAny_field (s:=⟨h1,g,d,tk,os⟩) e1 rfl (x:=rawInt k) rfl (?_:wpAny _ _ (field (.ref e) 4 >>= _) _ _ ⟨h1,g,d,tk,os⟩))
 refine wpAny_bind (wpAny_field (s:=⟨h1,g,d,tk,os⟩) e1 rfl (x:=.none) rfl (?_:wpAny _ _ (mkInt k >>= _) _ _ ⟨h1,g,d,tk,os⟩))
 refine wpAny_bind (wpAny_mkInt (?_:wpAny _ _ (setField (.ref e) 3 (rawInt ((k:Int) + 1)) >>= _) _ _ ⟨h1,g,d,tk + 1,os⟩))
 refine wpAny_bind (wpAny_setField_rec (s:=⟨h1,g,d,tk + 1,os⟩) e1 (by simp) fun h2 e2 s2 => (?_:wpAny _ _ (setField (.ref e) 4 .none >>= _) _ _ ⟨h2,g,d,tk + 1,os⟩))
 replace s2:Heap.SameBut e h1 h2:=s2
 replace e2:IsEnum h2 e it ((k:Int) + 1) old:=e2
 refine wpAny_bind (wpAny_setField_rec (s:=⟨h2,g,d,tk + 1,os⟩) e2 (by simp) fun h3 e3 s3 => (?_:wpAny _ _ (newTuple [.int k tk,v] >>= _) _ _ ⟨h3,g,d,tk + 1,os⟩))
 replace s3:Heap.SameBut e h2 h3:=s3
 replace e3:IsEnum h3 e it ((k:Int) + 1) old:=e3
 refine wpAny_bind (wpAny_newTuple ?_)
 have hsz:h3.objs.size = hp.objs.size:=by rw [s3.1,s2.1,s1.1]
 have e4:IsEnum (h3.push { cls:=.type "tuple",data:=.seq #[.int k tk,v] }) e it ((k:Int) + 1) old:=Heap.get?_push_of_some _ e3
 have t4:IsPair (h3.push { cls:=.type "tuple",data:=.seq #[.int k tk,v] }) hp.objs.size (.int k tk) v:=by rw [<- hsz]; exact Heap.get?_push_size _ rfl
 have up4:∀ c o,c ≠ e -> h1.get? c = some o -> (h3.push { cls:=.type "tuple",data:=.seq #[.int k tk,v] }).get? c = some o:=fun c o hc x => Heap.get?_push_of_some _ (s3.extBut c o hc (s2.extBut c o hc x))
 refine (?_:wpAny _ _ (Builtin.SmallTypes.ownedTupleIsFree (.ref e) >>= _) _ _ ⟨h3.push { cls:=.type "tuple",data:=.seq #[.int k tk,v] },g,d,tk + 1,os⟩)
 rw [hsz]
 generalize h3.push { cls:=.type "tuple",data:=.seq #[.int k tk,v] } = h4 at e4 t4 up4
 refine wpAny_bind ?_
 unfold Builtin.SmallTypes.ownedTupleIsFree
 refine wpAny_bind (wpAny_field (s:=⟨h4,g,d,tk + 1,os⟩) e4 rfl (x:=.none) rfl (wpAny_pure ?_))
 simp only [if_true]
 refine wpAny_bind (wpAny_rule (wpAny_bind (wpAny_field (s:=⟨h4,g,d,tk + 1,os⟩) e4 rfl (x:=old) rfl ?_)))
 refine wpAny_bind (wpAny_setField_rec (s:=⟨h4,g,d,tk + 1,os⟩) e4 (by simp) fun h5 e5 s5 => (?_:wpAny _ _ (Builtin.SmallTypes.ownedTupleHandOut (.ref e) (.ref hp.objs.size) >>= _) _ _ ⟨h5,g,d,tk + 1,os⟩))
 replace s5:Heap.SameBut e h4 h5:=s5
 replace e5:IsEnum h5 e it ((k:Int) + 1) v:=e5
 refine wpAny_bind ?_
 unfold Builtin.SmallTypes.ownedTupleHandOut
 refine wpAny_bind (wpAny_setField_rec (s:=⟨h5,g,d,tk + 1,os⟩) e5 (by simp) fun h6 e6 s6 => ?_)
 replace s6:Heap.SameBut e h5 h6:=s6
 replace e6:IsEnumOut h6 e it ((k:Int) + 1) v hp.objs.size:=e6
 refine wpAny_setField_rec (s:=⟨h6,g,d,tk + 1,os⟩) e6 (by simp) fun h7 e7 s7 => ?_
 replace s7:Heap.SameBut e h6 h7:=s7
 replace e7:IsEnumOut h7 e it ((k:Int) + 1) v hp.objs.size:=e7
 have up:∀ c o,c ≠ e -> h1.get? c = some o -> h7.get? c = some o:=fun c o hc x => s7.extBut c o hc (s6.extBut c o hc (s5.extBut c o hc (up4 c o hc x)))
 have hel':hp.objs.size ≠ e:=Nat.ne_of_gt hel
 refine wpAny_bind (wpAny_letGo (wpAny_pure ⟨_,rfl,wpAny_pure (hQ h7 e7 (hi1.at fun o x => up _ _ hne.symm x) (hq.at fun o x => up _ _ hqe (s1.extBut _ _ hqi x)) (s7.extBut _ _ hel' (s6.extBut _ _ hel' (s5.extBut _ _ hel' t4))) fun c o c1 c2 x => up c o c1 (s1.extBut _ _ c2 x))⟩))
theorem vE {Q:Option Value -> Shared -> Prop} (hh:A.handled = none) (st:FZ b e it q xs k s.heap) (hx:xs[k]? = none) (hQ:∀ h',(∀ c o,c ≠ it -> s.heap.get? c = some o -> h'.get? c = some o) -> Q none { s with heap:=h' }):wpAny (model prog w) A (pyNext (.ref e)) Q E s:= by
 obtain ⟨⟨old,he⟩,hi,hq⟩:=st
 have hT:s.TypeIs (.ref e) "enumerate":=⟨_,he,rfl⟩
 unfold pyNext
 refine wpAny_bind (wpAny_attempt (wpAny_callSpecial?_slot (name:=Str.ofString "__next__") hT F.slot_enumerate_next (wpAny_call_entry F.slot_enumerate_next hT F.entry_enumerate_next (?_:wpAny _ _ (field (.ref e) 2 >>= _) _ _ _) (F.args_enumerate_next_1 _))))
 refine wpAny_bind (wpAny_field he rfl (x:=.ref it) rfl (wpAny_bind (oZ (by simpa using hh) hi hq hx fun h' x kp hx' => ?_)))
 obtain ⟨o,ho,hc⟩:=hx'
 exact wpAny_bind (wpAny_isInstance (T:="StopIteration") (b:=true) ⟨o,ho,hc⟩ isSubtype_stop (wpAny_pure (hQ _ kp)))
end
end Jt
namespace L2
open PySem PySem.Spec PyProof.Rows
abbrev Key:=Sum Int Str
def lK:Key -> Value -> Bool
 | .inl k,v => Value.isInt k v
 | .inr x,v => Value.isStrOf x v
def Fb (w:World):Key -> Int
 | .inl k => hashInt k
 | .inr x => hashStr w x
theorem bQ:∀ {k:Key} {v:Value},lK k v = true -> (∃ i t,k = Sum.inl i ∧ v = Value.int i t) ∨ (∃ x t,k = Sum.inr x ∧ v = Value.str x t)
 | .inl i,v,h => by
  obtain ⟨t,e⟩:=Value.isInt_shape (k:=i) (v:=v) h
  exact .inl ⟨i,t,rfl,e⟩
 | .inr x,v,h => by
  obtain ⟨t,e⟩:=Value.isStrOf_shape (x:=x) (v:=v) h
  exact .inr ⟨x,t,rfl,e⟩
theorem rL (i:Int) (t:Tok):lK (.inl i) (.int i t) = true:=by simp [lK,Value.isInt]
theorem si (x:Str) (t:Tok):lK (.inr x) (.str x t) = true:=by simp [lK,Value.isStrOf]
theorem Cq (a b:Int):decide ((Sum.inl a:Key) = Sum.inl b) = (a == b):= by
 by_cases e:a = b
 ·subst e; simp
 ·have h:¬ (Sum.inl a:Key) = Sum.inl b:=fun q => e (Sum.inl.inj q)
  rw [decide_eq_false h]
  exact (beq_eq_false_iff_ne.mpr e).symm
theorem Br (a b:Str):decide ((Sum.inr a:Key) = Sum.inr b) = decide (a = b):= by
 by_cases e:a = b
 ·subst e; simp
 ·have h:¬ (Sum.inr a:Key) = Sum.inr b:=fun q => e (Sum.inr.inj q)
  rw [decide_eq_false h,decide_eq_false e]
theorem AI (a:Int) (b:Str):decide ((Sum.inl a:Key) = Sum.inr b) = false:=decide_eq_false (fun q => nomatch q)
theorem AG (a:Str) (b:Int):decide ((Sum.inr a:Key) = Sum.inl b) = false:=decide_eq_false (fun q => nomatch q)
def aY (prog:Program) (w:World):PySem.KeyKind prog w Key where
 is:=lK
 hash:=Fb w
 inj:=fun v a b ha hb => by
  rcases bQ ha with ⟨i,t,rfl,rfl⟩ | ⟨x,t,rfl,rfl⟩
  ·rcases bQ hb with ⟨j,u,rfl,e⟩ | ⟨y,u,rfl,e⟩
   ·injection e with e1 _; rw [e1]
   ·exact nomatch e
  ·rcases bQ hb with ⟨j,u,rfl,e⟩ | ⟨y,u,rfl,e⟩
   ·exact nomatch e
   ·injection e with e1 _; rw [e1]
 byValue:=fun k v h => by
  rcases bQ h with ⟨i,t,rfl,rfl⟩ | ⟨x,t,rfl,rfl⟩ <;> rfl
 pyHash:=fun hv h => by
  rcases bQ hv with ⟨i,t,rfl,rfl⟩ | ⟨x,t,rfl,rfl⟩
  ·exact wpAny_pyHash_int h
  ·exact wpAny_pyHash_str h
 eqBool:=fun hu hv h => by
  rcases bQ hu with ⟨i,t,rfl,rfl⟩ | ⟨x,t,rfl,rfl⟩
  ·rcases bQ hv with ⟨j,u,rfl,rfl⟩ | ⟨y,u,rfl,rfl⟩
   ·rw [Cq] at h; exact wpAny_eqBool_int h
   ·rw [AI] at h; exact SeqAt.EqAt.int_str i t y u _ _ _ _ h
  ·rcases bQ hv with ⟨j,u,rfl,rfl⟩ | ⟨y,u,rfl,rfl⟩
   ·rw [AG] at h; exact SeqAt.EqAt.str_int x t j u _ _ _ _ h
   ·rw [Br] at h; exact wpAny_eqBool_str h
 «strs»:=fun k x t v h => by
  rcases bQ h with ⟨i,u,rfl,e⟩ | ⟨y,u,rfl,e⟩
  ·exact nomatch e
  ·injection e with e1 _
   subst e1
   cases v <;> rfl
theorem nI (prog:Program) (w:World) (i:Int) (t:Tok):(aY prog w).is (.inl i) (.int i t) = true:=rL i t
theorem nz (prog:Program) (w:World) (x:Str) (t:Tok):(aY prog w).is (.inr x) (.str x t) = true:=si x t
end L2
namespace L2
open PySem PySem.Spec PyProof.Rows
inductive V where
 | non | bl (b:Bool) | int (i:Int) | str (x:Str) | byt (b:Array UInt8) | flt (b:UInt64) | ref (a:Addr) | ty (n:String)
 deriving DecidableEq
def RelV:V -> Value -> Prop
 | .non,u => u = Value.none
 | .bl b,u => u = Value.bool b
 | .int i,u => ∃ t,u = Value.int i t
 | .str x,u => ∃ t,u = Value.str x t
 | .byt b,u => ∃ t,u = Value.bytes b t
 | .flt b,u => ∃ t,u = Value.float b t
 | .ref a,u => u = Value.ref a
 | .ty n,u => u = Value.type n
abbrev Vals:List V -> List Value -> Prop:=Paired RelV
theorem Vals.length {xs:List V} {us:List Value} (r:Vals xs us):xs.length = us.length:=Paired.length r
theorem Vals.get:∀ {xs:List V} {us:List Value} {i:Nat} {x:V},Vals xs us -> xs[i]? = some x -> ∃ u,us[i]? = some u ∧ RelV x u
 | _,_,_,_,.nil,e => by simp at e
 | _,_,0,_,.cons r _,e => by simp at e; subst e; exact ⟨_,rfl,r⟩
 | _,_,i + 1,x,.cons _ t,e => by
  obtain ⟨u,h1,h2⟩:=Vals.get (i:=i) (x:=x) t (by simpa using e)
  exact ⟨u,by simpa using h1,h2⟩
theorem Vals.set {x:V} {u:Value} (r:RelV x u):∀ {xs:List V} {us:List Value} (i:Nat),Vals xs us -> Vals (xs.set i x) (us.set i u)
 | _,_,_,.nil => .nil
 | _,_,0,.cons _ t => .cons r t
 | _,_,i + 1,.cons q t => .cons q (Vals.set r i t)
theorem Vals.append:∀ {xs ys:List V} {us ws:List Value},Vals xs us -> Vals ys ws -> Vals (xs ++ ys) (us ++ ws)
 | _,_,_,_,.nil,s => s
 | _,_,_,_,.cons r t,s => .cons r (Vals.append t s)
theorem Vals.take:∀ {xs:List V} {us:List Value} (n:Nat),Vals xs us -> Vals (xs.take n) (us.take n)
 | _,_,0,_ => .nil
 | _,_,_ + 1,.nil => .nil
 | _,_,n + 1,.cons r t => .cons r (Vals.take n t)
theorem Vals.drop:∀ {xs:List V} {us:List Value} (n:Nat),Vals xs us -> Vals (xs.drop n) (us.drop n)
 | _,_,0,r => r
 | _,_,_ + 1,.nil => .nil
 | _,_,n + 1,.cons _ t => Vals.drop n t
def RelO:Option V -> Option Value -> Prop
 | some v,some u => RelV v u
 | none,none => True
 | _,_ => False
def KV {κ:Type}:List (κ × V) -> List (κ × Value) -> Prop:=Paired fun (p:κ × V) (q:κ × Value) => p.1 = q.1 ∧ RelV p.2 q.2
def kV:Key -> V
 | .inl i => .int i
 | .inr x => .str x
inductive HO where
  | lst (xs:List V)
  | tup (xs:List V)
  | dK (kvs:List (Key × V)) | dT (kvs:List (List Key × V))
  | set (S:Int -> Bool) (n:Nat)
  | ins (C dx:Addr) (fs:List (Str × V))
  | own (x:Addr)
  | xd (fs:List (Str × V))
  | met (f x:Addr)
  | rng (lo hi:Int)
  | frz (o:Obj) (u:HO)
  | tbl (ps:Array Value)
  | ext (φ:Heap -> Prop)
abbrev Hp:=Addr -> Option HO
def upd (H:Hp) (a:Addr) (o:HO):Hp:=fun b => if b = a then some o else H b
theorem aA {H:Hp} {a:Addr} {o:HO}:upd H a o a = some o:=by unfold upd; rw [if_pos rfl]
theorem av {H:Hp} {a b:Addr} {o:HO} (h:b ≠ a):upd H a o b = H b:=by unfold upd; rw [if_neg h]
theorem xy {H:Hp} {a:Addr} {o u:HO}:upd (upd H a o) a u = upd H a u:= by
 funext b; unfold upd; split <;> rfl
theorem zI {H:Hp} {a b:Addr} {o u:HO} (h:H a = some o) (h':H b = some u) (d:o ≠ u):a ≠ b:= by
 intro e; subst e; rw [h] at h'; exact d (Option.some.inj h')
theorem bJ {H:Hp} {a b:Addr} {o:HO} (h:H a = some o) (h':H b = none):a ≠ b:= by
 intro e; subst e; rw [h] at h'; cases h'
def se (h:Heap) (a:Addr) (items:Array Value):Prop:=IsTup h a items ∧ ∃ o,h.get? a = some o ∧ o.dict = none
theorem se.new (h:Heap) (items:Array Value):se (h.push { cls:=.type "tuple",data:=.seq items }) h.objs.size items:=⟨IsTup.new _ _,_,Heap.get?_push_size _ rfl,rfl⟩
section
variable (P:Program) (w:World)
def bX (H:Hp) (h:Heap) (a:Addr):HO -> Prop
 | .lst xs => xs.length ≤ sizeLine ∧ ∃ (its:List Value) (n:Nat),Vals xs its ∧ h.get? a = some { cls:=.type "list",data:=.seq its.toArray n }
 | .tup xs => xs.length ≤ sizeLine ∧ ∃ its:List Value,Vals xs its ∧ se h a its.toArray
 | .dK kvs => kvs.length ≤ sizeLine ∧ (a == sysModules) = false ∧ ∃ vs,KV kvs vs ∧ h.DictOf (aY P w) a vs
 | .dT kvs => kvs.length ≤ sizeLine ∧ (a == sysModules) = false ∧ ∃ xs:List (List Key × Addr × Value),
   Paired (fun (p:List Key × V) (q:List Key × Addr × Value) => p.1 = q.1 ∧ H q.2.1 = some (.tup (p.1.map kV)) ∧ RelV p.2 q.2.2) kvs xs ∧
   ∃ o es ep,h.get? a = some o ∧ o.ExactDict ∧ o.data = .dict es ep ∧ es.toList = xs.map (entryOfKey (tupleKind (aY P w))) ∧ (xs.map (·.1)).Nodup
 | .set S n => h.SetOf (intKind P w) a S n
 | .ins C dx fs => H dx = some (.own a) ∧ fs.length ≤ 1000 ∧ dx ≠ a ∧ h.get? a = some (PySem.W.instObj C dx) ∧
   ∃ mA,h.Ns1 dx mA ∧ (∀ f,RelO (fs.lookup f) (mA f)) ∧ PySem.Within mA (fs.map (·.1))
 | .own _ => ∃ o,h.get? a = some o
 | .xd fs => ∃ mA,h.Ns1 a mA ∧ ∀ f,RelO (fs.lookup f) (mA f)
 | .rng lo hi => ∃ t u v,h.get? a = some { cls:=.type "range",data:=.fields #[.int lo t,.int hi u,.int 1 v] }
 | .frz o u => h.get? a = some o ∧ bX H h a u
 | .tbl ps => h.get? a = some { cls:=.none,data:=.fields ps }
 | .met f x => h.get? a = some (PySem.W.methodObj (.ref f) (.ref x))
 | .ext φ => φ h ∧ (∃ o,h.get? a = some o) ∧ ∀ h1 h2:Heap,φ h1 -> (∀ o,h1.get? a = some o -> h2.get? a = some o) -> φ h2
def iq (H:Hp) (h:Heap):Prop:=∀ a o,H a = some o -> bX P w H h a o
end
section
variable {P:Program} {w:World} {H H':Hp} {h h':Heap} {a:Addr} {o:HO}
theorem bX.lt (x:bX P w H h a o):a < h.objs.size:= by
 cases o with
 | lst xs => obtain ⟨_,_,_,_,e⟩:=x; exact Heap.lt_size e
 | tup xs => obtain ⟨_,_,_,p⟩:=x; exact p.1.lt
 | dK kvs => obtain ⟨_,_,_,_,o,_,_,e,_⟩:=x; exact Heap.lt_size e
 | dT kvs => obtain ⟨_,_,_,_,o,_,_,e,_⟩:=x; exact Heap.lt_size e
 | set S n => obtain ⟨o,_,_,_,e,_⟩:=x; exact Heap.lt_size e
 | ins C dx fs => obtain ⟨_,_,_,e,_⟩:=x; exact Heap.lt_size e
 | own y => obtain ⟨_,e⟩:=x; exact Heap.lt_size e
 | xd fs => obtain ⟨_,⟨_,_,_,e,_⟩,_⟩:=x; exact Heap.lt_size e
 | rng lo hi => obtain ⟨_,_,_,e⟩:=x; exact Heap.lt_size e
 | frz ob u => obtain ⟨e,_⟩:=x; exact Heap.lt_size e
 | tbl ps => exact Heap.lt_size (show h.get? a = some _ from x)
 | met f y => exact Heap.lt_size (show h.get? a = some _ from x)
 | ext φ => obtain ⟨_,⟨_,e⟩,_⟩:=x; exact Heap.lt_size e
theorem Paired.mapP {α β:Type} {F G:α -> β -> Prop}:∀ {l₁:List α} {l₂:List β},Paired F l₁ l₂ -> (∀ a b,F a b -> G a b) -> Paired G l₁ l₂
 | _,_,.nil,_ => .nil
 | _,_,.cons r t,f => .cons (f _ _ r) (Paired.mapP t f)
theorem bX.stay (x:bX P w H h a o) (k:∀ b u,(b = a ∨ H b = some (.own a)) -> h.get? b = some u -> h'.get? b = some u)
  (ho:∀ b,H b = some (.own a) -> H' b = some (.own a)) (ht:∀ b xs,H b = some (.tup xs) -> H' b = some (.tup xs)):bX P w H' h' a o:= by
 induction o with
 | lst xs => obtain ⟨z,its,n,r,e⟩:=x; exact ⟨z,its,n,r,k _ _ (.inl rfl) e⟩
 | tup xs => obtain ⟨z,its,r,⟨ob,e,c⟩,ob2,e2,d⟩:=x; exact ⟨z,its,r,⟨ob,k _ _ (.inl rfl) e,c⟩,ob2,k _ _ (.inl rfl) e2,d⟩
 | dK kvs => obtain ⟨z,y,vs,r,ob,es,ep,e,c⟩:=x; exact ⟨z,y,vs,r,ob,es,ep,k _ _ (.inl rfl) e,c⟩
 | dT kvs =>
  obtain ⟨z,y,xs,r,ob,es,ep,e,c⟩:=x
  exact ⟨z,y,xs,Paired.mapP r fun p q z => ⟨z.1,ht _ _ z.2.1,z.2.2⟩,ob,es,ep,k _ _ (.inl rfl) e,c⟩
 | set S n => obtain ⟨ob,es,ep,t,e,c⟩:=x; exact ⟨ob,es,ep,t,k _ _ (.inl rfl) e,c⟩
 | ins C dx fs =>
  obtain ⟨d,z,ne,e,mA,⟨od,es,ep,e2,c⟩,r⟩:=x
  exact ⟨ho _ d,z,ne,k _ _ (.inl rfl) e,mA,⟨od,es,ep,k _ _ (.inr d) e2,c⟩,r⟩
 | own y => obtain ⟨ob,e⟩:=x; exact ⟨ob,k _ _ (.inl rfl) e⟩
 | xd fs => obtain ⟨mA,⟨od,es,ep,e,c⟩,r⟩:=x; exact ⟨mA,⟨od,es,ep,k _ _ (.inl rfl) e,c⟩,r⟩
 | rng lo hi => obtain ⟨t,u,v,e⟩:=x; exact ⟨t,u,v,k _ _ (.inl rfl) e⟩
 | frz ob u ih => obtain ⟨e,q⟩:=x; exact ⟨k _ _ (.inl rfl) e,ih q⟩
 | tbl ps =>
  have e:h.get? a = some { cls:=.none,data:=.fields ps }:=x
  show h'.get? a = some { cls:=.none,data:=.fields ps }
  exact k a _ (.inl rfl) e
 | met f y =>
  have e:h.get? a = some (PySem.W.methodObj (.ref f) (.ref y)):=x
  show h'.get? a = some (PySem.W.methodObj (.ref f) (.ref y))
  exact k a _ (.inl rfl) e
 | ext φ => obtain ⟨p,⟨o,e⟩,st⟩:=x; exact ⟨st _ _ p fun o q => k _ _ (.inl rfl) q,⟨o,k _ _ (.inl rfl) e⟩,st⟩
theorem iq.lt (x:iq P w H h) (e:H a = some o):a < h.objs.size:=(x a o e).lt
theorem iq.fresh (x:iq P w H h) (e:h.objs.size ≤ a):H a = none:= by
 cases q:H a with
 | none => rfl
 | some u => exact absurd (Nat.lt_of_lt_of_le (x.lt q) e) (Nat.lt_irrefl _)
theorem iq.kept (x:iq P w H h) (k:∀ b u,h.get? b = some u -> h'.get? b = some u):iq P w H h':=fun a o e =>
 (x a o e).stay (fun b u _ q => k b u q) (fun _ q => q) fun _ _ q => q
theorem iq.laid (x:iq P w H h) (k:∀ b u,h.get? b = some u -> h'.get? b = some u) (hp:h.objs.size ≤ a) (new:bX P w (upd H a o) h' a o):iq P w (upd H a o) h':=fun b u e => by
 have hn:=x.fresh hp
 by_cases hb:b = a
 ·subst hb; rw [aA] at e; cases e; exact new
 ·rw [av hb] at e
  exact (x b u e).stay (fun c v _ q => k c v q) (fun c q => by rw [av (bJ q hn)]; exact q) fun c xs q => by rw [av (bJ q hn)]; exact q
end
def Rd (H:Hp) (a:Addr) (u:HO):Prop:=H a = some u ∨ ∃ o,H a = some (.frz o u)
theorem Rd.ok {P:Program} {w:World} {H:Hp} {h:Heap} {a:Addr} {u:HO} (r:Rd H a u) (x:iq P w H h):bX P w H h a u:= by
 rcases r with r | ⟨o,r⟩
 ·exact x a u r
 ·obtain ⟨_,q⟩:=x a _ r
  exact q
def Ef:Option HO -> Prop
 | some (.lst _) => True
 | some (.dK _) => True
 | some (.dT _) => True
 | some (.set _ _) => True
 | some (.ins _ _ _) => True
 | some (.ext _) => True
 | _ => False
section
variable {P:Program} {w:World} {H:Hp} {h h':Heap} {x e:Addr} {o':HO}
theorem iq.write (ok:iq P w H h) (mu:Ef (H x)) (he:e = x ∨ H e = some (.own x)) (k:∀ b u,b ≠ e -> h.get? b = some u -> h'.get? b = some u) (heo:∃ u,h'.get? e = some u)
  (new:bX P w (upd H x o') h' x o'):iq P w (upd H x o') h':=fun b u q => by
 have nown:∀ c y,H c = some (.own y) -> c ≠ x:=fun c y r z => by subst z; rw [r] at mu; exact mu
 have ntup:∀ c xs,H c = some (.tup xs) -> c ≠ x:=fun c xs r z => by subst z; rw [r] at mu; exact mu
 by_cases hb:b = x
 ·subst hb; rw [aA] at q; cases q; exact new
 ·rw [av hb] at q
  by_cases hbe:b = e
  ·have q':H b = some (.own x):= by
    rcases he with z | z
    ·exact absurd (hbe.trans z) hb
    ·rw [hbe]; exact z
   rw [q] at q'; cases q'
   obtain ⟨v,hv⟩:=heo
   exact ⟨v,by rw [hbe]; exact hv⟩
  ·refine (ok b u q).stay (fun c v hc r => k c v ?_ r) (fun c r => by rw [av (nown c b r)]; exact r) fun c xs r => by rw [av (ntup c xs r)]; exact r
   rcases hc with rfl | hc
   ·exact hbe
   ·rintro rfl
    rcases he with z | z
    ·exact nown c b hc z
    ·rw [hc] at z; cases z; exact hb rfl
end
structure Un (fs ex:List Addr) (H H':Hp) (h h':Heap):Prop where
 keep:∀ b o,h.get? b = some o -> H b = none -> b ∉ fs -> b ∉ ex -> h'.get? b = some o
 slot:∀ b o,h.get? b = some o -> H b = none -> b ∈ fs -> b ∉ ex -> ∃ sl,h'.get? b = some { o with slots:=sl }
 free:∀ b o,h.get? b = some o -> H b = none -> b ∉ ex -> H' b = none
 there:∀ b o,h.get? b = some o -> b ∉ ex -> ∃ o',h'.get? b = some o'
 tups:∀ b xs,H b = some (.tup xs) -> H' b = some (.tup xs)
 frzs:∀ b o u,H b = some (.frz o u) -> H' b = some (.frz o u)
 tbls:∀ b ps,H b = some (.tbl ps) -> ∃ more,H' b = some (.tbl (ps ++ more))
section
variable {fs fs' ex ex':List Addr} {H H1 H2:Hp} {h h1 h2 h':Heap} {a x e:Addr} {o:HO}
theorem Un.any (u:Un fs ex H H1 h h1) {b:Addr} {ob:Obj} (q:h.get? b = some ob) (n:H b = none) (hx:b ∉ ex):∃ sl,h1.get? b = some { ob with slots:=sl }:= by
 by_cases hb:b ∈ fs
 ·exact u.slot b ob q n hb hx
 ·exact ⟨ob.slots,u.keep b ob q n hb hx⟩
theorem Un.kept (k:∀ b u,h.get? b = some u -> h'.get? b = some u):Un fs ex H H h h' :=
 ⟨fun b ob q _ _ _ => k b ob q,fun b ob q _ _ _ => ⟨ob.slots,k b ob q⟩,fun _ _ _ n _ => n,fun b ob q _ => ⟨ob,k b ob q⟩,fun _ _ q => q,fun _ _ _ q => q,fun _ ps q => ⟨#[],by rw [q]; simp⟩⟩
theorem Un.refl:Un fs ex H H h h:=Un.kept fun _ _ q => q
theorem Un.laid (k:∀ b u,h.get? b = some u -> h'.get? b = some u) (hp:h.objs.size ≤ a) (hn:H a = none):Un fs ex H (upd H a o) h h' where
 keep:=fun b u q _ _ _ => k b u q
 slot:=fun b u q _ _ _ => ⟨u.slots,k b u q⟩
 free:=fun b u q n _ => by rw [av (Nat.ne_of_lt (Nat.lt_of_lt_of_le (Heap.lt_size q) hp))]; exact n
 there:=fun b u q _ => ⟨u,k b u q⟩
 tups:=fun b xs q => by rw [av (bJ q hn)]; exact q
 frzs:=fun b u xs q => by rw [av (bJ q hn)]; exact q
 tbls:=fun b ps q => ⟨#[],by rw [av (bJ q hn),q]; simp⟩
theorem Un.write (mu:Ef (H x)) (he:e = x ∨ H e = some (.own x)) (k:∀ b u,b ≠ e -> h.get? b = some u -> h'.get? b = some u) (heo:∃ u,h'.get? e = some u):Un fs ex H (upd H x o) h h':= by
 have hx:∀ b,H b = none -> b ≠ x:=fun b n z => by subst z; rw [n] at mu; exact mu
 have hb:∀ b,H b = none -> b ≠ e:=fun b n z => by
  subst z
  rcases he with r | r
  ·exact hx b n r
  ·rw [n] at r; cases r
 have hm:∀ b u,H b = some u -> ¬ Ef (some u) -> b ≠ x:=fun b u q nm z => by subst z; rw [q] at mu; exact nm mu
 refine ⟨fun b u q n _ _ => k b u (hb b n) q,fun b u q n _ _ => ⟨u.slots,k b u (hb b n) q⟩,fun b u q n _ => by rw [av (hx b n)]; exact n,fun b u q _ => ?_,
  fun b xs q => by rw [av (hm b _ q fun z => z)]; exact q,fun b u xs q => by rw [av (hm b _ q fun z => z)]; exact q,fun b ps q => ⟨#[],by rw [av (hm b _ q fun z => z),q]; simp⟩⟩
 by_cases hbe:b = e
 ·subst hbe; exact heo
 ·exact ⟨u,k b u hbe q⟩
end
def EZ (h:Heap) (H:Hp):List Addr:=(List.range h.objs.size).filter fun a => (H a).isSome
def ml (h:Heap) (H:Hp):Heap:=PySem.W.hideAll h (EZ h H)
theorem rX (h:Heap) (H:Hp):(ml h H).objs.size = h.objs.size:=PySem.W.hideAll_size _ _
theorem uM {h:Heap} {H:Hp} {b:Addr} {o:Obj} (e:h.get? b = some o) (n:H b = none):(ml h H).get? b = some o :=
 PySem.W.hideAll_get _ e fun hm => by
  have q:(H b).isSome = true:=(List.mem_filter.mp hm).2
  rw [n] at q; simp at q
theorem yE {h:Heap} {H:Hp} {b:Addr} {o:Obj} (e:(ml h H).get? b = some o):h.get? b = some o ∧ H b = none:= by
 have e':h.get? b = some o:=PySem.W.of_hideAll (EZ h H) e
 refine ⟨e',?_⟩
 cases q:H b with
 | none => rfl
 | some x =>
  have hm:b ∈ EZ h H:=List.mem_filter.mpr ⟨List.mem_range.mpr (Heap.lt_size e'),by simp [q]⟩
  have z:(ml h H).get? b = none:=PySem.W.hideAll_none (EZ h H) hm
  rw [z] at e; cases e
def zf (g h:Heap) (L:Addr):List (Addr × Obj):=(List.range h.objs.size).filterMap fun a => if a = L ∨ (g.get? a).isSome = true then none else (h.get? a).map fun o => (a,o)
def rest (g h:Heap) (L d:Addr):List (Addr × Obj):=(zf g h L).filter fun p => decide (p.1 ≠ d)
end L2
namespace L2
open PySem PySem.Spec PyProof.Rows
structure Mod (K:PySem.W.Frag) (mg:Str -> Option Value) (base:Heap):Prop where
 kin:K.In base
 glob:base.Ns mainGlobals mg
 blt:∃ mb,base.Ns builtinsNs mb ∧ ∀ x:Str,x ≠ "__name__" -> mb x = bootBuiltins x
 nolimit:base.NoLimit
structure Cx where
 prog:Program
 w:World
 K:PySem.W.Frag
 mg:Str -> Option Value
 base:Heap
 A:Around
 N:List Str
 s₀:Shared
 H₀:Hp
 env:Env
 outer:List Env
 stack:List Env
 ex:List Addr
 fn:Str -> Bool
 calm:Bool
 pn:List (Addr × Obj)
 xe:Value -> Shared -> Prop
def tL (l:List Env):List Addr:=l.filterMap (·.frame)
abbrev Cx.fs (X:Cx):List Addr:=tL X.outer
def tJ (sc:Scope) (x:Str):Prop:=sc.names.lookup x = some .local ∨ sc.names.lookup x = some .cell ∨ sc.names.lookup x = some .free
def Loc (sc:Scope) (x:Str):Prop:=sc.names.lookup x = some .local ∨ sc.names.lookup x = some .cell
def Look (env:Env) (h:Heap) (m:Str -> Option Value) (x:Str) (u:Value):Prop :=
 (env.kindOf x = some .local ∧ m x = some u) ∨ ((env.kindOf x = some .cell ∨ env.kindOf x = some .free) ∧ ∃ c,env.cells.lookup x = some c ∧ h.IsCell c (some u))
structure Cx.Ok (X:Cx):Prop where
 mod:Mod X.K X.mg X.base
 kind:X.env.scope.kind = .function
 glob:X.env.globals = mainGlobals
 blt:X.env.builtins = builtinsNs
 above:X.s₀.heap.objs.size ≤ X.env.locals
 inj:∀ x y c,X.env.cells.lookup x = some c -> X.env.cells.lookup y = some c -> x = y
 has:∀ x,(X.env.kindOf x = some .cell ∨ X.env.kindOf x = some .free) -> ∃ c,X.env.cells.lookup x = some c
 cab:∀ x c,X.fn x = true -> X.env.cells.lookup x = some c -> X.s₀.heap.objs.size ≤ c
 hd:X.calm = true -> X.A.handled = none
 frames:X.A.frames = some X.stack
 stk:X.stack = X.outer ∨ (X.stack = X.env :: X.outer ∧ X.env.frame = some X.env.locals)
 exf:∀ b ∈ X.ex,b ≠ X.env.locals ∧ ∀ x c,X.env.cells.lookup x = some c -> c ≠ b
 bs:∀ b o,X.base.get? b = some o -> X.s₀.heap.get? b = some o ∧ X.H₀ b = none
 bsz:X.base.objs.size ≤ X.s₀.heap.objs.size
 noex:∀ b o,X.base.get? b = some o -> b ∉ X.ex
 exfs:∀ b ∈ X.ex,b ∉ X.fs
 funs:X.s₀.heap.FunFrames X.base X.outer
 frf:∀ b ∈ X.fs,X.H₀ b = none
structure Inv (X:Cx) (pins:List (Addr × Obj)) (σ:List (Option V)) (H:Hp) (s:Shared):Prop where
 ok:X.Ok
 os:s.os = X.s₀.os
 bare:AllBare s.gens
 base:Un X.fs X.ex X.H₀ H X.s₀.heap s.heap
 loc:∃ m,s.heap.Ns X.env.locals m ∧ ∀ (i:Nat) (x:Str) (v:V),X.N[i]? = some x -> σ[i]? = some (some v) -> tJ X.env.scope x -> ∃ u,RelV v u ∧ Look X.env s.heap m x u
 cell:∀ x c,X.env.cells.lookup x = some c -> ∃ v,s.heap.IsCell c v
 free:H X.env.locals = none
 freeC:∀ x c,X.env.cells.lookup x = some c -> H c = none
 pin:∀ p ∈ X.pn ++ pins,s.heap.get? p.1 = some p.2 ∧ H p.1 = none ∧ p.1 ≠ X.env.locals ∧ p.1 ∉ X.fs ∧ ∀ v,p.2.data ≠ .cell v
 hok:iq X.prog X.w H s.heap
 len:σ.length = X.N.length
section
variable {X:Cx} {pins:List (Addr × Obj)} {σ:List (Option V)} {H H':Hp} {s:Shared} {h':Heap}
theorem Cx.Ok.nofr (ok:X.Ok) {b:Addr} {o:Obj} (e:X.base.get? b = some o):b ∉ X.fs:=fun hb => by
 have:=(ok.funs.mem hb).1
 rw [e] at this; cases this
theorem Inv.bs (I:Inv X pins σ H s):∀ b o,X.base.get? b = some o -> s.heap.get? b = some o ∧ H b = none:=fun b o e =>
 ⟨I.base.keep b o (I.ok.bs b o e).1 (I.ok.bs b o e).2 (I.ok.nofr e) (I.ok.noex b o e),I.base.free b o (I.ok.bs b o e).1 (I.ok.bs b o e).2 (I.ok.noex b o e)⟩
theorem Inv.bk (I:Inv X pins σ H s):∀ b o,X.base.get? b = some o -> s.heap.get? b = some o:=fun b o e => (I.bs b o e).1
theorem Inv.mod (I:Inv X pins σ H s):Mod X.K X.mg X.base:=I.ok.mod
theorem Inv.kIn (I:Inv X pins σ H s):X.K.In s.heap:=I.ok.mod.kin.keeps I.bk
theorem Inv.fr (I:Inv X pins σ H s):∃ m,Fr X.base X.env.locals s.heap m :=
 let ⟨m,hn,_⟩:=I.loc
 ⟨m,hn,I.bk,Nat.le_trans I.ok.bsz I.ok.above⟩
theorem Inv.lt (I:Inv X pins σ H s):X.env.locals < s.heap.objs.size:=let ⟨_,hn,_⟩:=I.loc; hn.lt
theorem Inv.sz (I:Inv X pins σ H s):X.s₀.heap.objs.size ≤ s.heap.objs.size:=Nat.le_trans I.ok.above (Nat.le_of_lt I.lt)
theorem Inv.nofs (I:Inv X pins σ H s) {a:Addr} (h:s.heap.objs.size ≤ a):a ∉ X.fs:=fun hb => by
 obtain ⟨_,o,ho,_⟩:=I.ok.funs.mem hb
 exact absurd (Nat.lt_of_lt_of_le (Heap.lt_size ho) (Nat.le_trans I.sz h)) (Nat.lt_irrefl _)
theorem Inv.cne (I:Inv X pins σ H s):∀ x c,X.env.cells.lookup x = some c -> c ≠ X.env.locals:=fun x c e z => by
 obtain ⟨v,o,ho,hd⟩:=I.cell x c e
 obtain ⟨m,⟨o',es,ep,ho',hd',_⟩,_⟩:=I.loc
 rw [z,ho'] at ho; cases ho; rw [hd'] at hd; cases hd
theorem Inv.funs (I:Inv X pins σ H s):s.heap.FunFrames X.base X.outer:= by
 have all:∀ (l:List Env),(∀ b ∈ tL l,b ∈ X.fs) -> X.s₀.heap.FunFrames X.base l -> s.heap.FunFrames X.base l:= by
  intro l
  induction l with
  | nil => intro _ _; trivial
  | cons env r ih =>
   intro hs hl
   obtain ⟨hk,⟨L,o,hf,hn,ho,hd⟩,hr⟩:=hl
   have hL:L ∈ X.fs:=hs L (by unfold tL; rw [List.filterMap_cons,hf]; exact List.mem_cons_self)
   obtain ⟨sl,e⟩:=I.base.slot L o ho (I.ok.frf L hL) hL fun z => I.ok.exfs L z hL
   exact ⟨hk,⟨L,_,hf,hn,e,hd⟩,ih (fun b hb => hs b (by unfold tL; rw [List.filterMap_cons,hf]; exact List.mem_cons_of_mem _ hb)) hr⟩
 exact all X.outer (fun _ hb => hb) I.ok.funs
theorem Inv.stack (I:Inv X pins σ H s):s.heap.FunFrames X.base X.stack:= by
 rcases I.ok.stk with e | ⟨e,hf⟩
 ·rw [e]; exact I.funs
 ·rw [e]
  obtain ⟨m,hn,_⟩:=I.loc
  refine .cons (by rw [I.ok.kind]; decide) hf hn ?_ I.funs
  exact Heap.get?_none_of_le (Nat.le_trans I.ok.bsz I.ok.above)
theorem Inv.stkSub (I:Inv X pins σ H s):∀ b ∈ tL X.stack,b ∈ X.env.locals :: X.fs:=fun b hb => by
 rcases I.ok.stk with e | ⟨e,hf⟩
 ·rw [e] at hb; exact List.mem_cons_of_mem _ hb
 ·rw [e] at hb
  unfold tL at hb
  rw [List.filterMap_cons,hf] at hb
  exact hb
theorem Inv.stkFree (I:Inv X pins σ H s):∀ b ∈ tL X.stack,H b = none:=fun b hb => by
 rcases List.mem_cons.mp (I.stkSub b hb) with e | hb
 ·rw [e]; exact I.free
 ·obtain ⟨_,o,ho,_⟩:=I.ok.funs.mem hb
  exact I.base.free b o ho (I.ok.frf b hb) fun z => I.ok.exfs b z hb
theorem Inv.step {g':Array GenState} {t':Nat} {d':Drawn} {ch:List Addr} (I:Inv X pins σ H s)
  (hch:∀ b ∈ ch,(b ∈ X.ex ∨ X.s₀.heap.objs.size ≤ b) ∧ b ≠ X.env.locals ∧ (∀ x c,X.env.cells.lookup x = some c -> c ≠ b) ∧ ∀ p ∈ X.pn ++ pins,p.1 ≠ b)
  (keep:∀ b o,b ≠ X.env.locals -> b ∉ X.fs -> b ∉ ch -> s.heap.get? b = some o -> H b = none -> h'.get? b = some o)
  (slot:∀ b o,b ≠ X.env.locals -> b ∈ X.fs -> b ∉ ch -> s.heap.get? b = some o -> H b = none -> ∃ sl,h'.get? b = some { o with slots:=sl }) (free:∀ b o,b ∉ ch -> s.heap.get? b = some o -> H b = none -> H' b = none)
  (there:∀ b o,b ∉ ch -> s.heap.get? b = some o -> ∃ o',h'.get? b = some o')
  (tups:∀ b xs,H b = some (.tup xs) -> H' b = some (.tup xs)) (frzs:∀ b o u,H b = some (.frz o u) -> H' b = some (.frz o u)) (tbls:∀ b ps,H b = some (.tbl ps) -> ∃ more,H' b = some (.tbl (ps ++ more)))
  (ns:∀ m,s.heap.Ns X.env.locals m -> h'.Ns X.env.locals m) (hok:iq X.prog X.w H' h') (hg:AllBare g') :
  Inv X pins σ H' { s with heap:=h',gens:=g',drawn:=d',toks:=t' }:= by
 have neL:∀ b o,X.s₀.heap.get? b = some o -> b ≠ X.env.locals:=fun b o e => Nat.ne_of_lt (Nat.lt_of_lt_of_le (Heap.lt_size e) I.ok.above)
 have neC:∀ b o,X.s₀.heap.get? b = some o -> b ∉ X.ex -> b ∉ ch:=fun b o e hx hb => by
  rcases (hch b hb).1 with z | z
  ·exact hx z
  ·exact absurd (Nat.lt_of_lt_of_le (Heap.lt_size e) z) (Nat.lt_irrefl _)
 have cellK:∀ x c,X.env.cells.lookup x = some c -> ∀ v,s.heap.IsCell c v -> h'.IsCell c v:=fun x c e v ⟨o,ho,hd⟩ => by
  have nch:c ∉ ch:=fun z => (hch c z).2.2.1 x c e rfl
  by_cases hc:c ∈ X.fs
  ·obtain ⟨sl,q⟩:=slot c o (I.cne x c e) hc nch ho (I.freeC x c e)
   exact ⟨_,q,hd⟩
  ·exact ⟨o,keep c o (I.cne x c e) hc nch ho (I.freeC x c e),hd⟩
 refine ⟨I.ok,I.os,hg,⟨fun b o e n hb hx => ?_,fun b o e n hb hx => ?_,fun b o e n hx => ?_,fun b o e hx => ?_,fun b xs e => tups b xs (I.base.tups b xs e),fun b o xs e => frzs b o xs (I.base.frzs b o xs e),fun b ps e => ?_⟩,?_,fun x c e => ?_,?_,fun x c e => ?_,fun p hp => ?_,hok,I.len⟩
 ·exact keep b o (neL b o e) hb (neC b o e hx) (I.base.keep b o e n hb hx) (I.base.free b o e n hx)
 ·obtain ⟨sl,e1⟩:=I.base.slot b o e n hb hx
  obtain ⟨sl',e2⟩:=slot b _ (neL b o e) hb (neC b o e hx) e1 (I.base.free b o e n hx)
  exact ⟨sl',e2⟩
 ·obtain ⟨o',e1⟩:=I.base.there b o e hx
  exact free b o' (neC b o e hx) e1 (I.base.free b o e n hx)
 ·obtain ⟨o',e1⟩:=I.base.there b o e hx
  exact there b o' (neC b o e hx) e1
 ·obtain ⟨m1,e1⟩:=I.base.tbls b ps e
  obtain ⟨m2,e2⟩:=tbls b _ e1
  exact ⟨m1 ++ m2,by rw [e2,Array.append_assoc]⟩
 ·obtain ⟨m,hn,hl⟩:=I.loc
  refine ⟨m,ns m hn,fun i x v e1 e2 e3 => ?_⟩
  obtain ⟨u,r,l⟩:=hl i x v e1 e2 e3
  refine ⟨u,r,?_⟩
  rcases l with l | ⟨k,c,e,z⟩
  ·exact .inl l
  ·exact .inr ⟨k,c,e,cellK x c e _ z⟩
 ·obtain ⟨v,z⟩:=I.cell x c e
  exact ⟨v,cellK x c e v z⟩
 ·obtain ⟨m,⟨o,_,_,ho,_⟩,_⟩:=I.loc
  exact free _ o (fun z => (hch _ z).2.1 rfl) ho I.free
 ·obtain ⟨v,o,ho,hd⟩:=I.cell x c e
  exact free c o (fun z => (hch c z).2.2.1 x c e rfl) ho (I.freeC x c e)
 ·obtain ⟨e,n,ne,nf,d⟩:=I.pin p hp
  have nch:p.1 ∉ ch:=fun z => (hch p.1 z).2.2.2 p hp rfl
  exact ⟨keep p.1 p.2 ne nf nch e n,free p.1 p.2 nch e n,ne,nf,d⟩
theorem Inv.un {t':Nat} (I:Inv X pins σ H s) (u:Un X.fs [] H H' s.heap h') (hok:iq X.prog X.w H' h'):Inv X pins σ H' { s with heap:=h',toks:=t' }:= by
 obtain ⟨m,⟨o,es,ep,ho,r⟩,_⟩:=id I.loc
 obtain ⟨sl,hL⟩:=u.any ho I.free (by simp)
 exact I.step (g':=s.gens) (d':=s.drawn) (ch:=[]) (fun _ z => nomatch z) (fun b o _ hb _ e n => u.keep b o e n hb (by simp)) (fun b o _ hb _ e n => u.slot b o e n hb (by simp)) (fun b o _ e n => u.free b o e n (by simp)) (fun b o _ e => u.there b o e (by simp)) u.tups u.frzs u.tbls (fun m' hm => by
  obtain ⟨o',es',ep',ho',r'⟩:=hm
  rw [ho] at ho'; cases ho'
  exact ⟨_,es',ep',hL,r'⟩) hok I.bare
theorem Inv.call {g':Array GenState} {t':Nat} {d':Drawn} {ch:List Addr} (I:Inv X pins σ H s) (u:Un (tL X.stack) ch H H' s.heap h') (hok:iq X.prog X.w H' h') (hg:AllBare g')
  (hch:∀ b ∈ ch,(b ∈ X.ex ∨ X.s₀.heap.objs.size ≤ b) ∧ b ≠ X.env.locals ∧ (∀ x c,X.env.cells.lookup x = some c -> c ≠ b) ∧ ∀ p ∈ X.pn ++ pins,p.1 ≠ b) :
  Inv X pins σ H' { s with heap:=h',gens:=g',drawn:=d',toks:=t' }:= by
 obtain ⟨m,⟨o,es,ep,ho,r⟩,_⟩:=id I.loc
 obtain ⟨sl,hL⟩:=u.any ho I.free fun z => (hch _ z).2.1 rfl
 exact I.step (ch:=ch) hch (fun b o hL hb hc e n => u.keep b o e n (fun z => (List.mem_cons.mp (I.stkSub b z)).elim hL hb) hc) (fun b o _ _ hc e n => u.any e n hc) (fun b o hc e n => u.free b o e n hc) (fun b o hc e => u.there b o e hc) u.tups u.frzs u.tbls (fun m' hm => by
  obtain ⟨o',es',ep',ho',r'⟩:=hm
  rw [ho] at ho'; cases ho'
  exact ⟨_,es',ep',hL,r'⟩) hok hg
theorem Inv.turned {t':Nat} {it:Addr} (I:Inv X pins σ H s) (k:∀ b o,b ≠ it -> s.heap.get? b = some o -> h'.get? b = some o) (hn:H it = none) (hL:it ≠ X.env.locals)
  (h1:it ∈ X.ex ∨ X.s₀.heap.objs.size ≤ it) (h2:∀ x c,X.env.cells.lookup x = some c -> c ≠ it) (h3:∀ p ∈ X.pn ++ pins,p.1 ≠ it):Inv X pins σ H { s with heap:=h',toks:=t' }:= by
 have nit:∀ b u,H b = some u -> b ≠ it:=fun b u e z => by rw [z,hn] at e; cases e
 refine I.step (g':=s.gens) (d':=s.drawn) (ch:=[it]) (fun b hb => ?_) (fun b o _ _ hc e _ => k b o (fun z => hc (by simp [z])) e) (fun b o _ _ hc e _ => ⟨o.slots,k b o (fun z => hc (by simp [z])) e⟩) (fun _ _ _ _ n => n)
  (fun b o hc e => ⟨o,k b o (fun z => hc (by simp [z])) e⟩) (fun _ _ e => e) (fun _ _ _ e => e) (fun b ps e => ⟨#[],by rw [e]; simp⟩) (fun m hm => ?_) (fun b u e => ?_) I.bare
 ·have e:b = it:=by simpa using hb
  subst e
  exact ⟨h1,hL,h2,h3⟩
 ·obtain ⟨o,es,ep,ho,r⟩:=hm
  exact ⟨o,es,ep,k _ o (Ne.symm hL) ho,r⟩
 ·refine (I.hok b u e).stay (fun c v hc q => k c v ?_ q) (fun _ q => q) fun _ _ q => q
  rcases hc with z | z
  ·rw [z]; exact nit b u e
  ·exact nit c _ z
theorem Inv.tok (I:Inv X pins σ H s) (t:Nat):Inv X pins σ H { s with toks:=t }:=I.un (h':=s.heap) (t':=t) Un.refl I.hok
theorem Inv.kept {t':Nat} (I:Inv X pins σ H s) (k:∀ b u,s.heap.get? b = some u -> h'.get? b = some u):Inv X pins σ H { s with heap:=h',toks:=t' }:=I.un (Un.kept k) (I.hok.kept k)
theorem Inv.laid {a:Addr} {o:HO} {t':Nat} (I:Inv X pins σ H s) (k:∀ b u,s.heap.get? b = some u -> h'.get? b = some u) (hp:s.heap.objs.size ≤ a) (new:bX X.prog X.w (upd H a o) h' a o) :
  Inv X pins σ (upd H a o) { s with heap:=h',toks:=t' }:=I.un (Un.laid k hp (I.hok.fresh hp)) (I.hok.laid k hp new)
theorem Inv.write {x e:Addr} {o:HO} {t':Nat} (I:Inv X pins σ H s) (mu:Ef (H x)) (he:e = x ∨ H e = some (.own x)) (k:∀ b u,b ≠ e -> s.heap.get? b = some u -> h'.get? b = some u) (heo:∃ u,h'.get? e = some u)
  (new:bX X.prog X.w (upd H x o) h' x o):Inv X pins σ (upd H x o) { s with heap:=h',toks:=t' }:=I.un (Un.write mu he k heo) (I.hok.write mu he k heo new)
theorem Inv.weak {σ':List (Option V)} (I:Inv X pins σ H s) (hl:σ'.length = σ.length) (w:∀ (i:Nat) v,σ'[i]? = some (some v) -> σ[i]? = some (some v)):Inv X pins σ' H s :=
 ⟨I.ok,I.os,I.bare,I.base,let ⟨m,hn,hl'⟩:=I.loc; ⟨m,hn,fun i x v e1 e2 e3 => hl' i x v e1 (w i v e2) e3⟩,I.cell,I.free,I.freeC,I.pin,I.hok,hl.trans I.len⟩
theorem Inv.pins_of {pins':List (Addr × Obj)} (I:Inv X pins σ H s) (h:∀ p ∈ pins',s.heap.get? p.1 = some p.2 ∧ H p.1 = none ∧ p.1 ≠ X.env.locals ∧ p.1 ∉ X.fs ∧ ∀ v,p.2.data ≠ .cell v):Inv X pins' σ H s :=
 ⟨I.ok,I.os,I.bare,I.base,I.loc,I.cell,I.free,I.freeC,fun p hp => (List.mem_append.mp hp).elim (fun z => I.pin p (List.mem_append_left _ z)) (h p),I.hok,I.len⟩
theorem nK {N:List Str} (hN:N.Nodup) {i j:Nat} {x:Str} (a:N[i]? = some x) (b:N[j]? = some x):i = j:= by
 obtain ⟨h1,e1⟩:=List.getElem?_eq_some_iff.mp a
 obtain ⟨h2,e2⟩:=List.getElem?_eq_some_iff.mp b
 exact (List.getElem_inj hN).mp (e1.trans e2.symm)
theorem lJ {M:Model} {A:Around} {E:Value -> Shared -> Prop} {i:Nat} {x:Str} {v:V} {u:Value} {Q:Unit -> Shared -> Prop} (I:Inv X pins σ H s) (hN:X.N.Nodup) (hi:X.N[i]? = some x) (hx:Loc X.env.scope x) (r:RelV v u)
  (h:∀ s',Inv X pins (σ.set i (some v)) H s' -> (∃ a,Heap.SameBut a s.heap s'.heap ∧ (a = X.env.locals ∨ X.env.cells.lookup x = some a)) -> Q () s') (hf:X.fn x = true ∨ X.env.scope.names.lookup x = some .local:=by first | exact .inl rfl | exact .inr rfl | assumption):wpAny M A (storeName X.env x u) Q E s:= by
 obtain ⟨m,hn,hl⟩:=id I.loc
 have hcls:(X.env.scope.kind == .class || (X.env.scope.kind == .module && X.env.locals != X.env.globals)) = false:=by rw [I.ok.kind]; rfl
 have hiσ:i < σ.length:=by rw [I.len]; exact (List.getElem?_eq_some_iff.mp hi).1
 have cne:=I.cne
 have tracked:∀ {a:Addr} {h':Heap},(∃ o,s.heap.get? a = some o ∧ H a = none) -> Heap.SameBut a s.heap h' -> iq X.prog X.w H h':=fun {a h'} ha hs b ob e => by
  obtain ⟨_,_,hfree⟩:=ha
  refine (I.hok b ob e).stay (fun c w' hc q => (hs.2 c ?_).trans q) (fun _ q => q) fun _ _ q => q
  rintro rfl
  rcases hc with rfl | hc
  ·rw [hfree] at e; cases e
  ·rw [hfree] at hc; cases hc
 rcases hx with hk | hk
 ·refine wpAny_storeName_local hk hn (fun h' hn' hs => ?_) hcls
  obtain ⟨oL,_,_,hoL,_⟩:=id hn
  refine h _ ⟨I.ok,I.os,I.bare,⟨fun b o e n hb hx => ?_,fun b o e n hb hx => ?_,I.base.free,fun b o e hx => ?_,I.base.tups,I.base.frzs,I.base.tbls⟩,⟨_,hn',fun j y v' e1 e2 e3 => ?_⟩,fun y c e => ?_,I.free,I.freeC,fun p hp => ?_,tracked ⟨oL,hoL,I.free⟩ hs,by simpa using I.len⟩ ⟨_,hs,.inl rfl⟩
  ·exact (hs.2 b (Nat.ne_of_lt (Nat.lt_of_lt_of_le (Heap.lt_size e) I.ok.above))).trans (I.base.keep b o e n hb hx)
  ·obtain ⟨sl,e1⟩:=I.base.slot b o e n hb hx
   exact ⟨sl,(hs.2 b (Nat.ne_of_lt (Nat.lt_of_lt_of_le (Heap.lt_size e) I.ok.above))).trans e1⟩
  ·obtain ⟨o',e1⟩:=I.base.there b o e hx
   exact ⟨o',(hs.2 b (Nat.ne_of_lt (Nat.lt_of_lt_of_le (Heap.lt_size e) I.ok.above))).trans e1⟩
  ·by_cases hj:j = i
   ·subst hj
    rw [hi] at e1; cases e1
    rw [List.getElem?_set_self hiσ] at e2
    cases e2
    exact ⟨u,r,.inl ⟨hk,by simp⟩⟩
   ·rw [List.getElem?_set_ne (Ne.symm hj)] at e2
    obtain ⟨u',r',q⟩:=hl j y v' e1 e2 e3
    refine ⟨u',r',?_⟩
    rcases q with ⟨k,e⟩ | ⟨k,c,e,z⟩
    ·refine .inl ⟨k,?_⟩
     have:y ≠ x:=fun e => hj (nK hN e1 (e ▸ hi))
     simp [this,e]
    ·exact .inr ⟨k,c,e,z.sameBut hs (cne y c e)⟩
  ·obtain ⟨w',z⟩:=I.cell y c e
   exact ⟨w',z.sameBut hs (cne y c e)⟩
  ·obtain ⟨e,n,ne,nf,d⟩:=I.pin p hp
   exact ⟨(hs.2 p.1 ne).trans e,n,ne,nf,d⟩
 ·have hfn:X.fn x = true:= by
   rcases hf with z | z
   ·exact z
   ·rw [z] at hk; cases hk
  obtain ⟨c,hc⟩:=I.ok.has x (.inl hk)
  obtain ⟨w',z⟩:=I.cell x c hc
  refine wpAny_storeName_cell I.ok.kind hk hc z (fun h' hc' hs => ?_)
  obtain ⟨oc,hoc,hocd⟩:=id z
  refine h { s with heap:=h' } ⟨I.ok,I.os,I.bare,⟨fun b o e n hb hx => ?_,fun b o e n hb hx => ?_,I.base.free,fun b o e hx => ?_,I.base.tups,I.base.frzs,I.base.tbls⟩,⟨m,hn.sameBut hs (Ne.symm (cne x c hc)),fun j y v' e1 e2 e3 => ?_⟩,fun y c' e => ?_,I.free,I.freeC,fun p hp => ?_,tracked ⟨oc,hoc,I.freeC x c hc⟩ hs,by simpa using I.len⟩ ⟨c,hs,.inr hc⟩
  ·exact (hs.2 b (Nat.ne_of_lt (Nat.lt_of_lt_of_le (Heap.lt_size e) (I.ok.cab x c hfn hc)))).trans (I.base.keep b o e n hb hx)
  ·obtain ⟨sl,e1⟩:=I.base.slot b o e n hb hx
   exact ⟨sl,(hs.2 b (Nat.ne_of_lt (Nat.lt_of_lt_of_le (Heap.lt_size e) (I.ok.cab x c hfn hc)))).trans e1⟩
  ·obtain ⟨o',e1⟩:=I.base.there b o e hx
   exact ⟨o',(hs.2 b (Nat.ne_of_lt (Nat.lt_of_lt_of_le (Heap.lt_size e) (I.ok.cab x c hfn hc)))).trans e1⟩
  ·by_cases hj:j = i
   ·subst hj
    rw [hi] at e1; cases e1
    rw [List.getElem?_set_self hiσ] at e2
    cases e2
    exact ⟨u,r,.inr ⟨.inl hk,c,hc,hc'⟩⟩
   ·rw [List.getElem?_set_ne (Ne.symm hj)] at e2
    obtain ⟨u',r',q⟩:=hl j y v' e1 e2 e3
    refine ⟨u',r',?_⟩
    rcases q with q | ⟨k,c',e,z'⟩
    ·exact .inl q
    ·refine .inr ⟨k,c',e,z'.sameBut hs ?_⟩
     rintro rfl
     exact hj (nK hN e1 (I.ok.inj _ _ _ e hc ▸ hi))
  ·by_cases hcc:c' = c
   ·subst hcc; exact ⟨_,hc'⟩
   ·obtain ⟨w2,z2⟩:=I.cell y c' e
    exact ⟨w2,z2.sameBut hs hcc⟩
  ·obtain ⟨e,n,ne,nf,d⟩:=I.pin p hp
   refine ⟨(hs.2 p.1 ?_).trans e,n,ne,nf,d⟩
   intro q
   rw [q,hoc] at e
   have q':oc = p.2:=Option.some.inj e
   exact d w' (by rw [<- q']; exact hocd)
theorem iu {M:Model} {A:Around} {E:Value -> Shared -> Prop} {i:Nat} {x:Str} {v:V} {u:Value} {Q:Unit -> Shared -> Prop} (I:Inv X pins σ H s) (hN:X.N.Nodup) (hi:X.N[i]? = some x) (hx:Loc X.env.scope x) (r:RelV v u)
  (h:∀ s',Inv X pins (σ.set i (some v)) H s' -> Q () s') (hf:X.fn x = true ∨ X.env.scope.names.lookup x = some .local:=by first | exact .inl rfl | exact .inr rfl | assumption):wpAny M A (storeName X.env x u) Q E s :=
 lJ I hN hi hx r (fun s' I' _ => h s' I') hf
theorem Inv.call' {s':Shared} {ch:List Addr} (I:Inv X pins σ H s) (ho:s'.os = s.os) (u:Un (tL X.stack) ch H H' s.heap s'.heap) (hok:iq X.prog X.w H' s'.heap) (hg:AllBare s'.gens)
  (hch:∀ b ∈ ch,(b ∈ X.ex ∨ X.s₀.heap.objs.size ≤ b) ∧ b ≠ X.env.locals ∧ (∀ x c,X.env.cells.lookup x = some c -> c ≠ b) ∧ ∀ p ∈ X.pn ++ pins,p.1 ≠ b):Inv X pins σ H' s':= by
 obtain ⟨h',g',d',t',o'⟩:=s'
 have e:o' = s.os:=ho
 subst e
 exact I.call (g':=g') (t':=t') (d':=d') u hok hg hch
end
abbrev XK:=Value -> Option Addr -> Hp -> Prop
abbrev St:=List (Option V)
abbrev VK:=V -> Hp -> Prop
abbrev TE:=St -> Hp -> VK -> Prop
abbrev TT:=St -> Hp -> (Bool -> Hp -> Prop) -> Prop
abbrev TA:=St -> Hp -> (List V -> Hp -> Prop) -> Prop
structure Ends where
 nx:St -> Hp -> Prop
 rt:VK
 bk:St -> Hp -> Prop:=fun _ _ => False
 ct:St -> Hp -> Prop:=fun _ _ => False
abbrev TS:=Ends -> St -> Hp -> Prop
def EP (X:Cx) (pins:List (Addr × Obj)) (σ:St) (Q:VK) (u:Value) (s':Shared):Prop:=∃ v H',Inv X pins σ H' s' ∧ RelV v u ∧ Q v H'
def TP (X:Cx) (pins:List (Addr × Obj)) (σ:St) (Q:Bool -> Hp -> Prop) (b:Bool) (s':Shared):Prop:=∃ H',Inv X pins σ H' s' ∧ Q b H'
def AP (X:Cx) (pins:List (Addr × Obj)) (σ:St) (Q:List V -> Hp -> Prop) (us:List Value) (s':Shared):Prop:=∃ vs H',Inv X pins σ H' s' ∧ Vals vs us ∧ Q vs H'
def SP (X:Cx) (pins:List (Addr × Obj)) (D:Ends) (f:Flow) (s':Shared):Prop :=
 match f with
 | .next => ∃ σ' H',Inv X pins σ' H' s' ∧ D.nx σ' H'
 | .brk => ∃ σ' H',Inv X pins σ' H' s' ∧ D.bk σ' H'
 | .cont => ∃ σ' H',Inv X pins σ' H' s' ∧ D.ct σ' H'
 | .ret u => ∃ v σ' H',Inv X pins σ' H' s' ∧ RelV v u ∧ D.rt v H'
def PE (X:Cx) (e:Expr) (t:TE):Prop :=
 ∀ (pins:List (Addr × Obj)) (s:Shared) (σ:St) (H:Hp) (Q:VK),Inv X pins σ H s -> t σ H Q -> wpAny (model X.prog X.w) X.A (eval e X.env) (EP X pins σ Q) X.xe s
def PT (X:Cx) (e:Expr) (t:TT):Prop :=
 ∀ (pins:List (Addr × Obj)) (s:Shared) (σ:St) (H:Hp) (Q:Bool -> Hp -> Prop),Inv X pins σ H s -> t σ H Q -> wpAny (model X.prog X.w) X.A (isTrue e X.env (eval e X.env)) (TP X pins σ Q) X.xe s
def PW (X:Cx) (e:Expr) (t:TT):Prop :=
 ∀ (whole:Sem Value) (pins:List (Addr × Obj)) (s:Shared) (σ:St) (H:Hp) (Q:Bool -> Hp -> Prop),Inv X pins σ H s -> t σ H Q -> wpAny (model X.prog X.w) X.A (isTrue e X.env whole) (TP X pins σ Q) X.xe s
theorem PW.pt {X:Cx} {e:Expr} {t:TT} (h:PW X e t):PT X e t:=h _
def PA (X:Cx) (es:List Expr) (t:TA):Prop :=
 ∀ (pos:Pos) (pins:List (Addr × Obj)) (s:Shared) (σ:St) (H:Hp) (Q:List V -> Hp -> Prop),Inv X pins σ H s -> t σ H Q -> wpAny (model X.prog X.w) X.A (spliced (backTo pos (starEach es X.env))) (AP X pins σ Q) X.xe s
def PS (X:Cx) (st:Stmt) (t:TS):Prop :=
 ∀ (pins:List (Addr × Obj)) (s:Shared) (σ:St) (H:Hp) (D:Ends),Inv X pins σ H s -> t D σ H -> wpAny (model X.prog X.w) X.A (exec st X.env) (SP X pins D) X.xe s
def pw (X:Cx) (st:List Stmt) (t:TS):Prop :=
 ∀ (pins:List (Addr × Obj)) (s:Shared) (σ:St) (H:Hp) (D:Ends),Inv X pins σ H s -> t D σ H -> wpAny (model X.prog X.w) X.A (execs st X.env) (SP X pins D) X.xe s
theorem bj {α:Type} {t:Sem α} {Q Q':α -> Shared -> Prop} {M:Model} {A:Around} {E:Value -> Shared -> Prop} {s:Shared} (h:wpAny M A t Q E s) (hQ:∀ a s,Q a s -> Q' a s):wpAny M A t Q' E s:=wpAny_mono h hQ fun _ _ x => x
end L2
namespace L2
open PySem PySem.Spec PyProof.Rows
section
variable {X:Cx}
theorem bin {a b:Expr} {ta tb:TE} (ha:PE X a ta) (hb:PE X b tb) {pins:List (Addr × Obj)} {s:Shared} {σ:St} {H:Hp} {R:V -> V -> Hp -> Prop} (I:Inv X pins σ H s) (h:ta σ H fun x H1 => tb σ H1 fun y H2 => R x y H2)
  {α:Type} {Q:α -> Shared -> Prop} {f:Value -> Value -> Sem α}
  (hf:∀ v u s2 x y H2,Inv X pins σ H2 s2 -> RelV x v -> RelV y u -> R x y H2 -> wpAny (model X.prog X.w) X.A (f v u) Q X.xe s2) :
  wpAny (model X.prog X.w) X.A (eval a X.env) (fun v s₁ => wpAny (model X.prog X.w) X.A (eval b X.env) (fun u s₂ => wpAny (model X.prog X.w) X.A (f v u) Q X.xe s₂) X.xe s₁) X.xe s:= by
 refine bj (ha pins s σ H _ I h) fun v s1 ⟨x,H1,I1,r1,q1⟩ => ?_
 refine bj (hb pins s1 σ H1 _ I1 q1) fun u s2 ⟨y,H2,I2,r2,q2⟩ => ?_
 exact hf v u s2 x y H2 I2 r1 r2 q2
def F5 (i:Nat):TE:=fun σ H Q => ∃ v,σ[i]? = some (some v) ∧ Q v H
def tC (v:V):TE:=fun _ H Q => Q v H
theorem eO {i:Nat} {x:Str} {pos:Pos} (hN:X.N[i]? = some x) (hv:tJ X.env.scope x) (hd:(x == ("__debug__":Str)) = false:=by decide) (hcd:(x == ("__classdict__":Str)) = false:=by decide):PE X (.Name x pos) (F5 i):= by
 intro pins s σ H Q I h
 obtain ⟨v,e,h⟩:=h
 obtain ⟨m,hn,hl⟩:=I.loc
 obtain ⟨u,r,l⟩:=hl i x v hN e hv
 have fin:EP X pins σ Q u s:=⟨v,H,I,r,h⟩
 rcases l with ⟨hk,hm⟩ | ⟨hk,c,hc,hcell⟩
 ·exact wpAny_Name (wpAny_loadName_local I.ok.kind hk hn hm fin) hd
 ·rcases hk with hk | hk
  ·exact wpAny_Name (wpAny_loadName_cell I.ok.kind hk hc hcell fin) hd
  ·exact wpAny_Name (wpAny_loadName_free I.ok.kind hk hc hcell fin hcd) hd
theorem u4 {i j pos}:PE X (.Constant (.int i) j pos) (tC (.int i)):=fun _ _ _ H _ I h => wpAny_Constant_int ⟨.int i,H,I.tok _,⟨_,rfl⟩,h⟩
theorem Di {b j pos}:PE X (.Constant (.bool b) j pos) (tC (.bl b)):=fun _ _ _ H _ I h => Constant_bool ⟨.bl b,H,I,rfl,h⟩
def Gl (X:Cx) (x:Str):Prop:=X.env.kindOf x = some .globalImplicit
theorem qL {E:Value -> Shared -> Prop} {pins:List (Addr × Obj)} {s:Shared} {σ:St} {H:Hp} {x:Str} {u:Value} {pos:Pos} {Q:Value -> Shared -> Prop} (I:Inv X pins σ H s) (hg:Gl X x) (hm:X.mg x = some u) (h:Q u s)
  (hd:(x == ("__debug__":Str)) = false:=by decide):wpAny (model X.prog X.w) X.A (eval (.Name x pos) X.env) Q E s :=
 Calls.Name_function_global I.ok.kind hg (Calls.loadGlobal_global (by rw [I.ok.glob]; exact I.mod.glob.keeps I.bk) hm h) hd
theorem fL {E:Value -> Shared -> Prop} {pins:List (Addr × Obj)} {s:Shared} {σ:St} {H:Hp} {x:Str} {u:Value} {pos:Pos} {Q:Value -> Shared -> Prop} (I:Inv X pins σ H s) (hg:Gl X x) (hm:X.mg x = none) (hv:bootBuiltins x = some u) (h:Q u s)
  (hn:x ≠ "__name__":=by decide) (hd:(x == ("__debug__":Str)) = false:=by decide):wpAny (model X.prog X.w) X.A (eval (.Name x pos) X.env) Q E s:= by
 obtain ⟨mb,h1,h2⟩:=I.mod.blt
 exact Calls.Name_function_global I.ok.kind hg (Calls.loadGlobal_builtin (by rw [I.ok.glob]; exact I.mod.glob.keeps I.bk) hm (by rw [I.ok.blt]; exact h1.keeps I.bk) ((h2 x hn).trans hv) h) hd
theorem yk {x:Str} {v:V} {u:Value} {pos:Pos} (hg:Gl X x) (hm:X.mg x = some u) (r:RelV v u) (hd:(x == ("__debug__":Str)) = false:=by decide):PE X (.Name x pos) (tC v) :=
 fun _ _ _ H _ I h => qL I hg hm ⟨v,H,I,r,h⟩ hd
theorem xW {x:Str} {v:V} {u:Value} {pos:Pos} (hg:Gl X x) (hm:X.mg x = none) (hv:bootBuiltins x = some u) (r:RelV v u) (hn:x ≠ "__name__":=by decide) (hd:(x == ("__debug__":Str)) = false:=by decide):PE X (.Name x pos) (tC v) :=
 fun _ _ _ H _ I h => fL I hg hm hv ⟨v,H,I,r,h⟩ hn hd
variable {a b:Expr} {ta tb:TE} {pos:Pos}
def PC (X:Cx) (op:CmpOp) (a b:Expr) (t:TE):Prop :=
 ∀ (pins:List (Addr × Obj)) (s:Shared) (σ:St) (H:Hp) (Q:VK),Inv X pins σ H s -> t σ H Q ->
  wpAny (model X.prog X.w) X.A (eval a X.env) (fun v s₁ => wpAny (model X.prog X.w) X.A (eval b X.env) (fun u s₂ => wpAny (model X.prog X.w) X.A (compareOp op v u) (EP X pins σ Q) X.xe s₂) X.xe s₁) X.xe s
variable {tA tB':TT} {rest:List Expr}
def Fy (t u:TT):TT:=fun σ H Q => t σ H fun c H1 => if c = true then u σ H1 Q else Q false H1
def Gr (t u:TT):TT:=fun σ H Q => t σ H fun c H1 => if c = true then Q true H1 else u σ H1 Q
def FX (t:TT):TT:=fun σ H Q => t σ H fun c H1 => Q (!c) H1
theorem y4 (ha:PT X a tA):PW X (.BoolOp .And [a] pos) tA:= by
 intro wh pins s σ H Q I h
 refine isTrue_and (bj (ha pins s σ H Q I h) fun c s1 e => ?_)
 cases c with
 | true => exact isTrue_and_nil e
 | false => exact e
theorem BX (ha:PT X a tA):PW X (.BoolOp .Or [a] pos) tA:= by
 intro wh pins s σ H Q I h
 refine isTrue_or (bj (ha pins s σ H Q I h) fun c s1 e => ?_)
 cases c with
 | false => exact isTrue_or_nil e
 | true => exact e
theorem Ck (ha:PT X a tA) (hb:PW X (.BoolOp .And (b :: rest) pos) tB'):PW X (.BoolOp .And (a :: b :: rest) pos) (Fy tA tB'):= by
 intro wh pins s σ H Q I h
 refine isTrue_and (bj (ha pins s σ H _ I h) fun c s1 ⟨H1,I1,q1⟩ => ?_)
 cases c with
 | true => exact hb wh pins s1 σ H1 Q I1 q1
 | false => exact ⟨H1,I1,q1⟩
theorem DN (ha:PT X a tA) (hb:PW X (.BoolOp .Or (b :: rest) pos) tB'):PW X (.BoolOp .Or (a :: b :: rest) pos) (Gr tA tB'):= by
 intro wh pins s σ H Q I h
 refine isTrue_or (bj (ha pins s σ H _ I h) fun c s1 ⟨H1,I1,q1⟩ => ?_)
 cases c with
 | true => exact ⟨H1,I1,q1⟩
 | false => exact hb wh pins s1 σ H1 Q I1 q1
theorem Bo (ha:PT X a tA):PT X (.UnaryOp .Not a pos) (FX tA):= by
 intro pins s σ H Q I h
 exact isTrue_not (ha pins s σ H (fun c H1 => Q (!c) H1) I h)
def D8 (ta tb:TE):TE:=fun σ H Q => ta σ H fun x H1 => ∃ c,x = .bl c ∧ if c = true then tb σ H1 Q else Q (.bl false) H1
def Dj (ta:TE):TE:=fun σ H Q => ta σ H fun x H1 => ∃ c,x = .bl c ∧ Q (.bl (!c)) H1
theorem Bh {op} {t:TE} (h:PE X a t):PE X (.BoolOp op [a] pos) t:=fun pins s σ H Q I hw => BoolOp_one (h pins s σ H Q I hw)
theorem Bc (ha:PE X a ta) (hb:PE X (.BoolOp .And (b :: rest) pos) tb):PE X (.BoolOp .And (a :: b :: rest) pos) (D8 ta tb):= by
 intro pins s σ H Q I h
 refine BoolOp_and (bj (ha pins s σ H _ I h) fun v s1 ⟨x,H1,I1,r1,q1⟩ => ?_)
 obtain ⟨c,rfl,q1⟩:=q1
 cases r1
 refine wpAny_truthy_bool ?_
 cases c with
 | true => exact hb pins s1 σ H1 Q I1 q1
 | false => exact ⟨.bl false,H1,I1,rfl,q1⟩
theorem BW (ha:PE X a ta):PE X (.UnaryOp .Not a pos) (Dj ta):= by
 intro pins s σ H Q I h
 refine UnaryOp_ (bj (ha pins s σ H _ I h) fun v s1 ⟨x,H1,I1,r1,q1⟩ => ?_)
 obtain ⟨c,rfl,q1⟩:=q1
 cases r1
 exact not_of (wpAny_truthy_bool ⟨.bl (!c),H1,I1,rfl,q1⟩)
def Gp (t:TT) (ta tb:TE):TE:=fun σ H Q => t σ H fun c H1 => if c = true then ta σ H1 Q else tb σ H1 Q
theorem wq {c:Expr} (hc:PT X c tA) (ha:PE X a ta) (hb:PE X b tb):PE X (.IfExp c a b pos) (Gp tA ta tb):= by
 intro pins s σ H Q I h
 refine wpAny_IfExp (bj (hc pins s σ H _ I h) fun d s1 ⟨H1,I1,q1⟩ => ?_)
 cases d with
 | true => exact ha pins s1 σ H1 Q I1 q1
 | false => exact hb pins s1 σ H1 Q I1 q1
end
end L2
namespace L2
open PySem PySem.Spec PyProof.Rows
def fI (K:PySem.W.Frag) (H:Hp) (a:Addr) (xs:List V):Prop :=
 Rd H a (.lst xs) ∨
  ∃ (o:Obj) (its:Array Value) (n:Nat),K.lookup a = some o ∧ o.cls = .type "list" ∧ o.dict = none ∧ o.data = .seq its n ∧ its.size ≤ sizeLine ∧ Vals xs its.toList
def gp (K:PySem.W.Frag) (H:Hp) (a:Addr) (xs:List V):Prop :=
 Rd H a (.tup xs) ∨
  ∃ (o:Obj) (its:Array Value) (n:Nat),K.lookup a = some o ∧ o.cls = .type "tuple" ∧ o.data = .seq its n ∧ its.size ≤ sizeLine ∧ Vals xs its.toList
def Fv:Value -> Option V
 | .none => some .non
 | .bool b => some (.bl b)
 | .int i _ => some (.int i)
 | .str x _ => some (.str x)
 | .bytes b _ => some (.byt b)
 | .float b _ => some (.flt b)
 | .ref a => some (.ref a)
 | .type n => some (.ty n)
 | _ => none
theorem RelV.abs {x:V} {u:Value} (r:RelV x u):Fv u = some x:= by
 cases x with
 | non => cases r; rfl
 | bl _ => cases r; rfl
 | int _ => obtain ⟨t,rfl⟩:=r; rfl
 | str _ => obtain ⟨t,rfl⟩:=r; rfl
 | byt _ => obtain ⟨t,rfl⟩:=r; rfl
 | flt _ => obtain ⟨t,rfl⟩:=r; rfl
 | ref _ => cases r; rfl
 | ty _ => cases r; rfl
theorem RelV.inj {x y:V} {u:Value} (r:RelV x u) (q:RelV y u):x = y:=Option.some.inj (r.abs.symm.trans q.abs)
theorem Vals.inj:∀ {xs ys:List V} {us:List Value},Vals xs us -> Vals ys us -> xs = ys
 | _,_,_,.nil,.nil => rfl
 | _,_,_,.cons r t,.cons r' t' => by rw [r.inj r',Vals.inj t t']
section
variable {X:Cx} {pins:List (Addr × Obj)} {σ:St} {H:Hp} {s:Shared} {a:Addr} {xs ys:List V}
theorem fI.of {K:PySem.W.Frag} (h:H a = some (.lst xs)):fI K H a xs:=.inl (.inl h)
theorem gp.of {K:PySem.W.Frag} (h:H a = some (.tup xs)):gp K H a xs:=.inl (.inl h)
theorem Inv.list (I:Inv X pins σ H s) (h:fI X.K H a xs):∃ its:List Value,Vals xs its ∧ PlainL s.heap a its.toArray ∧ xs.length ≤ sizeLine:= by
 rcases h with h | ⟨o,its,n,hk,hc,hd,hs,hz,r⟩
 ·obtain ⟨z,its,n,r,e⟩:=h.ok I.hok
  exact ⟨its,r,⟨_,n,e,rfl,rfl,rfl⟩,z⟩
 ·refine ⟨its.toList,r,⟨o,n,I.kIn a o hk,hc,hd,by simpa using hs⟩,?_⟩
  have e:=r.length
  simp only [Array.length_toList] at e
  omega
theorem Inv.tuple (I:Inv X pins σ H s) (h:gp X.K H a xs):∃ its:List Value,Vals xs its ∧ IsTup s.heap a its.toArray ∧ xs.length ≤ sizeLine:= by
 rcases h with h | ⟨o,its,n,hk,hc,hs,hz,r⟩
 ·obtain ⟨z,its,r,p⟩:=h.ok I.hok
  exact ⟨its,r,p.1,z⟩
 ·refine ⟨its.toList,r,⟨o,I.kIn a o hk,hc,n,by simpa using hs⟩,?_⟩
  have e:=r.length
  simp only [Array.length_toList] at e
  omega
theorem Inv.list_inj (I:Inv X pins σ H s) (h:fI X.K H a xs) (h':fI X.K H a ys):xs = ys:= by
 obtain ⟨its,r,⟨o,n,e,_,_,d⟩,_⟩:=I.list h
 obtain ⟨its',r',⟨o',n',e',_,_,d'⟩,_⟩:=I.list h'
 rw [e] at e'; cases e'
 rw [d] at d'
 injection d' with d1 _
 have:its = its':=by simpa using congrArg Array.toList d1
 subst this
 exact r.inj r'
theorem Inv.tuple_inj (I:Inv X pins σ H s) (h:gp X.K H a xs) (h':gp X.K H a ys):xs = ys:= by
 obtain ⟨its,r,⟨o,e,_,n,d⟩,_⟩:=I.tuple h
 obtain ⟨its',r',⟨o',e',_,n',d'⟩,_⟩:=I.tuple h'
 rw [e] at e'; cases e'
 rw [d] at d'
 injection d' with d1 _
 have:its = its':=by simpa using congrArg Array.toList d1
 subst this
 exact r.inj r'
end
abbrev Cx.wish (X:Cx) (E:Value -> Shared -> Prop):Cx:={ X with xe:=E }
abbrev Cx.nox (X:Cx):Cx:=X.wish fun _ _ => False
theorem Cx.Ok.wish {X:Cx} (ok:X.Ok) (E:Value -> Shared -> Prop):(X.wish E).Ok :=
 ⟨ok.mod,ok.kind,ok.glob,ok.blt,ok.above,ok.inj,ok.has,ok.cab,ok.hd,ok.frames,ok.stk,ok.exf,ok.bs,ok.bsz,ok.noex,ok.exfs,ok.funs,ok.frf⟩
theorem Cx.Ok.unwish {X:Cx} {E:Value -> Shared -> Prop} (ok:(X.wish E).Ok):X.Ok :=
 ⟨ok.mod,ok.kind,ok.glob,ok.blt,ok.above,ok.inj,ok.has,ok.cab,ok.hd,ok.frames,ok.stk,ok.exf,ok.bs,ok.bsz,ok.noex,ok.exfs,ok.funs,ok.frf⟩
section
variable {X:Cx} {pins:List (Addr × Obj)} {σ:St} {H:Hp} {s:Shared} {E:Value -> Shared -> Prop}
theorem Inv.wish (I:Inv X pins σ H s) (E:Value -> Shared -> Prop):Inv (X.wish E) pins σ H s:=⟨I.ok.wish E,I.os,I.bare,I.base,I.loc,I.cell,I.free,I.freeC,I.pin,I.hok,I.len⟩
theorem Inv.unwish (I:Inv (X.wish E) pins σ H s):Inv X pins σ H s:=⟨I.ok.unwish,I.os,I.bare,I.base,I.loc,I.cell,I.free,I.freeC,I.pin,I.hok,I.len⟩
theorem SP.unwish {D:Ends} {f:Flow} {s':Shared} (h:SP (X.wish E) pins D f s'):SP X pins D f s':= by
 cases f with
 | next => obtain ⟨σ',H',I,q⟩:=h; exact ⟨σ',H',I.unwish,q⟩
 | brk => obtain ⟨σ',H',I,q⟩:=h; exact ⟨σ',H',I.unwish,q⟩
 | cont => obtain ⟨σ',H',I,q⟩:=h; exact ⟨σ',H',I.unwish,q⟩
 | ret u => obtain ⟨v,σ',H',I,r,q⟩:=h; exact ⟨v,σ',H',I.unwish,r,q⟩
theorem pw.nox {st:List Stmt} {t:TS} (h:pw X.nox st t):pw X st t:=fun pins s σ H D I hw =>
 wpAny_mono (h pins s σ H D (I.wish _) hw) (fun _ _ q => q.unwish) fun _ _ z => False.elim z
end
section
variable {X:Cx} {st:Stmt} {rest:List Stmt} {t u:TS} {e:Expr} {te:TE} {pos:Pos}
def Ej:TS:=fun D σ H => D.nx σ H
def FO (t u:TS):TS:=fun D σ H => t { D with nx:=u D } σ H
theorem yj:pw X [] Ej:=fun _ _ σ H _ I h => wpAny_execs_nil ⟨σ,H,I,h⟩
theorem vK (h1:PS X st t) (h2:pw X rest u):pw X (st :: rest) (FO t u):= by
 intro pins s σ H D I h
 refine wpAny_execs_cons (bj (h1 pins s σ H { D with nx:=u D } I h) fun f s1 q => ?_)
 cases f with
 | next =>
  obtain ⟨σ',H',I',q⟩:=q
  exact h2 pins s1 σ' H' D I' q
 | ret v => exact q
 | brk => exact q
 | cont => exact q
theorem yQ (h1:PS X st t):pw X [st] t:= by
 intro pins s σ H D I h
 refine wpAny_execs_cons (bj (h1 pins s σ H D I h) fun f s1 q => ?_)
 cases f with
 | next => exact wpAny_execs_nil q
 | ret v => exact q
 | brk => exact q
 | cont => exact q
theorem Inv.quiet {pins:List (Addr × Obj)} {σ:St} {H:Hp} {s:Shared} (I:Inv X pins σ H s):interactive X.env = false:=by simp [interactive,I.ok.kind]
def Ey (te:TE):TS:=fun D σ H => te σ H fun _ H1 => D.nx σ H1
theorem qD (he:PE X e te) (hs:swapsWith e none pos.line X.env = pure false:=by rfl):PS X (.Expr e pos) (Ey te):= by
 intro pins s σ H D I h
 exact wpAny_Expr_any (bj (he pins s σ H _ I h) fun v s1 ⟨x,H1,I1,r1,q1⟩ => ⟨σ,H1,I1,q1⟩) I.quiet hs
def FJ (te:TE):TS:=fun D σ H => te σ H D.rt
theorem v_ (he:PE X e te):PS X (.Return (some e) pos) (FJ te):= by
 intro pins s σ H D I h
 exact wpAny_Return_some (bj (he pins s σ H _ I h) fun v s1 ⟨x,H1,I1,r1,q1⟩ => ⟨x,σ,H1,I1,r1,q1⟩)
def E4 (c:TT) (t u:TS):TS:=fun D σ H => c σ H fun b H1 => if b = true then t D σ H1 else u D σ H1
theorem Ew {c:Expr} {a b:List Stmt} {tc:TT} (hc:PT X c tc) (ha:pw X a t) (hb:pw X b u):PS X (.If c a b pos) (E4 tc t u):= by
 intro pins s σ H D I h
 refine wpAny_If (bj (hc pins s σ H _ I h) fun d s1 ⟨H1,I1,q1⟩ => ?_)
 cases d with
 | true => exact ha pins s1 σ H1 D I1 q1
 | false => exact hb pins s1 σ H1 D I1 q1
end
abbrev TG:=V -> St -> Hp -> (St -> Hp -> Prop) -> Prop
abbrev xo:=List V -> St -> Hp -> (St -> Hp -> Prop) -> Prop
def PG (X:Cx) (target:Expr) (t:TG):Prop :=
 ∀ (pins:List (Addr × Obj)) (s:Shared) (σ:St) (H:Hp) (v:V) (u:Value) (Q:St -> Hp -> Prop),Inv X pins σ H s -> RelV v u -> t v σ H Q ->
  wpAny (model X.prog X.w) X.A (assign target X.env u) (fun _ s' => ∃ σ' H',Inv X pins σ' H' s' ∧ Q σ' H') X.xe s
def zH (X:Cx) (ts:List Expr) (t:xo):Prop :=
 ∀ (pins:List (Addr × Obj)) (s:Shared) (σ:St) (H:Hp) (vs:List V) (us:List Value) (Q:St -> Hp -> Prop),Inv X pins σ H s -> Vals vs us -> t vs σ H Q ->
  wpAny (model X.prog X.w) X.A (assignInOrder ((assignEach ts X.env).map (·.2)) us) (fun _ s' => ∃ σ' H',Inv X pins σ' H' s' ∧ Q σ' H') X.xe s
abbrev A_:=V -> V -> V -> Hp -> (Hp -> Prop) -> Prop
def Dg (X:Cx) (t:A_):Prop :=
 ∀ (pins:List (Addr × Obj)) (s:Shared) (σ:St) (H:Hp) (o i v:V) (ov iv u:Value) (Q:Hp -> Prop),Inv X pins σ H s -> RelV o ov -> RelV i iv -> RelV v u -> t o i v H Q ->
  wpAny (model X.prog X.w) X.A (setItem ov iv u) (fun _ s' => ∃ H',Inv X pins σ H' s' ∧ Q H') X.xe s
section
variable {X:Cx} {pos:Pos}
def nr (i:Nat):TG:=fun v σ H Q => Q (σ.set i (some v)) H
theorem yT {i:Nat} {x:Str} (hN:X.N.Nodup) (hi:X.N[i]? = some x) (hx:Loc X.env.scope x) (hf:X.fn x = true ∨ X.env.scope.names.lookup x = some .local:=by first | exact .inl rfl | exact .inr rfl | assumption):PG X (.Name x pos) (nr i):= by
 intro pins s σ H v u Q I r h
 exact wpAny_assign_Name (iu I hN hi hx r (fun s' I' => ⟨_,H,I',h⟩) hf)
def Fm:xo:=fun vs σ H Q => vs = [] ∧ Q σ H
def De (t:TG) (u:xo):xo:=fun vs σ H Q => ∃ v r,vs = v :: r ∧ t v σ H fun σ' H' => u r σ' H' Q
theorem xp:zH X [] Fm:= by
 intro pins s σ H vs us Q I r h
 obtain ⟨e,h⟩:=h
 subst e
 cases r
 exact assignInOrder_nil ⟨σ,H,I,h⟩
theorem uw {e:Expr} {es:List Expr} {t:TG} {u:xo} (h1:PG X e t) (h2:zH X es u)
  (hs:(assignEach (e :: es) X.env).map (·.2) = assign e X.env :: (assignEach es X.env).map (·.2):=by rfl):zH X (e :: es) (De t u):= by
 intro pins s σ H vs us Q I r h
 obtain ⟨v,vr,e1,h⟩:=h
 subst e1
 cases r with
 | cons r rr =>
  rw [hs]
  refine assignInOrder_cons (bj (h1 pins s σ H _ _ _ I r h) fun _ s1 ⟨σ1,H1,I1,q1⟩ => ?_)
  exact h2 pins s1 σ1 H1 _ _ Q I1 rr q1
def FG (K:PySem.W.Frag) (n:Nat) (t:xo):TG:=fun v σ H Q => ∃ a xs,v = .ref a ∧ gp K H a xs ∧ xs.length = n ∧ t xs σ H Q
theorem Cb {es:List Expr} {k:Nat} {t:xo} {n:Nat} (hc:X.calm = true) (h:zH X es t)
  (hn:(assignEach es X.env).length = n:=by rfl) (hst:(assignEach es X.env).findIdx? (·.1) = none:=by rfl):PG X (.Tuple es k pos) (FG X.K n t):= by
 intro pins s σ H v u Q I r hw
 obtain ⟨a,xs,e1,hq,hl,hw⟩:=hw
 subst e1
 cases r
 obtain ⟨its,rv,ht,hz⟩:=I.tuple hq
 refine assign_Tuple_tuple (I.ok.hd hc) ht (by simp [hn,<- hl,rv.length]) hst fun h' hx => ?_
 have I1:Inv X pins σ H { s with heap:=h' }:=I.kept (t':=s.toks) fun b o e => hx b o (Nat.ne_of_lt (Heap.lt_size e)) e
 exact h pins _ σ H xs _ Q I1 (by simpa using rv) hw
def FC (to ti:TE) (t:A_):TG:=fun v σ H Q => to σ H fun o H1 => ti σ H1 fun i H2 => t o i v H2 fun H3 => Q σ H3
theorem Bg {o i:Expr} {to ti:TE} {t:A_} (ho:PE X o to) (hi:PE X i ti) (hs:Dg X t)
  (ha:∀ v,assign (.Subscript o i pos) X.env v = (do
   let ov <- holding [v] (eval o X.env)
   let iv <- holding [v,ov] (eval i X.env)
   standAt pos
   holding [v,ov,iv] (setItem ov iv v)
   release [v,ov,iv] []):=by intro _; rfl):PG X (.Subscript o i pos) (FC to ti t):= by
 intro pins s σ H v u Q I r h
 rw [ha]
 refine wpAny_bind (wpAny_holding (bj (ho pins s σ H _ I h) fun ov s1 ⟨x,H1,I1,r1,q1⟩ => ?_))
 refine wpAny_bind (wpAny_holding (bj (hi pins s1 σ H1 _ I1 q1) fun iv s2 ⟨y,H2,I2,r2,q2⟩ => ?_))
 refine wpAny_bind (wpAny_standAt (wpAny_bind (wpAny_holding (bj (hs pins s2 σ H2 x y v ov iv u _ I2 r1 r2 r q2) fun _ s3 ⟨H3,I3,q3⟩ => ?_))))
 exact wpAny_release ⟨σ,H3,I3,q3⟩
def vW (te:TE) (g:TG):TS:=fun D σ H => te σ H fun x H1 => g x σ H1 D.nx
theorem tR {tg e:Expr} {te:TE} {g:TG} (he:PE X e te) (hg:PG X tg g) (hs:swapsWithSole [tg] e pos.line X.env = pure false:=by rfl) (hw:swappedStores [tg] e X.env = pure none:=by rfl)
  (h1:(assignEach [tg] X.env).map (·.2) = [assign tg X.env]:=by rfl):PS X (.Assign [tg] e pos) (vW te g):= by
 intro pins s σ H D I h
 refine wpAny_Assign_stores (bj (he pins s σ H _ I h) fun v s1 ⟨x,H1,I1,r1,q1⟩ => ?_) hs hw
 rw [h1]
 exact bj (hg pins s1 σ H1 x v _ I1 r1 q1) fun _ s2 q => q
theorem vN {i:Nat} {x:Str} {e:Expr} {te:TE} {pos':Pos} (hN:X.N.Nodup) (hi:X.N[i]? = some x) (hx:Loc X.env.scope x) (he:PE X e te) (hs:swapsWith e (some (.Name x pos')) pos.line X.env = pure false:=by rfl) (hf:X.fn x = true ∨ X.env.scope.names.lookup x = some .local:=by first | exact .inl rfl | exact .inr rfl | assumption) :
  PS X (.Assign [.Name x pos'] e pos) (vW te (nr i)):= by
 intro pins s σ H D I h
 refine wpAny_Assign_Name (bj (he pins s σ H _ I h) fun v s1 ⟨y,H1,I1,r1,q1⟩ => ?_) hs
 exact iu I1 hN hi hx r1 (fun s2 I2 => ⟨_,H1,I2,q1⟩) hf
def F7 (i j:Nat) (ta:TA):TS:=fun D σ H => ta σ H fun vs H1 => ∃ v w,vs = [v,w] ∧ D.nx ((σ.set i (some v)).set j (some w)) H1
theorem CQ {i j:Nat} {x y:Str} {a b:Expr} {ta:TA} {px py pt:Pos} {kt k2 pt2} (hc:X.calm = true) (hN:X.N.Nodup) (hi:X.N[i]? = some x) (hj:X.N[j]? = some y) (hij:i ≠ j)
  (hx:X.env.scope.names.lookup x = some .local) (hy:X.env.scope.names.lookup y = some .local) (ha:PA X [a,b] ta)
  (hw:swappedStores [.Tuple [.Name x px,.Name y py] kt pt] (.Tuple [a,b] k2 pt2) X.env = pure (some [x,y]))
  (hs:swapsWithSole [.Tuple [.Name x px,.Name y py] kt pt] (.Tuple [a,b] k2 pt2) pos.line X.env = pure false:=by rfl) :
  PS X (.Assign [.Tuple [.Name x px,.Name y py] kt pt] (.Tuple [a,b] k2 pt2) pos) (F7 i j ta):= by
 intro pins s σ H D I h
 rw [exec_Assign_arm]
 refine wpAny_bind (wpAny_standAt ?_)
 rw [hs]
 refine wpAny_bind (wpAny_pure ?_)
 rw [if_neg (by decide)]
 refine wpAny_bind (Tuple_ (bj (ha _ pins s σ H _ I h) fun us s1 ⟨vs,H1,I1,r1,q1⟩ => ?_))
 obtain ⟨v,w,e1,q1⟩:=q1
 subst e1
 obtain ⟨u1,u2,rfl,rv,rw'⟩:∃ u1 u2,us = [u1,u2] ∧ RelV v u1 ∧ RelV w u2:= by
  cases r1 with
  | cons p q =>
   cases q with
   | cons p' q' =>
    cases q'
    exact ⟨_,_,rfl,p,p'⟩
 refine wpAny_newObj_type ?_ (by show 2 ≤ sizeLine; decide)
 have I2:Inv X pins σ H1 { s1 with heap:=s1.heap.push { cls:=.type "tuple",data:=.seq [u1,u2].toArray } }:=I1.kept (t':=s1.toks) fun b o e => Heap.get?_push_of_some _ e
 rw [hw]
 refine wpAny_bind (wpAny_pure ?_)
 show wpAny (model X.prog X.w) X.A (do rule "assign.swapped-stores"; let items <- unpackItems (.ref s1.heap.objs.size) 2 none; assignInOrder [fun v => bindName X.env y v,fun v => bindName X.env x v] items.reverse; pure Flow.next) _ _ _
 refine wpAny_bind (wpAny_rule (wpAny_bind (unpackItems_tuple (items:=#[u1,u2]) (I.ok.hd hc) (IsTup.new s1.heap _) fun h' hx' => ?_)))
 have I3:=I2.kept (h':=h') (t':=s1.toks) fun b o e => hx' b o (Nat.ne_of_lt (Heap.lt_size e)) e
 show wpAny _ _ (assignInOrder [fun v => bindName X.env y v,fun v => bindName X.env x v] [u2,u1] >>= fun _ => pure Flow.next) _ _ _
 refine wpAny_bind (assignInOrder_cons (wpAny_bindName (iu I3 hN hj (.inl hy) rw' (fun s2 I4 => ?_) (.inr hy))))
 refine assignInOrder_cons (wpAny_bindName (iu I4 hN hi (.inl hx) rv (fun s3 I5 => assignInOrder_nil (wpAny_pure ?_)) (.inr hx)))
 rw [List.set_comm _ _ (Ne.symm hij)] at I5
 exact ⟨_,H1,I5,q1⟩
end
section
variable {X:Cx} {pos:Pos}
end
structure It where
 go:Nat -> Hp -> Prop
 yld:Nat -> Hp -> V -> Hp -> Prop
 stop:Nat -> Hp -> Prop
def fk (X:Cx) (pins:List (Addr × Obj)) (H:Hp) (b:Addr):Prop :=
 H b = none ∧ b ≠ X.env.locals ∧ b ∉ X.fs ∧ (b ∈ X.ex ∨ X.s₀.heap.objs.size ≤ b) ∧ (∀ x c,X.env.cells.lookup x = some c -> c ≠ b) ∧ ∀ p ∈ X.pn ++ pins,p.1 ≠ b
theorem Inv.fpOk {X:Cx} {pins:List (Addr × Obj)} {σ:St} {H H':Hp} {s:Shared} {b:Addr} (I:Inv X pins σ H s) (hb:s.heap.objs.size ≤ b) (hn:H' b = none):fk X pins H' b:= by
 refine ⟨hn,Nat.ne_of_gt (Nat.lt_of_lt_of_le I.lt hb),I.nofs hb,.inr (Nat.le_trans I.sz hb),fun x c e z => ?_,fun p hp z => ?_⟩
 ·obtain ⟨v,q⟩:=I.cell x c e
  exact absurd (Nat.lt_of_lt_of_le q.lt (by rw [z]; exact hb)) (Nat.lt_irrefl _)
 ·exact absurd (Nat.lt_of_lt_of_le (Heap.lt_size (I.pin p hp).1) (by rw [z]; exact hb)) (Nat.lt_irrefl _)
structure Turn (P:Program) (w:World) (K:PySem.W.Frag) (tg:Expr) (J:It) (fp:List Addr) (it:Addr) (tn:Nat -> Heap -> Prop):Prop where
 mem:it ∈ fp
 obj:∀ i h,tn i h -> ∀ b ∈ fp,∃ o,h.get? b = some o ∧ ∀ v,o.data ≠ .cell v
 keep:∀ i h h',tn i h -> (∀ b ∈ fp,∀ o,h.get? b = some o -> h'.get? b = some o) -> tn i h'
 item:∀ (X:Cx),X.prog = P -> X.w = w -> X.K = K -> X.calm = true -> ∀ (i:Nat) (pins:List (Addr × Obj)) (s:Shared) (σ:St) (H:Hp) (E:Value -> Shared -> Prop),Inv X pins σ H s -> (∀ b ∈ fp,fk X pins H b) -> tn i s.heap -> J.go i H ->
  wpAny (model P w) X.A (pyNext (.ref it)) (fun r s1 => ∃ u,r = some u ∧
   wpAny (model P w) X.A (letOwnedTupleGo tg (.ref it) u) (fun _ s2 => ∃ x H',Inv X pins σ H' s2 ∧ RelV x u ∧ J.yld i H x H' ∧ tn (i + 1) s2.heap ∧ ∀ b ∈ fp,H' b = none) E s1) E s
 done:∀ (X:Cx),X.prog = P -> X.w = w -> X.K = K -> X.calm = true -> ∀ (i:Nat) (pins:List (Addr × Obj)) (s:Shared) (σ:St) (H:Hp) (E:Value -> Shared -> Prop),Inv X pins σ H s -> (∀ b ∈ fp,fk X pins H b) -> tn i s.heap -> J.stop i H ->
  wpAny (model P w) X.A (pyNext (.ref it)) (fun r s1 => r = none ∧ Inv X pins σ H s1) E s
 self:∀ (A:Around) (i:Nat) (s:Shared) (Q:Value -> Shared -> Prop) (E:Value -> Shared -> Prop),tn i s.heap -> Q (.ref it) s -> wpAny (model P w) A (pyIter (.ref it)) Q E s
abbrev TI:=St -> Hp -> (It -> Hp -> Prop) -> Prop
def Gh (X:Cx) (pins:List (Addr × Obj)) (σ:St) (tg:Expr) (R:It -> Hp -> Prop) (itv:Value) (s2:Shared):Prop :=
 ∃ (it:Addr) (fp:List Addr) (tn:Nat -> Heap -> Prop) (J:It) (H':Hp),itv = .ref it ∧ Inv X pins σ H' s2 ∧ Turn X.prog X.w X.K tg J fp it tn ∧ tn 0 s2.heap ∧ (∀ b ∈ fp,fk X pins H' b) ∧ R J H'
def PI (X:Cx) (tg iter:Expr) (wi:TI):Prop :=
 ∀ (pins:List (Addr × Obj)) (s:Shared) (σ:St) (H:Hp) (R:It -> Hp -> Prop),Inv X pins σ H s -> wi σ H R ->
  wpAny (model X.prog X.w) X.A (eval iter X.env) (fun v s1 => wpAny (model X.prog X.w) X.A (pyIter v) (Gh X pins σ tg R) X.xe s1) X.xe s
theorem um {M:Model} {A:Around} {E:Value -> Shared -> Prop} {s:Shared} {tg:Expr} {it:Addr} {u:Value} {o:Obj} {n:String} {vs:Array Value} {Q:Unit -> Shared -> Prop} (ho:s.heap.get? it = some o) (hc:o.cls = .type n) (hd:o.data = .fields vs)
  (hn:["enumerate","zip","dict_itemiterator","dict_reverseitemiterator","odict_iterator","itertools.zip_longest","itertools.pairwise"].contains n = false) (hQ:Q () s):wpAny M A (letOwnedTupleGo tg (.ref it) u) Q E s:= by
 unfold letOwnedTupleGo
 cases tg <;> first
  | exact wpAny_pure hQ
  | (cases u <;> first
    | exact wpAny_pure hQ
    | (refine wpAny_bind (wpAny_load ho ?_)
       rw [hc,hd]
       show wpAny M A (if (["enumerate","zip","dict_itemiterator","dict_reverseitemiterator","odict_iterator","itertools.zip_longest","itertools.pairwise"].contains n && vs[0]? == some (rawInt _)) = true then _ else _) Q E s
       rw [if_neg (by intro h; rw [hn,Bool.false_and] at h; cases h)]
       exact wpAny_pure hQ))
def EI (K:PySem.W.Frag) (a:Addr):It :=
 ⟨fun i H => ∃ xs x,fI K H a xs ∧ xs[i]? = some x,fun i H x H' => H' = H ∧ ∀ xs,fI K H a xs -> xs[i]? = some x,fun i H => ∃ xs,fI K H a xs ∧ xs.length ≤ i⟩
def Fc (K:PySem.W.Frag) (a:Addr):It :=
 ⟨fun i H => ∃ xs x,gp K H a xs ∧ xs[i]? = some x,fun i H x H' => H' = H ∧ ∀ xs,gp K H a xs -> xs[i]? = some x,fun i H => ∃ xs,gp K H a xs ∧ xs.length ≤ i⟩
def EO (lo:Int) (n:Nat):It:=⟨fun i _ => i < n,fun i H x H' => H' = H ∧ x = .int (lo + i),fun i _ => n ≤ i⟩
theorem lB {P:Program} {w:World} {K:PySem.W.Frag} {tg:Expr} (a it:Addr):Turn P w K tg (EI K a) [it] it (fun i h => h.IsListIter it a i) where
 mem:=by simp
 obj:=fun i h st b hb => by
  have e:b = it:=by simpa using hb
  subst e
  obtain ⟨o,e,c,d⟩:=st
  exact ⟨o,e,fun v z => by rw [d] at z; cases z⟩
 keep:=fun i h h' st k => st.at fun o e => k it (by simp) o e
 item:= by
  intro X hP hw hK hc i pins s σ H E I hf st hg
  subst hP hw hK
  obtain ⟨xs,x,hq,hx⟩:=hg
  obtain ⟨its,rv,p,hz⟩:=I.list hq
  obtain ⟨u,hu,ru⟩:=rv.get hx
  obtain ⟨f0,f1,f2,f3,f4,f5⟩:=hf it (by simp)
  refine wpAny_pyNext_list_item st p.isList (x:=u) (by simpa using hu) fun h' st' sb => ?_
  have I1:Inv X pins σ H { s with heap:=h' }:=I.turned (t':=s.toks) (fun b o hb e => (sb.2 b hb).trans e) f0 f1 f3 f4 f5
  obtain ⟨o,e,c,d⟩:=id st'
  exact ⟨u,rfl,um (s:={ s with heap:=h' }) e c d (by decide) ⟨x,H,I1,ru,⟨rfl,fun ys hy => by rw [I.list_inj hy hq]; exact hx⟩,st',fun b hb => (hf b hb).1⟩⟩
 done:= by
  intro X hP hw hK hc i pins s σ H E I hf st hg
  subst hP hw hK
  obtain ⟨xs,hq,hx⟩:=hg
  obtain ⟨its,rv,p,hz⟩:=I.list hq
  obtain ⟨f0,f1,f2,f3,f4,f5⟩:=hf it (by simp)
  have hl:=rv.length
  exact wpAny_pyNext_list_end (I.ok.hd hc) st p.isList (by simp; omega) fun h' eb => ⟨rfl,I.turned (t':=s.toks) (fun b o hb e => eb b o hb e) f0 f1 f3 f4 f5⟩
 self:=fun _ _ _ _ _ st h => wpAny_pyIter_listiter st h
theorem pJ {P:Program} {w:World} {K:PySem.W.Frag} {tg:Expr} (a it:Addr):Turn P w K tg (Fc K a) [it] it (fun i h => h.IsTupleIter it a i) where
 mem:=by simp
 obj:=fun i h st b hb => by
  have e:b = it:=by simpa using hb
  subst e
  obtain ⟨o,e,c,d⟩:=st
  exact ⟨o,e,fun v z => by rw [d] at z; cases z⟩
 keep:=fun i h h' st k => st.at fun o e => k it (by simp) o e
 item:= by
  intro X hP hw hK hc i pins s σ H E I hf st hg
  subst hP hw hK
  obtain ⟨xs,x,hq,hx⟩:=hg
  obtain ⟨its,rv,p,hz⟩:=I.tuple hq
  obtain ⟨u,hu,ru⟩:=rv.get hx
  obtain ⟨f0,f1,f2,f3,f4,f5⟩:=hf it (by simp)
  refine wpAny_pyNext_tuple_item st (show s.heap.IsTuple a its.toArray from p) (x:=u) (by simpa using hu) fun h' st' sb => ?_
  have I1:Inv X pins σ H { s with heap:=h' }:=I.turned (t':=s.toks) (fun b o hb e => (sb.2 b hb).trans e) f0 f1 f3 f4 f5
  obtain ⟨o,e,c,d⟩:=id st'
  exact ⟨u,rfl,um (s:={ s with heap:=h' }) e c d (by decide) ⟨x,H,I1,ru,⟨rfl,fun ys hy => by rw [I.tuple_inj hy hq]; exact hx⟩,st',fun b hb => (hf b hb).1⟩⟩
 done:= by
  intro X hP hw hK hc i pins s σ H E I hf st hg
  subst hP hw hK
  obtain ⟨xs,hq,hx⟩:=hg
  obtain ⟨its,rv,p,hz⟩:=I.tuple hq
  obtain ⟨f0,f1,f2,f3,f4,f5⟩:=hf it (by simp)
  have hl:=rv.length
  exact wpAny_pyNext_tuple_end (I.ok.hd hc) st (show s.heap.IsTuple a its.toArray from p) (by simp; omega) fun h' eb => ⟨rfl,I.turned (t':=s.toks) (fun b o hb e => eb b o hb e) f0 f1 f3 f4 f5⟩
 self:=fun _ _ _ _ _ st h => wpAny_pyIter_tupleiter st h
theorem o9 {P:Program} {w:World} {K:PySem.W.Frag} {tg:Expr} (it:Addr) (lo:Int) (n:Nat):Turn P w K tg (EO lo n) [it] it (fun i h => IsRangeIter h it (lo + (i:Nat) * 1) ((n:Int) - (i:Nat)) 1) where
 mem:=by simp
 obj:=fun i h st b hb => by
  have e:b = it:=by simpa using hb
  subst e
  exact ⟨_,st,fun v z => by
   have z':Data.fields _ = Data.cell v:=z
   cases z'⟩
 keep:=fun i h h' st k => k it (by simp) _ st
 item:= by
  intro X hP hw hK hc i pins s σ H E I hf st hg
  subst hP hw hK
  obtain ⟨f0,f1,f2,f3,f4,f5⟩:=hf it (by simp)
  have W:=Walks.range (prog:=X.prog) (w:=X.w) (I.ok.hd hc) it lo 1 n
  refine W.item i s _ _ hg st fun v h' tk hv st' kk => ?_
  obtain ⟨t,rfl⟩:=hv
  have I1:Inv X pins σ H { s with heap:=h',toks:=tk }:=I.turned (fun b o hb e => kk b o (by simpa using hb) e) f0 f1 f3 f4 f5
  refine ⟨_,rfl,um (s:={ s with heap:=h',toks:=tk }) (n:="range_iterator") st' rfl rfl (by decide) ⟨.int (lo + i),H,I1,⟨t,?_⟩,⟨rfl,rfl⟩,st',fun b hb => (hf b hb).1⟩⟩
  rw [Int.mul_one]
 done:= by
  intro X hP hw hK hc i pins s σ H E I hf st hg
  subst hP hw hK
  obtain ⟨f0,f1,f2,f3,f4,f5⟩:=hf it (by simp)
  exact wpAny_pyNext_range_end (I.ok.hd hc) st (by have:n ≤ i:=hg; omega) fun h' eb => ⟨rfl,I.turned (t':=s.toks) (fun b o hb e => eb b o hb e) f0 f1 f3 f4 f5⟩
 self:=fun _ _ _ _ _ st h => wpAny_pyIter_rangeiter st h
end L2
namespace L2
open PySem PySem.Spec PyProof.Rows
section
variable {X:Cx} {tg:Expr}
def D5 (K:PySem.W.Frag) (tl:TE):TI:=fun σ H R => tl σ H fun x H1 => ∃ a,x = .ref a ∧ (∃ xs,fI K H1 a xs) ∧ R (EI K a) H1
theorem yH {l:Expr} {tl:TE} (hl:PE X l tl):PI X tg l (D5 X.K tl):= by
 intro pins s σ H R I h
 refine bj (hl pins s σ H _ I h) fun v s1 ⟨x,H1,I1,r1,q1⟩ => ?_
 obtain ⟨a,e,⟨xs,hq⟩,q⟩:=q1
 subst e
 cases r1
 obtain ⟨its,rv,p,hz⟩:=I1.list hq
 refine wpAny_pyIter_list p.isList ?_
 refine ⟨s1.heap.objs.size,[s1.heap.objs.size],_,_,H1,rfl,I1.kept (t':=s1.toks) fun b o e => Heap.get?_push_of_some _ e,lB a _,⟨_,Heap.get?_push_size _ rfl,rfl,rfl⟩,fun b hb => ?_,q⟩
 have e:b = s1.heap.objs.size:=by simpa using hb
 subst e
 exact I1.fpOk (Nat.le_refl _) (I1.hok.fresh (Nat.le_refl _))
theorem wo {pins:List (Addr × Obj)} {σ:St} {H:Hp} {s:Shared} {R:It -> Hp -> Prop} {E:Value -> Shared -> Prop} {lo hi:Int} {t u v:Tok} {tk:Nat} (I:Inv X pins σ H s) (h1:-(2 ^ 62) ≤ lo) (h2:lo < 2 ^ 62) (h3:-(2 ^ 62) ≤ hi) (h4:hi < 2 ^ 62)
  (q:R (EO lo (hi - lo).toNat) H):wpAny (model X.prog X.w) X.A (pyIter (.ref s.heap.objs.size)) (Gh X pins σ tg R) E { s with heap:=s.heap.push { cls:=.type "range",data:=.fields #[.int lo t,.int hi u,.int 1 v] },toks:=tk }:= by
 refine wpAny_pyIter_range (IsRange.new ..) (small_one h1 h2 h3 h4) ?_
 have I1:Inv X pins σ H { s with heap:=s.heap.push { cls:=.type "range",data:=.fields #[.int lo t,.int hi u,.int 1 v] },toks:=tk }:=I.kept fun b o e => Heap.get?_push_of_some _ e
 refine ⟨(s.heap.push { cls:=.type "range",data:=.fields #[.int lo t,.int hi u,.int 1 v] }).objs.size,[(s.heap.push { cls:=.type "range",data:=.fields #[.int lo t,.int hi u,.int 1 v] }).objs.size],_,_,H,rfl,
  I1.kept (t':=tk) fun b o e => Heap.get?_push_of_some _ e,o9 _ lo (hi - lo).toNat,?_,fun b hb => ?_,q⟩
 ·have e1:lo + ((0:Nat):Int) * 1 = lo:=by simp
  have e2:(((hi - lo).toNat:Nat):Int) - ((0:Nat):Int) = Builtin.Range.rangeSize lo hi 1:=by rw [rangeSize_one]; split <;> omega
  show IsRangeIter _ _ (lo + ((0:Nat):Int) * 1) ((((hi - lo).toNat:Nat):Int) - ((0:Nat):Int)) 1
  rw [e1,e2]
  exact Heap.get?_push_size _ rfl
 ·have e:b = (s.heap.push { cls:=.type "range",data:=.fields #[.int lo t,.int hi u,.int 1 v] }).objs.size:=by simpa using hb
  subst e
  exact I1.fpOk (Nat.le_refl _) (I1.hok.fresh (Nat.le_refl _))
def DX (ta:TA):TI:=fun σ H R => ta σ H fun vs H1 => ∃ j:Int,vs = [.int j] ∧ -(2 ^ 62) ≤ j ∧ j < 2 ^ 62 ∧ R (EO 0 j.toNat) H1
theorem sY {a:Expr} {ta:TA} {p pos:Pos} (hg:Gl X "range") (hm:X.mg "range" = none) (ha:PA X [a] ta) (hs:starEach [a] X.env = [(false,eval a X.env)]:=by rfl):PI X tg (.Call (.Name "range" p) [a] [] pos) (DX ta):= by
 intro pins s σ H R I h
 refine Call_ (fL I hg hm boot_range (PyProof.Rows.callWith_type1 (bj (ha pos pins s σ H _ I h) fun us s1 ⟨vs,H1,I1,r1,q1⟩ => ?_) hs rfl))
 obtain ⟨j,e,q1,q2,q⟩:=q1
 subst e
 cases r1 with
 | cons r rr =>
  cases rr
  obtain ⟨t,rfl⟩:=r
  exact call_range_1 (wo I1 (by omega) (by omega) q1 q2 (by simpa using q))
def FU (wi:TI) (g:TG) (tb:TS):TS:=fun D σ H => wi σ H fun J H1 => ∃ W:Nat -> Nat -> St -> Hp -> Prop,(∃ m,W 0 m σ H1) ∧ ∀ i m σ H,W i m σ H ->
 (J.stop i H ∧ D.nx σ H) ∨ (J.go i H ∧ ∃ N:St -> Hp -> Prop,(∀ σ' H',N σ' H' -> ∃ m',m' < m ∧ W (i + 1) m' σ' H') ∧ ∀ x H',J.yld i H x H' -> g x σ H' fun σ2 H2 => tb { D with nx:=N,ct:=N,bk:=D.nx } σ2 H2)
def iP (fp:List Addr) (h:Heap):List (Addr × Obj):=fp.filterMap fun b => (h.get? b).map fun o => (b,o)
theorem cY {fp:List Addr} {h:Heap} {b:Addr} {o:Obj} (hb:b ∈ fp) (e:h.get? b = some o):(b,o) ∈ iP fp h:=List.mem_filterMap.mpr ⟨b,hb,by rw [e]; rfl⟩
theorem tB {fp:List Addr} {h:Heap} {p:Addr × Obj} (hp:p ∈ iP fp h):p.1 ∈ fp ∧ h.get? p.1 = some p.2:= by
 obtain ⟨b,hb,e⟩:=List.mem_filterMap.mp hp
 cases q:h.get? b with
 | none => rw [q] at e; cases e
 | some o =>
  rw [q] at e
  have e':(b,o) = p:=Option.some.inj e
  subst e'
  exact ⟨hb,q⟩
theorem Inv.pinned {pins:List (Addr × Obj)} {σ:St} {H:Hp} {s:Shared} {fp:List Addr} (I:Inv X pins σ H s) (hf:∀ b ∈ fp,fk X pins H b) (ho:∀ b ∈ fp,∃ o,s.heap.get? b = some o ∧ ∀ v,o.data ≠ .cell v):Inv X (pins ++ iP fp s.heap) σ H s :=
 I.pins_of fun p hp => (List.mem_append.mp hp).elim (fun z => I.pin p (List.mem_append_right _ z)) fun z => by
  obtain ⟨hb,e⟩:=tB z
  obtain ⟨f0,f1,f2,_⟩:=hf p.1 hb
  obtain ⟨o,e',d⟩:=ho p.1 hb
  rw [e] at e'; cases e'
  exact ⟨e,f0,f1,f2,d⟩
theorem Inv.unpinned {pins pl:List (Addr × Obj)} {σ:St} {H:Hp} {s:Shared} (I:Inv X (pins ++ pl) σ H s):Inv X pins σ H s:=I.pins_of fun p hp => I.pin p (List.mem_append_right _ (List.mem_append_left _ hp))
theorem A3 {iter:Expr} {body:List Stmt} {wi:TI} {g:TG} {tb:TS} {pos:Pos} (hp:PassesOwn (model X.prog X.w) X.A X.env X.xe) (hc:X.calm = true) (hi:PI X tg iter wi) (hg:PG X tg g) (hb:pw X body tb)
  (hs:∀ x,foldedSetIterable iter X.env x = pure x:=by intro _; rfl):PS X (.For tg iter body [] pos) (FU wi g tb):= by
 intro pins s σ H D I h
 refine wpAny_For (bj (hi pins s σ H _ I h) fun v s1 h1 => bj h1 fun itv s2 h2 => ?_) hs
 obtain ⟨it,fp,tn,J,H2,e,I2,T,st2,f2,W,⟨m0,w0⟩,turn⟩:=h2
 subst e
 have stat:∀ {H':Hp},(∀ b ∈ fp,H' b = none) -> ∀ b ∈ fp,fk X pins H' b:=fun hn b hb => ⟨hn b hb,(f2 b hb).2⟩
 refine codeAny_forLoop_any (fun n s' => ∃ i σ' H',Inv X pins σ' H' s' ∧ tn i s'.heap ∧ (∀ b ∈ fp,H' b = none) ∧ W i n σ' H') ?_ m0 ⟨0,σ,H2,I2,st2,fun b hb => (f2 b hb).1,w0⟩
 rintro n s3 ⟨i,σ3,H3,I3,st3,fr3,w3⟩
 rcases turn i n σ3 H3 w3 with ⟨stop,qn⟩ | ⟨go,N,hN,step⟩
 ·refine wpAny_passesOwn hp (bj (T.done X rfl rfl rfl hc i pins s3 σ3 H3 X.xe I3 (stat fr3) st3 stop) fun r s4 ⟨hr,I4⟩ => ?_)
  subst hr
  exact wpAny_execs_nil ⟨σ3,H3,I4,qn⟩
 ·refine wpAny_passesOwn hp (bj (T.item X rfl rfl rfl hc i pins s3 σ3 H3 X.xe I3 (stat fr3) st3 go) fun r s4 ⟨u,hr,h4⟩ => ?_)
  subst hr
  refine wpAny_passesOwn hp (bj h4 fun _ s5 ⟨x,H5,I5,r5,y5,st5,fr5⟩ => ?_)
  have I5':=I5.pinned (stat fr5) (T.obj _ _ st5)
  refine wpAny_passesOwn hp (bj (hg _ s5 σ3 H5 x u _ I5' r5 (step x H5 y5)) fun _ s6 ⟨σ6,H6,I6,q6⟩ => ?_)
  refine wpAny_passesOwn hp (bj (hb _ s6 σ6 H6 _ I6 q6) fun f s7 q7 => ?_)
  have again:∀ {σ7:St} {H7:Hp},Inv X (pins ++ iP fp s5.heap) σ7 H7 s7 -> N σ7 H7 -> ∃ m,m < n ∧ ∃ i σ' H',Inv X pins σ' H' s7 ∧ tn i s7.heap ∧ (∀ b ∈ fp,H' b = none) ∧ W i m σ' H':=fun {σ7 H7} I7 n7 => by
   obtain ⟨m',hm,w7⟩:=hN σ7 H7 n7
   refine ⟨m',hm,i + 1,σ7,H7,I7.unpinned,T.keep _ _ _ st5 fun b hb o e => (I7.pin (b,o) (List.mem_append_right _ (List.mem_append_right _ (cY hb e)))).1,fun b hb => ?_,w7⟩
   obtain ⟨o,e,d⟩:=T.obj _ _ st5 b hb
   exact (I7.pin (b,o) (List.mem_append_right _ (List.mem_append_right _ (cY hb e)))).2.1
  cases f with
  | next => obtain ⟨σ7,H7,I7,n7⟩:=q7; exact again I7 n7
  | cont => obtain ⟨σ7,H7,I7,n7⟩:=q7; exact again I7 n7
  | brk => obtain ⟨σ7,H7,I7,q7⟩:=q7; exact ⟨σ7,H7,I7.unpinned,q7⟩
  | ret v => obtain ⟨x7,σ7,H7,I7,r7,q7⟩:=q7; exact ⟨x7,σ7,H7,I7.unpinned,r7,q7⟩
end
end L2
namespace L2
open PySem PySem.Spec PyProof.Rows
abbrev R2:=V -> V -> Hp -> VK -> Prop
def f9 (X:Cx) (f:Value -> Value -> Sem Value) (r:R2):Prop :=
 ∀ (pins:List (Addr × Obj)) (s:Shared) (σ:St) (H:Hp) (x y:V) (v u:Value) (Q:VK),Inv X pins σ H s -> RelV x v -> RelV y u -> r x y H Q ->
  wpAny (model X.prog X.w) X.A (f v u) (EP X pins σ Q) X.xe s
def cQ (X:Cx) (f:Value) (r:List V -> Hp -> VK -> Prop):Prop :=
 ∀ (pins:List (Addr × Obj)) (s:Shared) (σ:St) (H:Hp) (xs:List V) (us:List Value) (Q:VK),Inv X pins σ H s -> Vals xs us -> r xs H Q ->
  wpAny (model X.prog X.w) X.A (call f us) (EP X pins σ Q) X.xe s
def FQ (X:Cx) (r:V -> Hp -> (Bool -> Hp -> Prop) -> Prop):Prop :=
 ∀ (pins:List (Addr × Obj)) (s:Shared) (σ:St) (H:Hp) (x:V) (v:Value) (Q:Bool -> Hp -> Prop),Inv X pins σ H s -> RelV x v -> r x H Q ->
  wpAny (model X.prog X.w) X.A (truthy v) (TP X pins σ Q) X.xe s
def Af (r:R2) (ta tb:TE):TE:=fun σ H Q => ta σ H fun x H1 => tb σ H1 fun y H2 => r x y H2 Q
def rI (C:Int -> Int -> Prop) (g:Int -> Int -> V):R2:=fun x y H Q => ∃ i j,x = .int i ∧ y = .int j ∧ C i j ∧ Q (g i j) H
def qG (g:Int -> Int -> V):R2:=fun x y H Q => ∃ i j,x = .int i ∧ y = .int j ∧ Q (g i j) H
section
variable {X:Cx} {a b c:Expr} {ta tb tc:TE} {pos:Pos}
theorem BH (ha:PE X a ta) (hb:PE X b tb) {pins:List (Addr × Obj)} {s:Shared} {σ:St} {H:Hp} {R:V -> V -> Hp -> Prop} (I:Inv X pins σ H s)
  (h:ta σ H fun x H1 => tb σ H1 fun y H2 => R x y H2) {Q:Value -> Shared -> Prop} {f:Value -> Value -> Sem Value}
  (hf:∀ v u s2 x y H2,Inv X pins σ H2 s2 -> RelV x v -> RelV y u -> R x y H2 -> wpAny (model X.prog X.w) X.A (f v u) Q X.xe s2) :
  wpAny (model X.prog X.w) X.A (eval a X.env) (fun v s₁ => wpAny (model X.prog X.w) X.A (eval b X.env) (fun u s₂ => wpAny (model X.prog X.w) X.A (f v u) Q X.xe s₂) X.xe s₁) X.xe s:= by
 refine bj (ha pins s σ H _ I h) fun v s1 ⟨x,H1,I1,r1,q1⟩ => ?_
 refine bj (hb pins s1 σ H1 _ I1 q1) fun u s2 ⟨y,H2,I2,r2,q2⟩ => ?_
 exact hf v u s2 x y H2 I2 r1 r2 q2
theorem Au {op:Operator} {r:R2} (ho:f9 X (binaryOp op) r) (ha:PE X a ta) (hb:PE X b tb):PE X (.BinOp a op b pos) (Af r ta tb):= by
 intro pins s σ H Q I h
 exact wpAny_BinOp (BH ha hb I h fun v u s2 x y H2 I2 rx ry q => ho pins s2 σ H2 x y v u Q I2 rx ry q)
theorem Fs {f:Value -> Value -> Sem Value} {C:Int -> Int -> Prop} {g:Int -> Int -> Int}
  (rule:∀ (i j:Int) (t u:Tok) (s:Shared) (Q:Value -> Shared -> Prop) (E:Value -> Shared -> Prop),C i j -> Q (.int (g i j) s.toks) { s with toks:=s.toks + 1 } -> wpAny (model X.prog X.w) X.A (f (.int i t) (.int j u)) Q E s) :
  f9 X f (rI C fun i j => .int (g i j)):= by
 intro pins s σ H x y v u Q I rx ry h
 obtain ⟨i,j,rfl,rfl,hc,q⟩:=h
 obtain ⟨t,rfl⟩:=rx
 obtain ⟨t',rfl⟩:=ry
 exact rule i j t t' s _ _ hc ⟨.int (g i j),H,I.tok _,⟨_,rfl⟩,q⟩
theorem EA {f:Value -> Value -> Sem Value} {g:Int -> Int -> Int}
  (rule:∀ (i j:Int) (t u:Tok) (s:Shared) (Q:Value -> Shared -> Prop) (E:Value -> Shared -> Prop),Q (.int (g i j) s.toks) { s with toks:=s.toks + 1 } -> wpAny (model X.prog X.w) X.A (f (.int i t) (.int j u)) Q E s) :
  f9 X f (qG fun i j => .int (g i j)):= by
 intro pins s σ H x y v u Q I rx ry h
 obtain ⟨i,j,rfl,rfl,q⟩:=h
 obtain ⟨t,rfl⟩:=rx
 obtain ⟨t',rfl⟩:=ry
 exact rule i j t t' s _ _ ⟨.int (g i j),H,I.tok _,⟨_,rfl⟩,q⟩
theorem A7 {f:Value -> Value -> Sem Value} {g:Int -> Int -> Bool}
  (rule:∀ (i j:Int) (t u:Tok) (s:Shared) (Q:Value -> Shared -> Prop) (E:Value -> Shared -> Prop),Q (.bool (g i j)) s -> wpAny (model X.prog X.w) X.A (f (.int i t) (.int j u)) Q E s) :
  f9 X f (qG fun i j => .bl (g i j)):= by
 intro pins s σ H x y v u Q I rx ry h
 obtain ⟨i,j,rfl,rfl,q⟩:=h
 obtain ⟨t,rfl⟩:=rx
 obtain ⟨t',rfl⟩:=ry
 exact rule i j t t' s _ _ ⟨.bl (g i j),H,I,rfl,q⟩
def FE (i j:Int):Prop:=0 < j ∧ j < 1073741824
def CJ (i j:Int):Prop:=(-(2 ^ 64) < i ∧ i < 2 ^ 64) ∨ (-(2 ^ 64) < j ∧ j < 2 ^ 64)
theorem CJ.ok {i j:Int} (h:CJ i j):IntMulOk i j:= by
 rcases h with ⟨h1,h2⟩ | ⟨h1,h2⟩
 ·exact .of_left (intBits_le_64 h1 h2)
 ·exact .of_right (intBits_le_64 h1 h2)
theorem A4:f9 X (binaryOp .Add) (qG fun i j => .int (i + j)):=EA fun _ _ _ _ _ _ _ q => add_int q
theorem Bw:f9 X (binaryOp .Sub) (qG fun i j => .int (i - j)):=EA fun _ _ _ _ _ _ _ q => sub_int q
theorem Bf:f9 X (binaryOp .Mult) (rI CJ fun i j => .int (i * j)):=Fs fun _ _ _ _ _ _ _ hc q => mul_int q hc.ok
theorem yv:f9 X (binaryOp .FloorDiv) (rI FE fun i j => .int (i / j)):=Fs fun i j _ _ _ _ _ hc q => by
 have h1:(0:Int) < j:=hc.1
 have h2:j < 1073741824:=hc.2
 exact floordiv_int (by omega) (by rw [Int.fdiv_eq_ediv_of_nonneg i (by omega)]; exact q) (.inl (PyProof.noPylong_small (by omega)))
theorem AO:f9 X (binaryOp .Mod) (rI (fun _ j => 0 < j) fun i j => .int (i % j)):=Fs fun i j _ _ _ _ _ hc q => by
 have h1:(0:Int) < j:=hc
 exact mod_int' (by omega) (by rw [Int.fmod_eq_emod_of_nonneg i (by omega)]; exact q)
end
def kc:V -> V -> Bool
 | .non,.non => true | .non,.int _ => true | .int _,.non => true | .non,.bl _ => true | .bl _,.non => true | .non,.str _ => true | .str _,.non => true
 | .int _,.int _ => true | .bl _,.bl _ => true | .str _,.str _ => true | .byt _,.byt _ => true
 | .int _,.str _ => true | .str _,.int _ => true | .bl _,.str _ => true | .str _,.bl _ => true
 | _,_ => false
def Fj:R2:=fun x y H Q => kc x y = true ∧ Q (.bl (decide (x = y))) H
def Fw:R2:=fun x y H Q => kc x y = true ∧ Q (.bl (!decide (x = y))) H
theorem rF {i j:Int}:decide (V.int i = V.int j) = (i == j):= by
 rw [Bool.eq_iff_iff]
 simp
theorem uF {i j:Bool}:decide (V.bl i = V.bl j) = (i == j):= by
 rw [Bool.eq_iff_iff]
 simp
theorem qI {i j:Str}:decide (V.str i = V.str j) = (i == j):= by
 rw [Bool.eq_iff_iff]
 simp
theorem qT {i j:Array UInt8}:decide (V.byt i = V.byt j) = (i.toList == j.toList):= by
 rw [Bool.eq_iff_iff]
 cases i
 cases j
 simp
section
variable {X:Cx} {a b c:Expr} {ta tb tc:TE} {pos:Pos}
theorem a_ {pins:List (Addr × Obj)} {σ:St} {H:Hp} {s:Shared} {Q:VK} {k k':Bool} (I:Inv X pins σ H s) (q:Q (.bl k) H) (e:k = k'):EP X pins σ Q (.bool k') s:= by
 subst e
 exact ⟨.bl k,H,I,rfl,q⟩
theorem uA:f9 X (compareOp .Eq) Fj:= by
 intro pins s σ H x y v u Q I rx ry h
 obtain ⟨hs,q⟩:=h
 cases x with
 | non =>
  cases rx
  cases y with
  | non => cases ry; exact PySem.EqNone.eq_none_none (a_ I q (by simp))
  | bl j => cases ry; exact PySem.EqNone.eq_none_bool (a_ I q (by simp))
  | int j => obtain ⟨t',rfl⟩:=ry; exact PySem.EqNone.eq_none_int (a_ I q (by simp))
  | str j => obtain ⟨t',rfl⟩:=ry; exact PySem.EqNone.eq_none_str (a_ I q (by simp))
  | _ => exact absurd (show false = true from hs) Bool.false_ne_true
 | bl i =>
  cases rx
  cases y with
  | non => cases ry; exact PySem.EqNone.eq_bool_none (a_ I q (by simp))
  | bl j => cases ry; exact eq_bool (a_ I q uF)
  | str j => obtain ⟨t',rfl⟩:=ry; exact PySem.EqMixed.eq_bool_str (a_ I q (by simp))
  | _ => exact absurd (show false = true from hs) Bool.false_ne_true
 | int i =>
  obtain ⟨t,rfl⟩:=rx
  cases y with
  | non => cases ry; exact PySem.EqNone.eq_int_none (a_ I q (by simp))
  | int j => obtain ⟨t',rfl⟩:=ry; exact eq_int (a_ I q rF)
  | str j => obtain ⟨t',rfl⟩:=ry; exact PySem.EqMixed.eq_int_str (a_ I q (by simp))
  | _ => exact absurd (show false = true from hs) Bool.false_ne_true
 | str i =>
  obtain ⟨t,rfl⟩:=rx
  cases y with
  | non => cases ry; exact PySem.EqNone.eq_str_none (a_ I q (by simp))
  | bl j => cases ry; exact PySem.EqMixed.eq_str_bool (a_ I q (by simp))
  | int j => obtain ⟨t',rfl⟩:=ry; exact PySem.EqMixed.eq_str_int (a_ I q (by simp))
  | str j => obtain ⟨t',rfl⟩:=ry; exact eq_str (a_ I q qI)
  | _ => exact absurd (show false = true from hs) Bool.false_ne_true
 | byt i =>
  obtain ⟨t,rfl⟩:=rx
  cases y with
  | byt j => obtain ⟨t',rfl⟩:=ry; exact PySem.W.eq_bytes (a_ I q qT)
  | _ => exact absurd (show false = true from hs) Bool.false_ne_true
 | _ => cases y <;> exact absurd (show false = true from hs) Bool.false_ne_true
theorem zT:f9 X (compareOp .NotEq) Fw:= by
 intro pins s σ H x y v u Q I rx ry h
 obtain ⟨hs,q⟩:=h
 cases x with
 | non =>
  cases rx
  cases y with
  | non => cases ry; exact PySem.EqNone.ne_none_none (a_ I q (by simp))
  | bl j => cases ry; exact PySem.EqNone.ne_none_bool (a_ I q (by simp))
  | int j => obtain ⟨t',rfl⟩:=ry; exact PySem.EqNone.ne_none_int (a_ I q (by simp))
  | str j => obtain ⟨t',rfl⟩:=ry; exact PySem.EqNone.ne_none_str (a_ I q (by simp))
  | _ => exact absurd (show false = true from hs) Bool.false_ne_true
 | bl i =>
  cases rx
  cases y with
  | non => cases ry; exact PySem.EqNone.ne_bool_none (a_ I q (by simp))
  | bl j => cases ry; exact ne_bool (a_ I q (congrArg not uF))
  | str j => obtain ⟨t',rfl⟩:=ry; exact PySem.EqMixed.ne_bool_str (a_ I q (by simp))
  | _ => exact absurd (show false = true from hs) Bool.false_ne_true
 | int i =>
  obtain ⟨t,rfl⟩:=rx
  cases y with
  | non => cases ry; exact PySem.EqNone.ne_int_none (a_ I q (by simp))
  | int j => obtain ⟨t',rfl⟩:=ry; exact ne_int (a_ I q (congrArg not rF))
  | str j => obtain ⟨t',rfl⟩:=ry; exact PySem.EqMixed.ne_int_str (a_ I q (by simp))
  | _ => exact absurd (show false = true from hs) Bool.false_ne_true
 | str i =>
  obtain ⟨t,rfl⟩:=rx
  cases y with
  | non => cases ry; exact PySem.EqNone.ne_str_none (a_ I q (by simp))
  | bl j => cases ry; exact PySem.EqMixed.ne_str_bool (a_ I q (by simp))
  | int j => obtain ⟨t',rfl⟩:=ry; exact PySem.EqMixed.ne_str_int (a_ I q (by simp))
  | str j => obtain ⟨t',rfl⟩:=ry; exact ne_str (a_ I q (congrArg not qI))
  | _ => exact absurd (show false = true from hs) Bool.false_ne_true
 | byt i =>
  obtain ⟨t,rfl⟩:=rx
  cases y with
  | byt j => obtain ⟨t',rfl⟩:=ry; exact PySem.W.ne_bytes (a_ I q (congrArg not qT))
  | _ => exact absurd (show false = true from hs) Bool.false_ne_true
 | _ => cases y <;> exact absurd (show false = true from hs) Bool.false_ne_true
theorem vV:f9 X (compareOp .Lt) (qG fun i j => .bl (decide (i < j))):=A7 fun _ _ _ _ _ _ _ q => lt_int q
theorem wb:f9 X (compareOp .LtE) (qG fun i j => .bl (decide (i ≤ j))):=A7 fun _ _ _ _ _ _ _ q => le_int q
theorem Ao:f9 X (compareOp .Gt) (qG fun i j => .bl (decide (j < i))):=A7 fun _ _ _ _ _ _ _ q => gt_int q
theorem mn (b:Expr) {op:CmpOp} (h:op ≠ .In:=by decide) (h2:op ≠ .NotIn:=by decide):behindInMarks op b = false:= by
 have e1:(op == CmpOp.In) = false:=by cases op <;> first | rfl | exact absurd rfl h
 have e2:(op == CmpOp.NotIn) = false:=by cases op <;> first | rfl | exact absurd rfl h2
 cases b <;> simp [behindInMarks,e1,e2]
theorem qJ {op:CmpOp} {r:R2} (ho:f9 X (compareOp op) r) (ha:PE X a ta) (hb:PE X b tb) (hm:behindInMarks op b = false):PE X (.Compare a [op] [b] pos) (Af r ta tb):= by
 intro pins s σ H Q I h
 exact wpAny_Compare1 (BH ha hb I h fun v u s2 x y H2 I2 rx ry q => ho pins s2 σ H2 x y v u Q I2 rx ry q) hm
def uJ (t:TE):TT:=fun σ H Q => t σ H fun x H' => ∃ k,x = .bl k ∧ Q k H'
theorem ql {op:CmpOp} {r:R2} (ho:f9 X (compareOp op) r) (ha:PE X a ta) (hb:PE X b tb) (hm:behindInMarks op b = false):PT X (.Compare a [op] [b] pos) (uJ (Af r ta tb)):= by
 intro pins s σ H Q I h
 refine wpAny_isTrue_Compare1 (bj (ha pins s σ H _ I h) fun v s1 ⟨x,H1,I1,r1,q1⟩ => bj (hb pins s1 σ H1 _ I1 q1) fun u s2 ⟨y,H2,I2,r2,q2⟩ =>
  bj (ho pins s2 σ H2 x y v u _ I2 r1 r2 q2) fun c s3 ⟨z,H3,I3,r3,k,e,q3⟩ => ?_) hm
 subst e
 cases r3
 exact wpAny_truthy_bool ⟨H3,I3,q3⟩
def pG (r r':R2) (ta tb tc:TE):TE:=fun σ H Q => ta σ H fun x H1 => tb σ H1 fun y H2 => r x y H2 fun z H3 => ∃ k,z = .bl k ∧
 (if k = true then tc σ H3 fun w' H4 => r' y w' H4 Q else Q (.bl false) H3)
theorem tX {op op':CmpOp} {r r':R2} (ho:f9 X (compareOp op) r) (ho':f9 X (compareOp op') r') (ha:PE X a ta) (hb:PE X b tb) (hc:PE X c tc)
  (hm:lastMarks [op,op'] [b,c] = false:=by with_unfolding_all rfl):PE X (.Compare a [op,op'] [b,c] pos) (pG r r' ta tb tc):= by
 intro pins s σ H Q I h
 refine Compare_chain (bj (ha pins s σ H _ I h) fun v s1 ⟨x,H1,I1,r1,q1⟩ => chain_link (bj (hb pins s1 σ H1 _ I1 q1) fun u s2 ⟨y,H2,I2,r2,q2⟩ =>
  bj (ho pins s2 σ H2 x y v u _ I2 r1 r2 q2) fun d s3 ⟨z,H3,I3,r3,k,e,q3⟩ => ?_)) hm
 subst e
 cases r3
 refine wpAny_truthy_bool ?_
 cases k with
 | false => exact ite_ff ⟨.bl false,H3,I3,rfl,q3⟩
 | true => exact ite_tt (chain_last (bj (hc pins s3 σ H3 _ I3 q3) fun w' s4 ⟨z',H4,I4,r4,q4⟩ => ho' pins s4 σ H4 y z' u w' Q I4 r2 r4 q4))
theorem vS {op op':CmpOp} {r r':R2} (ho:f9 X (compareOp op) r) (ho':f9 X (compareOp op') r') (ha:PE X a ta) (hb:PE X b tb) (hc:PE X c tc)
  (hm:lastMarks [op,op'] [b,c] = false:=by with_unfolding_all rfl):PT X (.Compare a [op,op'] [b,c] pos) (uJ (pG r r' ta tb tc)):= by
 intro pins s σ H Q I h
 refine isTrue_chain (bj (ha pins s σ H _ I h) fun v s1 ⟨x,H1,I1,r1,q1⟩ => test_link (bj (hb pins s1 σ H1 _ I1 q1) fun u s2 ⟨y,H2,I2,r2,q2⟩ =>
  bj (ho pins s2 σ H2 x y v u _ I2 r1 r2 q2) fun d s3 ⟨z,H3,I3,r3,k,e,q3⟩ => ?_)) hm
 subst e
 cases r3
 refine wpAny_truthy_bool ?_
 cases k with
 | false =>
  obtain ⟨k',e',q'⟩:=q3
  cases e'
  exact ite_ff ⟨H3,I3,q'⟩
 | true =>
  refine ite_tt (test_last (bj (hc pins s3 σ H3 _ I3 q3) fun w' s4 ⟨z',H4,I4,r4,q4⟩ => bj (ho' pins s4 σ H4 y z' u w' _ I4 r2 r4 q4) fun d' s5 ⟨z2,H5,I5,r5,k2,e2,q5⟩ => ?_))
  subst e2
  cases r5
  exact wpAny_truthy_bool ⟨H5,I5,q5⟩
def BC (K:PySem.W.Frag) (x:V) (H:Hp) (k:Bool):Prop :=
 match x with
 | .non => k = false
 | .bl b => k = b
 | .int i => k = (i != 0)
 | .str y => y.length ≤ sizeLine ∧ k = ((y.length:Int) != 0)
 | .byt y => y.size ≤ sizeLine ∧ k = ((y.size:Int) != 0)
 | .ref p => (∃ xs,fI K H p xs ∧ k = !xs.isEmpty) ∨ (∃ xs,gp K H p xs ∧ k = !xs.isEmpty) ∨ ∃ kvs,H p = some (.dK kvs) ∧ k = !kvs.isEmpty
 | _ => False
theorem pb {κ:Type} {kvs:List (κ × V)} {vs:List (κ × Value)} (r:KV kvs vs):(!vs.isEmpty) = !kvs.isEmpty:= by
 cases r <;> rfl
theorem kC {xs:List V} {its:List Value} (r:Vals xs its):(!its.toArray.isEmpty) = !xs.isEmpty:= by
 cases r <;> simp
theorem iG:(sizeLine:Nat) < 2 ^ 63:=by rw [sizeLine_eq]; decide
theorem u5:FQ X (fun x H Q => ∃ k,BC X.K x H k ∧ Q k H):= by
 intro pins s σ H x v Q I rx h
 obtain ⟨k,e,q⟩:=h
 have hl:=iG
 have hs:sizeLine = 16777216:=sizeLine_eq
 cases x with
 | non =>
  cases rx
  have e':k = false:=e
  subst e'
  exact truthy_none ⟨H,I,q⟩
 | bl b =>
  cases rx
  have e':k = b:=e
  subst e'
  exact wpAny_truthy_bool ⟨H,I,q⟩
 | int i =>
  obtain ⟨t,rfl⟩:=rx
  have e':k = (i != 0):=e
  subst e'
  exact PySem.P.truthy_int ⟨H,I,q⟩
 | str y =>
  obtain ⟨t,rfl⟩:=rx
  obtain ⟨hy,e'⟩:y.length ≤ sizeLine ∧ k = ((y.length:Int) != 0):=e
  subst e'
  exact PySem.P.truthy_str (by omega) ⟨H,I.tok _,q⟩
 | byt y =>
  obtain ⟨t,rfl⟩:=rx
  obtain ⟨hy,e'⟩:y.size ≤ sizeLine ∧ k = ((y.size:Int) != 0):=e
  subst e'
  exact PySem.W.truthy_bytes (by omega) ⟨H,I.tok _,q⟩
 | ref p =>
  cases rx
  have e':(∃ xs,fI X.K H p xs ∧ k = !xs.isEmpty) ∨ (∃ xs,gp X.K H p xs ∧ k = !xs.isEmpty) ∨ ∃ kvs,H p = some (.dK kvs) ∧ k = !kvs.isEmpty:=e
  rcases e' with ⟨xs,hx,e'⟩ | ⟨xs,hx,e'⟩ | ⟨kvs,hx,e'⟩
  ·subst e'
   obtain ⟨its,r,pl,hz⟩:=I.list hx
   have hlen:=r.length
   exact wpAny_truthy_list pl.isList (by simp only [List.size_toArray]; omega) ⟨H,I.tok _,by rw [kC r]; exact q⟩
  ·subst e'
   obtain ⟨its,r,pl,hz⟩:=I.tuple hx
   have hlen:=r.length
   exact truthy_tuple pl (by simp only [List.size_toArray]; omega) ⟨H,I.tok _,by rw [kC r]; exact q⟩
  ·subst e'
   obtain ⟨hz,hS,vs,r,m⟩:kvs.length ≤ sizeLine ∧ (p == sysModules) = false ∧ ∃ vs,KV kvs vs ∧ s.heap.DictOf (aY X.prog X.w) p vs:=I.hok p _ hx
   have hlen:kvs.length = vs.length:=Paired.length r
   exact wpAny_truthy_dict hS m (by omega) ⟨H,I.tok _,by rw [pb r]; exact q⟩
 | _ => exact (show False from e).elim
theorem vg (ha:PE X a ta) (he:∀ whole,isTrue a X.env whole = (do let v <- whole; standAt a.pos; holding [v] (truthy v))) :
  PT X a (fun σ H Q => ta σ H fun x H' => ∃ k,BC X.K x H' k ∧ Q k H'):= by
 intro pins s σ H Q I h
 exact isTrue_plain (bj (ha pins s σ H _ I h) fun v s1 ⟨x,H1,I1,r1,q1⟩ => u5 pins s1 σ H1 x v Q I1 r1 q1) (he _)
theorem vals1 {x:V} {us:List Value} (r:Vals [x] us):∃ u,us = [u] ∧ RelV x u:= by
 cases r with
 | cons r1 r2 => cases r2; exact ⟨_,rfl,r1⟩
theorem vals2 {x y:V} {us:List Value} (r:Vals [x,y] us):∃ u w',us = [u,w'] ∧ RelV x u ∧ RelV y w':= by
 cases r with
 | cons r1 r2 =>
  cases r2 with
  | cons r3 r4 => cases r4; exact ⟨_,_,rfl,r1,r3⟩
theorem tq (hc:X.calm = true):cQ X (.builtin "max") (fun xs H Q => ∃ i j,xs = [.int i,.int j] ∧ Q (.int (if j > i then j else i)) H):= by
 intro pins s σ H xs us Q I r h
 obtain ⟨i,j,rfl,q⟩:=h
 obtain ⟨u,w',rfl,⟨t,rfl⟩,⟨t',rfl⟩⟩:=vals2 r
 refine max_two_ints (I.ok.hd hc) fun h' tk k => ⟨_,H,I.kept k,?_,q⟩
 by_cases hj:j > i
 ·rw [if_pos hj,if_pos hj]; exact ⟨_,rfl⟩
 ·rw [if_neg hj,if_neg hj]; exact ⟨_,rfl⟩
theorem r_ (hc:X.calm = true):cQ X (.builtin "min") (fun xs H Q => ∃ i j,xs = [.int i,.int j] ∧ Q (.int (if j < i then j else i)) H):= by
 intro pins s σ H xs us Q I r h
 obtain ⟨i,j,rfl,q⟩:=h
 obtain ⟨u,w',rfl,⟨t,rfl⟩,⟨t',rfl⟩⟩:=vals2 r
 refine min_two_ints (I.ok.hd hc) fun h' tk k => ⟨_,H,I.kept k,?_,q⟩
 by_cases hj:j < i
 ·rw [if_pos hj,if_pos hj]; exact ⟨_,rfl⟩
 ·rw [if_neg hj,if_neg hj]; exact ⟨_,rfl⟩
end
end L2
namespace L2
open PySem PySem.Spec PyProof.Rows
section
variable {prog:Program} {w:World} {A:Around} {E:Value -> Shared -> Prop} {s:Shared} {K:PySem.W.Frag} {x dx C f:Addr} {mA:Str -> Option Value} {name:Str} {v:Value}
end
theorem RelO.some_of {v:V} {o:Option Value} (r:RelO (some v) o):∃ u,o = some u ∧ RelV v u:= by
 cases o with
 | none => exact (show False from r).elim
 | some u => exact ⟨u,rfl,r⟩
theorem RelO.none_of {o:Option Value} (r:RelO none o):o = none:= by
 cases o with
 | none => rfl
 | some u => exact (show False from r).elim
section
variable {P:Program} {w:World} {H H':Hp} {h h':Heap} {a C dx:Addr} {fs fs':List (Str × V)}
end
section
variable {X:Cx} {pins:List (Addr × Obj)} {σ:St} {H:Hp} {s:Shared} {a C dx:Addr} {fs:List (Str × V)} {f:Str} {v:V} {A:Around} {E:Value -> Shared -> Prop}
end
def FV (X:Cx) (op:Operator) (rd:V -> V -> Hp -> VK -> Prop):Prop :=
 ∀ (pins:List (Addr × Obj)) (s:Shared) (σ:St) (H:Hp) (x y:V) (u v:Value) (Q:VK),Inv X pins σ H s -> RelV x u -> RelV y v -> rd x y H Q -> wpAny (model X.prog X.w) X.A (inplaceOp op u v) (EP X pins σ Q) X.xe s
section
variable {X:Cx} {o e value:Expr} {f:Str} {pos pos' tpos:Pos} {ta tv:TE}
end
section
variable {X:Cx} {pins:List (Addr × Obj)} {σ:St} {H:Hp} {s:Shared} {A:Around} {E:Value -> Shared -> Prop} {Q:Value -> Shared -> Prop} {c:Value} {b:Bool}
end
end L2
namespace L2
open PySem PySem.Spec PyProof.Rows
structure b6 (k:Nat) (A:Around):Prop where
 hd:A.handled = none
 dp:A.depth + 3 * k + 5 < recursionLimit
 un:A.units + 16 * k + 200 < cLine
 gd:A.guards = some []
theorem b6.mono {j k:Nat} {A:Around} (r:b6 k A) (h:j ≤ k):b6 j A:=⟨r.hd,by have:=r.dp; omega,by have:=r.un; omega,r.gd⟩
theorem b6.deeper {k:Nat} {A:Around} (r:b6 (k + 1) A) (env:Env):b6 k (A.deeper env) :=
 ⟨r.hd,by have:=r.dp; show A.depth + 1 + 3 * k + 5 < _; omega,by have:=r.un; show A.units + 3 + 16 * k + 200 < _; omega,r.gd⟩
theorem b6.depth {k:Nat} {A:Around} (r:b6 k A):A.depth < recursionLimit:=by have:=r.dp; omega
def F6:TA:=fun _ H Q => Q [] H
def D3 (ta:TE) (tr:TA):TA:=fun σ H Q => ta σ H fun x H1 => tr σ H1 fun xs H2 => Q (x :: xs) H2
section
variable {X:Cx} {e:Expr} {es:List Expr} {te:TE} {t:TA} {pos:Pos}
theorem eZ:PA X [] F6:=fun _ _ _ _ H Q I h => Calls.spliced_nil ⟨[],H,I,.nil,h⟩
theorem cG (ha:PE X e te) (hr:PA X es t) (hs:starEach (e :: es) X.env = (false,eval e X.env) :: starEach es X.env:=by rfl):PA X (e :: es) (D3 te t):= by
 intro pos pins s σ H Q I h
 rw [hs]
 show wpAny _ _ (spliced ((false,eval e X.env) :: backTo pos (starEach es X.env))) _ _ s
 refine Calls.spliced_cons (bj (ha pins s σ H _ I h) fun u s1 ⟨x,H1,I1,r1,q1⟩ => ?_)
 exact bj (hr pos pins s1 σ H1 _ I1 q1) fun us s2 ⟨xs,H2,I2,r2,q2⟩ => ⟨x :: xs,H2,I2,.cons r1 r2,q2⟩
def Fz (t:TA):TE:=fun σ H Q => t σ H fun xs H1 => xs.length ≤ sizeLine ∧ ∀ p,H1 p = none -> Q (.ref p) (upd H1 p (.tup xs))
def E_ (t:TA):TE:=fun σ H Q => t σ H fun xs H1 => xs.length ≤ sizeLine ∧ ∀ p,H1 p = none -> Q (.ref p) (upd H1 p (.lst xs))
theorem B7 {x1} (h:PA X es t):PE X (.Tuple es x1 pos) (Fz t):= by
 intro pins s σ H Q I hq
 refine wpAny_Tuple_spliced (bj (h pos pins s σ H _ I hq) fun us s1 ⟨xs,H1,I1,r,z,q⟩ => ⟨by rw [<- r.length]; exact z,?_⟩)
 have hf:H1 s1.heap.objs.size = none:=I1.hok.fresh (Nat.le_refl _)
 refine ⟨.ref s1.heap.objs.size,upd H1 s1.heap.objs.size (.tup xs),I1.laid (t':=s1.toks) (fun b u e => Heap.get?_push_of_some _ e) (Nat.le_refl _) ?_,rfl,q _ hf⟩
 exact ⟨z,us,r,⟨_,Heap.get?_push_size _ rfl,rfl,_,rfl⟩,_,Heap.get?_push_size _ rfl,rfl⟩
theorem BP (h:PA X es t):PE X (.List es pos) (E_ t):= by
 intro pins s σ H Q I hq
 refine wpAny_List_spliced (bj (h pos pins s σ H _ I hq) fun us s1 ⟨xs,H1,I1,r,z,q⟩ => ⟨by rw [<- r.length]; exact z,?_⟩)
 have hf:H1 s1.heap.objs.size = none:=I1.hok.fresh (Nat.le_refl _)
 refine ⟨.ref s1.heap.objs.size,upd H1 s1.heap.objs.size (.lst xs),I1.laid (t':=s1.toks) (fun b u e => Heap.get?_push_of_some _ e) (Nat.le_refl _) ?_,rfl,q _ hf⟩
 exact ⟨z,us,0,r,Heap.get?_push_size _ rfl⟩
end
abbrev Sp:=List V -> Hp -> VK -> XK -> Prop
abbrev oT:=List Env -> Hp -> Shared -> XK -> Value -> Shared -> Prop
structure yc (P:Program) (w:World) (K:PySem.W.Frag) (mg:Str -> Option Value) (base:Heap) (A:Around) (outer:List Env) (s:Shared) (H:Hp):Prop where
 frames:A.frames = some outer
 mod:Mod K mg base
 bs:∀ b o,base.get? b = some o -> s.heap.get? b = some o ∧ H b = none
 bsz:base.objs.size ≤ s.heap.objs.size
 funs:s.heap.FunFrames base outer
 frf:∀ b ∈ tL outer,H b = none
 hok:iq P w H s.heap
 bare:AllBare s.gens
def CE (outer:List Env) (P:Program) (w:World) (H:Hp) (s:Shared) (Q:VK) (u:Value) (s':Shared):Prop :=
 ∃ v H',s'.os = s.os ∧ AllBare s'.gens ∧ Un (tL outer) [] H H' s.heap s'.heap ∧ iq P w H' s'.heap ∧ RelV v u ∧ Q v H'
def CR (CX:oT) (outer:List Env) (P:Program) (w:World) (H:Hp) (s:Shared) (Q:VK) (E:XK) (r:Result) (s':Shared):Prop :=
 match r with
 | .ok (.ret u) => CE outer P w H s Q u s'
 | .ok _ => False
 | .error e => CX outer H s E e s'
structure c8 (P:Program) (w:World) (K:PySem.W.Frag) (mg:Str -> Option Value) (base:Heap) (CX:oT) (k:Nat) (f:Addr) (fd:FuncData) (ps:List Str) (sp:Sp):Prop where
 len:∀ vs H Q E,sp vs H Q E -> vs.length = ps.length
 run:∀ (A:Around) (outer:List Env) (s:Shared) (H:Hp) (args:Args) (us:List Value) (vs:List V) (Q:VK) (E:XK),b6 k A -> yc P w K mg base A outer s H -> BindsTo s fd args (ps.zip us) -> Vals vs us -> sp vs H Q E ->
  codeAny (model P w) A (.call (.ref f) args) (CR CX outer P w H s Q E) s
theorem c8.mono {P:Program} {w:World} {K:PySem.W.Frag} {mg:Str -> Option Value} {base:Heap} {CX:oT} {j k:Nat} {f:Addr} {fd:FuncData} {ps:List Str} {sp:Sp} (F:c8 P w K mg base CX j f fd ps sp) (h:j ≤ k) :
  c8 P w K mg base CX k f fd ps sp:=⟨F.len,fun A outer s H args us vs Q E hr => F.run A outer s H args us vs Q E (hr.mono h)⟩
theorem c8.imp {P:Program} {w:World} {K:PySem.W.Frag} {mg:Str -> Option Value} {base:Heap} {CX:oT} {k:Nat} {f:Addr} {fd:FuncData} {ps:List Str} {sp sp':Sp} (F:c8 P w K mg base CX k f fd ps sp)
  (h:∀ vs H Q E,sp' vs H Q E -> sp vs H Q E):c8 P w K mg base CX k f fd ps sp' :=
 ⟨fun vs H Q E q => F.len vs H Q E (h _ _ _ _ q),fun A outer s H args us vs Q E hr he hb hv hs => F.run A outer s H args us vs Q E hr he hb hv (h _ _ _ _ hs)⟩
section
variable {X:Cx} {pins:List (Addr × Obj)} {σ:St} {H:Hp} {s s':Shared}
theorem Inv.env0 (I:Inv X pins σ H s):yc X.prog X.w X.K X.mg X.base X.A X.stack s H :=
 ⟨I.ok.frames,I.ok.mod,I.bs,Nat.le_trans I.ok.bsz I.sz,I.stack,I.stkFree,I.hok,I.bare⟩
theorem Inv.after {Q:VK} {u:Value} (I:Inv X pins σ H s) (h:CE X.stack X.prog X.w H s Q u s'):EP X pins σ Q u s':= by
 obtain ⟨v,H',os,bare,un,hok,r,q⟩:=h
 obtain ⟨hh,g,d,t,os'⟩:=s'
 obtain rfl:os' = s.os:=os
 exact ⟨v,H',I.call (h':=hh) (g':=g) (d':=d) (t':=t) (ch:=[]) un hok bare (fun b z => absurd z (by simp)),r,q⟩
end
def C4 (sp:Sp) (dvs:List V) (E:XK) (t:TA):TE:=fun σ H Q => t σ H fun vs H1 => sp (vs ++ dvs) H1 Q E
def Binds (K:PySem.W.Frag) (fd:FuncData) (ps:List Str) (ds:List Value):Prop :=
 ∀ (s:Shared) (us:List Value),K.In s.heap -> (us ++ ds).length = ps.length -> BindsTo s fd ⟨us,[]⟩ (ps.zip (us ++ ds))
theorem Binds.all {K:PySem.W.Frag} {fd:FuncData} {ps:List Str} (h:∀ us:List Value,us.length = ps.length -> bindArgs fd ⟨us,[]⟩ = pure (ps.zip us)):Binds K fd ps []:=fun s us _ hl => by
 rw [List.append_nil] at hl ⊢
 exact .of_eq (h us hl)
def Passes (CX:oT) (X:Cx) (E:XK):Prop:=∀ (pins:List (Addr × Obj)) (σ:St) (H:Hp) (s:Shared) (e:Value) (s':Shared),Inv X pins σ H s -> CX X.stack H s E e s' -> X.xe e s'
section
variable {X:Cx} {CX:oT} {k:Nat} {f C:Addr} {fd:FuncData} {ps:List Str} {sp:Sp} {dvs:List V} {ds:List Value} {E:XK} {x m:Str} {p pos apos:Pos} {e o:Expr} {es:List Expr} {ta:TE} {t:TA}
theorem AX {pins:List (Addr × Obj)} {σ:St} {H:Hp} {s:Shared} {Q:VK} {us:List Value} {vs:List V} (F:c8 X.prog X.w X.K X.mg X.base CX k f fd ps sp) (hr:b6 k X.A) (hb:Binds X.K fd ps ds) (hd:Vals dvs ds) (hx:Passes CX X E)
  (I:Inv X pins σ H s) (r:Vals vs us) (h:sp (vs ++ dvs) H Q E):wpAny (model X.prog X.w) X.A (call (.ref f) us) (EP X pins σ Q) X.xe s:= by
 have r2:Vals (vs ++ dvs) (us ++ ds):=r.append hd
 have hl:(us ++ ds).length = ps.length:=by rw [<- r2.length]; exact F.len _ _ _ _ h
 refine wpAny_call (codeAny_mono (F.run X.A X.stack s H ⟨us,[]⟩ (us ++ ds) (vs ++ dvs) Q E hr I.env0 (hb s us I.kIn hl) r2 h) fun r s' hq => ?_)
 cases r with
 | error e => exact hx pins σ H s e s' I hq
 | ok fl =>
  cases fl with
  | ret u => exact I.after hq
  | next => exact False.elim hq
  | brk => exact False.elim hq
  | cont => exact False.elim hq
theorem mi (F:c8 X.prog X.w X.K X.mg X.base CX k f fd ps sp) (hr:b6 k X.A) (hg:Gl X x) (hm:X.mg x = some (.ref f)) (hk:PySem.W.keepIn X.K (.ref f) = true) (hb:Binds X.K fd ps ds) (hd:Vals dvs ds) (hx:Passes CX X E)
  (ha:PA X (e :: es) t) (hdb:(x == ("__debug__":Str)) = false:=by decide) (he:starEach (e :: es) X.env = (false,eval e X.env) :: starEach es X.env:=by rfl) (hpl:(backTo pos (starEach es X.env)).any (·.1) = false:=by rfl) :
  PE X (.Call (.Name x p) (e :: es) [] pos) (C4 sp dvs E t):= by
 intro pins s σ H Q I h
 refine wpAny_Call_Name_kw (qL I hg hm ?_ hdb)
 refine PySem.W.callWith_K (h₀:=X.base) I.ok.mod.kin hk (bj (ha pos pins s σ H _ I h) fun us s1 ⟨vs,H1,I1,r,q⟩ => ⟨I1.kIn,?_⟩) he hpl
 exact AX F hr hb hd hx I1 r q
structure Mk (K:PySem.W.Frag) (C f:Addr):Prop where
 makes:PySem.W.makesIn K C = true
 init:PySem.W.findIn K (.ref C) "__init__" = some (some (.ref f))
 fn:PySem.W.isFn K (.ref f) = true
 kp:PySem.W.keepIn K (.ref C) = true
end
section
variable {X:Cx} {CX:oT} {k:Nat} {f C:Addr} {fd:FuncData} {ps ks:List Str} {sp:Sp} {E:XK} {x m:Str} {p pos apos kpos:Pos} {e o:Expr} {es:List Expr} {kws:List Keyword} {te ta:TE} {t tk:TA} {nm:Option Str}
variable {g:List Value -> List Value -> List Value} {gV:List V -> List V -> List V}
end
structure aB (N P:List Str) (sc:Scope):Prop where
 kind:sc.kind = .function
 co:sc.isCoroutine = false
 gen:sc.isGenerator = false
 nd:N.Nodup
 pre:N.take P.length = P
 par:∀ x ∈ P,sc.names.lookup x = some .local ∨ sc.names.lookup x = some .cell
 nofree:∀ y ∈ sc.names,y.2 ≠ .free
theorem k4 {kindOf:Str -> Option NameKind} {x:Str}:∀ {binds:List (Str × Value)} {m:Str -> Option Value},(∀ v,(x,v) ∉ binds) -> bindL kindOf binds m x = m x
 | [],_,_ => rfl
 | (n,v) :: r,m,h => by
  unfold bindL
  rw [k4 fun w hw => h w (List.mem_cons_of_mem _ hw)]
  split
  ·have:x ≠ n:=by rintro rfl; exact h v List.mem_cons_self
   simp [this]
  ·rfl
theorem lj {kindOf:Str -> Option NameKind} {x:Str}:∀ {binds:List (Str × Value)} {m:Str -> Option Value},(∀ v,(x,v) ∉ binds) -> bindC kindOf binds m x = m x
 | [],_,_ => rfl
 | (n,v) :: r,m,h => by
  unfold bindC
  rw [lj fun w hw => h w (List.mem_cons_of_mem _ hw)]
  split
  ·rfl
  ·have:x ≠ n:=by rintro rfl; exact h v List.mem_cons_self
   simp [this]
theorem lR {kindOf:Str -> Option NameKind} {x:Str} {v:Value}:∀ {P:List Str} {vs:List Value} {i:Nat} {m:Str -> Option Value},P.Nodup -> P[i]? = some x -> vs[i]? = some v -> kindOf x = some .local ->
  bindL kindOf (P.zip vs) m x = some v
 | [],_,_,_,_,h,_,_ => by simp at h
 | _ :: _,[],_,_,_,_,h,_ => by simp at h
 | p :: P,w :: vs,0,m,nd,h1,h2,hk => by
  simp at h1 h2; subst h1; subst h2
  show bindL kindOf ((p,w) :: P.zip vs) m p = _
  unfold bindL
  rw [k4 fun v hv => (List.nodup_cons.mp nd).1 (List.of_mem_zip hv).1,if_pos hk]
  simp
 | p :: P,w :: vs,i + 1,m,nd,h1,h2,hk => by
  show bindL kindOf ((p,w) :: P.zip vs) m x = _
  unfold bindL
  exact lR (i:=i) (List.nodup_cons.mp nd).2 (by simpa using h1) (by simpa using h2) hk
theorem k6 {kindOf:Str -> Option NameKind} {x:Str} {v:Value}:∀ {P:List Str} {vs:List Value} {i:Nat} {m:Str -> Option Value},P.Nodup -> P[i]? = some x -> vs[i]? = some v -> kindOf x ≠ some .local ->
  bindC kindOf (P.zip vs) m x = some v
 | [],_,_,_,_,h,_,_ => by simp at h
 | _ :: _,[],_,_,_,_,h,_ => by simp at h
 | p :: P,w :: vs,0,m,nd,h1,h2,hk => by
  simp at h1 h2; subst h1; subst h2
  show bindC kindOf ((p,w) :: P.zip vs) m p = _
  unfold bindC
  rw [lj fun v hv => (List.nodup_cons.mp nd).1 (List.of_mem_zip hv).1,if_neg hk]
  simp
 | p :: P,w :: vs,i + 1,m,nd,h1,h2,hk => by
  show bindC kindOf ((p,w) :: P.zip vs) m x = _
  unfold bindC
  exact k6 (i:=i) (List.nodup_cons.mp nd).2 (by simpa using h1) (by simpa using h2) hk
def start (N:List Str) (vs:List V):St:=vs.map some ++ List.replicate (N.length - vs.length) none
def ic (CX:oT) (P:Program) (w:World) (K:PySem.W.Frag) (mg:Str -> Option Value) (base:Heap) (N:List Str) (qual:Str) (scope:Scope) (f:Addr) (cd:Value) (A:Around) (outer:List Env) (s:Shared) (H:Hp) (E:XK):Cx where
 prog:=P
 w:=w
 K:=K
 mg:=mg
 base:=base
 A:=A.deeper (envOfC qual scope s.heap.objs.size f cd)
 N:=N
 s₀:=s
 H₀:=H
 env:=envOfC qual scope s.heap.objs.size f cd
 outer:=outer
 stack:=envOfC qual scope s.heap.objs.size f cd :: outer
 ex:=[]
 calm:=true
 fn:=fun _ => true
 pn:=[]
 xe:=fun e s' => wpAny (model P w) (A.deeper (envOfC qual scope s.heap.objs.size f cd)) (leaving (envOfC qual scope s.heap.objs.size f cd) e) (fun _ s'' => CX outer H s E e s'') (fun e' s'' => CX outer H s E e' s'') s'
theorem oD {sc:Scope} {n:Nat} {x:Str} (h:sc.names.lookup x = some .cell):∃ c,(cellsFrom n sc.names []).lookup x = some c:= by
 have q:=PySem.W.cellsFrom_some sc.names n [] (.inl h)
 exact Option.isSome_iff_exists.mp q
theorem tD {CX:oT} {P:Program} {w:World} {K:PySem.W.Frag} {mg:Str -> Option Value} {base:Heap} {N ps:List Str} {qual:Str} {scope:Scope} {f:Addr} {cd:Value} {A:Around} {outer:List Env} {s s1:Shared} {H:Hp} {E:XK} {us:List Value} {vs:List V}
  (S:aB N ps scope) (hd:A.handled = none) (e0:yc P w K mg base A outer s H) (hl:vs.length = ps.length) (r:Vals vs us)
  (x:InCallC s s.heap.objs.size (bindL (envOfC qual scope s.heap.objs.size f cd).kindOf (ps.zip us) fun _ => none) (cellsFrom (s.heap.objs.size + 1) scope.names []) (bindC (envOfC qual scope s.heap.objs.size f cd).kindOf (ps.zip us) fun _ => none) s1) :
  Inv (ic CX P w K mg base N qual scope f cd A outer s H E) [] (start N vs) H s1:= by
 have hpl:ps.length ≤ N.length:=by have:=congrArg List.length S.pre; rw [List.length_take] at this; omega
 obtain ⟨h1,tk,rfl,hk⟩:=x.done
 have noA:∀ b:Addr,b ∉ (ic CX P w K mg base N qual scope f cd A outer s H E).ex:=fun b z => absurd (show b ∈ ([]:List Addr) from z) (by simp)
 refine ⟨⟨e0.mod,S.kind,rfl,rfl,Nat.le_refl _,fun y z c h1 h2 => ?_,fun y hy => ?_,fun y c _ h => ?_,fun _ => hd,Around.frames_deeper e0.frames,.inr ⟨rfl,rfl⟩,fun b z => absurd z (noA b),e0.bs,e0.bsz,fun b _ _ => noA b,fun b z => absurd z (noA b),e0.funs,e0.frf⟩,
  rfl,e0.bare,Un.kept hk,⟨_,x.toInCall.ns,fun i y v h1 h2 h3 => ?_⟩,fun y c h => ⟨_,x.cell y c h⟩,e0.hok.fresh (Nat.le_refl _),fun y c h => ?_,fun p hp => absurd (show p ∈ ([]:List (Addr × Obj)) from hp) (by simp),e0.hok.kept hk,?_⟩
 ·exact name_of_addr x.apart (PySem.mem_of_lookup h1) (PySem.mem_of_lookup h2)
 ·have hy:scope.names.lookup y = some .cell ∨ scope.names.lookup y = some .free:=hy
  rcases hy with hy | hy
  ·exact oD hy
  ·exact absurd rfl (S.nofree _ (PySem.mem_of_lookup hy))
 ·exact Nat.le_of_lt (x.above y c (PySem.mem_of_lookup h))
 ·have hi:i < vs.length:= by
   unfold start at h2
   by_cases hi:i < vs.length
   ·exact hi
   ·rw [List.getElem?_append_right (by simpa using hi)] at h2
    rw [List.getElem?_replicate] at h2
    split at h2 <;> cases h2
  have ha:vs[i]? = some v:= by
   unfold start at h2
   rw [List.getElem?_append_left (by simpa using hi),List.getElem?_map] at h2
   cases e:vs[i]? with
   | none => rw [e] at h2; cases h2
   | some a => rw [e] at h2; cases h2; rfl
  obtain ⟨u,hu,rv⟩:=r.get ha
  have hp:ps[i]? = some y:= by
   rw [<- S.pre,List.getElem?_take_of_lt (by omega)]; exact h1
  have ndP:ps.Nodup:=by rw [<- S.pre]; exact S.nd.sublist (List.take_sublist _ _)
  refine ⟨u,rv,?_⟩
  rcases S.par y (List.mem_of_getElem? hp) with k | k
  ·exact .inl ⟨k,lR ndP hp hu k⟩
  ·obtain ⟨c,e⟩:=oD (n:=s.heap.objs.size + 1) k
   refine .inr ⟨.inl k,c,e,?_⟩
   have q:=x.cell y c e
   rw [k6 ndP hp hu (by show scope.names.lookup y ≠ _; rw [k]; decide)] at q
   exact q
 ·exact e0.hok.fresh (Nat.le_of_lt (x.above y c (PySem.mem_of_lookup h)))
 ·unfold start
  show _ = N.length
  rw [List.length_append,List.length_map,List.length_replicate]
  omega
theorem C7 {CX:oT} {P:Program} {w:World} {K:PySem.W.Frag} {mg:Str -> Option Value} {base:Heap} {k:Nat} {f:Addr} {name qual:Str} {params:Arguments} {body:List Stmt} {scope:Scope} {dV kV doc pm cdv ct oc:Value} {an od:Option Addr}
  {osl:Array (Option Value)} {N ps:List Str} {sp:Sp} (lk:K.lookup f = some ⟨oc,od,.func (PySem.W.fnOf name qual params body scope dV kV doc pm an cdv ct),osl⟩) (hcd:PySem.W.codeIn K cdv qual = true) (S:aB N ps scope)
  (len:∀ vs H Q E,sp vs H Q E -> vs.length = ps.length)
  (hbody:∀ (A:Around) (outer:List Env) (s:Shared) (H:Hp) (vs:List V) (Q:VK) (E:XK),b6 k (A.deeper (envOfC qual scope s.heap.objs.size f cdv)) -> sp vs H Q E ->
   ∃ t,pw (ic CX P w K mg base N qual scope f cdv A outer s H E) body t ∧ t { nx:=fun _ H' => Q .non H',rt:=Q } (start N vs) H) :
  c8 P w K mg base CX (k + 1) f (PySem.W.fnOf name qual params body scope dV kV doc pm an cdv ct) ps sp:= by
 refine ⟨len,fun A outer s H args us vs Q E hr e0 hb r hsp => ?_⟩
 have hl:=len _ _ _ _ hsp
 have KX:K.In s.heap:=e0.mod.kin.keeps fun b o e => (e0.bs b o e).1
 have lim:s.heap.NoLimit:=e0.mod.nolimit.keeps fun b o e => (e0.bs b o e).1
 have hkind:∀ y ∈ ps.zip us,scope.names.lookup y.1 = some .local ∨ (scope.names.lookup y.1 = some .cell ∧ ((cellsFrom (s.heap.objs.size + 1) scope.names []).lookup y.1).isSome = true):=fun ⟨n,v⟩ hy => by
  rcases S.par n (List.of_mem_zip hy).1 with q | q
  ·exact .inl q
  ·exact .inr ⟨q,PySem.W.cellsFrom_some _ _ _ (.inl q)⟩
 refine codeAny_call_function hr.depth (KX _ _ lk) rfl S.co S.gen rfl (PySem.W.codeRec_of KX hcd) (hb _ _ _ _ ?_)
 refine wpAny_newFunctionEnv_cells S.kind hkind fun env he s1 x => ?_
 subst he
 refine ⟨lim.keeps x.toInCall.keep,codeAny_func ?_⟩
 obtain ⟨t,ht,hq⟩:=hbody A outer s H vs Q E (hr.deeper _) hsp
 have I:Inv (ic CX P w K mg base N qual scope f cdv A outer s H E) [] (start N vs) H s1:=tD S hr.hd e0 hl r x
 refine wpAny_mono (ht [] s1 (start N vs) H _ I hq) (fun fl s' hs => ?_) fun e s' hs => hs
 have fin:∀ {σ':St} {H':Hp} {v:V} {u:Value},Inv (ic CX P w K mg base N qual scope f cdv A outer s H E) [] σ' H' s' -> RelV v u -> Q v H' -> CE outer P w H s Q u s' :=
  fun {σ' H' v u} J rv q => ⟨v,H',J.os,J.bare,J.base,J.hok,rv,q⟩
 cases fl with
 | ret u =>
  obtain ⟨v,σ',H',J,rv,q⟩:=hs
  exact fin J rv q
 | next =>
  obtain ⟨σ',H',J,q⟩:=hs
  exact fin (v:=V.non) (u:=Value.none) J rfl q
 | brk =>
  obtain ⟨_,_,_,q⟩:=hs
  exact False.elim q
 | cont =>
  obtain ⟨_,_,_,q⟩:=hs
  exact False.elim q
end L2
namespace L2
open PySem PySem.Spec PyProof.Rows
section
variable {X:Cx} {x:Str} {p pos:Pos} {e:Expr} {es:List Expr} {t:TA} {id T:String} {r:List V -> Hp -> VK -> Prop}
def ET (r:List V -> Hp -> VK -> Prop) (t:TA):TE:=fun σ H Q => t σ H fun vs H1 => r vs H1 Q
theorem eC (hc:cQ X (.builtin id) r) (hg:Gl X x) (hm:X.mg x = none) (hv:bootBuiltins x = some (.builtin id)) (ha:PA X (e :: es) t) (hn:x ≠ "__name__":=by decide) (hdb:(x == ("__debug__":Str)) = false:=by decide)
  (he:starEach (e :: es) X.env = (false,eval e X.env) :: starEach es X.env:=by rfl) (hpl:(backTo pos (starEach es X.env)).any (·.1) = false:=by rfl):PE X (.Call (.Name x p) (e :: es) [] pos) (ET r t):= by
 intro pins s σ H Q I h
 refine wpAny_Call_Name_kw (fL I hg hm hv ?_ hn hdb)
 exact PyProof.Rows.callWith_builtin1 (bj (ha pos pins s σ H _ I h) fun us s1 ⟨vs,H1,I1,r1,q1⟩ => hc pins s1 σ H1 vs us Q I1 r1 q1) he hpl
theorem d9 (hc:cQ X (.type T) r) (hg:Gl X x) (hm:X.mg x = none) (hv:bootBuiltins x = some (.type T)) (ha:PA X (e :: es) t) (hn:x ≠ "__name__":=by decide) (hdb:(x == ("__debug__":Str)) = false:=by decide)
  (he:starEach (e :: es) X.env = (false,eval e X.env) :: starEach es X.env:=by rfl) (hpl:(backTo pos (starEach es X.env)).any (·.1) = false:=by rfl):PE X (.Call (.Name x p) (e :: es) [] pos) (ET r t):= by
 intro pins s σ H Q I h
 refine wpAny_Call_Name_kw (fL I hg hm hv ?_ hn hdb)
 exact PyProof.Rows.callWith_type1 (bj (ha pos pins s σ H _ I h) fun us s1 ⟨vs,H1,I1,r1,q1⟩ => hc pins s1 σ H1 vs us Q I1 r1 q1) he hpl
end
end L2
namespace HT
open PySem PyProof.Rows
section
open PySem.SeqAt
open PySem.AutoSeq1 (wpAny_loadPart')
open PySem.MeetsSeq PySem.MeetsSeq2 PySem.MeetsSeq3
end
section
variable {prog:Program} {w:World} {A:Around} {E:Value -> Shared -> Prop} {s:Shared}
theorem cat_tup {t b:Addr} {vs ws:List Value} {Q:Value -> Shared -> Prop} (ht:IsTup s.heap t vs.toArray) (hb:IsTup s.heap b ws.toArray) (hv:vs ≠ [])
  (h1:ws = [] -> Q (.ref t) s) (h2:ws ≠ [] -> Q (.ref s.heap.objs.size) { s with heap:=s.heap.push { cls:=.type "tuple",data:=.seq (vs ++ ws).toArray } })
  (hsz:vs.length + ws.length ≤ sizeLine):wpAny (model prog w) A (binaryOp .Add (.ref t) (.ref b)) Q E s:= by
 obtain ⟨⟨cls,dd,data,sl⟩,ho,hc,n,hd⟩:=id ht
 obtain ⟨⟨cls2,dd2,data2,sl2⟩,ho2,hc2,n2,hd2⟩:=id hb
 simp only at hc hd hc2 hd2
 subst hc hd hc2 hd2
 have e:vs.toArray ++ ws.toArray = (vs ++ ws).toArray:=by simp
 by_cases hw:ws = []
 ·exact concat_meets ⟨_,ho,rfl⟩ ⟨_,ho2,rfl⟩ noFill_tuple_add seq_tuple_add PySem.F.slot_tuple_add PySem.F.entry_tuple_add (PySem.F.args_tuple_add_2 _ _)
   (tuple_addW1 t b vs.toArray ws.toArray n n2 dd dd2 sl sl2 (by simpa using hv) (by simp [hw])) ⟨ho,ho2,h1 hw⟩
 ·refine concat_meets ⟨_,ho,rfl⟩ ⟨_,ho2,rfl⟩ noFill_tuple_add seq_tuple_add PySem.F.slot_tuple_add PySem.F.entry_tuple_add (PySem.F.args_tuple_add_2 _ _)
   (tuple_addW2 t b vs.toArray ws.toArray n n2 dd dd2 sl sl2 (by simpa using hv) (by simpa using hw) (by rw [List.size_toArray,List.size_toArray]; exact hsz)) ⟨ho,ho2,?_⟩
  rw [e]
  exact h2 hw
def sIx (n d:Nat):Option Int -> Nat
 | none => d
 | some v => if v < 0 then (v + (n:Int)).toNat else min v.toNat n
theorem sIx_none (n d:Nat):sIx n d none = d:=rfl
theorem sIx_nat (n d k:Nat):sIx n d (some (k:Int)) = min k n:= by
 show (if (k:Int) < 0 then ((k:Int) + (n:Int)).toNat else min (k:Int).toNat n) = min k n
 rw [if_neg (by omega),Int.toNat_natCast]
theorem BO (n d:Nat) (hd:d ≤ n) (o:Option Int):sIx n d o ≤ n:= by
 cases o with
 | none => exact hd
 | some v =>
  show (if v < 0 then (v + (n:Int)).toNat else min v.toNat n) ≤ n
  by_cases hv:v < 0
  ·rw [if_pos hv]; omega
  ·rw [if_neg hv]; exact Nat.min_le_right _ _
theorem qN (v:Int) (n d:Nat):(if v < 0 then max (v + (n:Int)) 0 else min v (n:Int)) = ((sIx n d (some v):Nat):Int):= by
 show (if v < 0 then max (v + (n:Int)) 0 else min v (n:Int)) = (((if v < 0 then (v + (n:Int)).toNat else min v.toNat n):Nat):Int)
 by_cases hv:v < 0
 ·simp only [if_pos hv]; omega
 ·simp only [if_neg hv]; omega
theorem o4 (lo hi:Option Int) (n:Nat):Builtin.Slice.sliceAdjust lo hi 1 (n:Int) = (((sIx n 0 lo:Nat):Int),((sIx n n hi:Nat):Int)):= by
 have h1:¬ ((1:Int) < 0):=by omega
 unfold Builtin.Slice.sliceAdjust
 simp only [h1,if_false]
 refine Prod.ext ?_ ?_
 ·cases lo with
  | none => rfl
  | some v => exact qN v n 0
 ·cases hi with
  | none => rfl
  | some v => exact qN v n n
theorem o5 (i j:Nat):Builtin.Slice.slicePlaces (i:Int) (j:Int) 1 = j - i:= by
 unfold Builtin.Slice.slicePlaces
 have h1:(1:Int) > 0:=by omega
 simp only [h1,if_true,Int.ediv_one]
 split <;> omega
theorem ku {v:Value} {o:Option Int} {Q:Option Int -> Shared -> Prop} (p:IsPart v o) (h:Q o s):wpAny (model prog w) A (Builtin.Slice.slicePartIndex v) Q E s:= by
 cases p with
 | none => exact slicePart_none h
 | int i t => exact slicePart_int h
theorem sliceApplied_gen {sl:Addr} {vl vu:Value} {lo hi:Option Int} {n:Nat} {Q:Int × Int × Nat -> Shared -> Prop} (hs:s.heap.IsSliceOf sl vl vu .none) (pl:IsPart vl lo) (pu:IsPart vu hi)
  (h:Q (((sIx n 0 lo:Nat):Int),1,sIx n n hi - sIx n 0 lo) s):wpAny (model prog w) A (Builtin.Slice.sliceApplied (.ref sl) (pure (n:Int))) Q E s:= by
 obtain ⟨os,hos,hcs,hds⟩:=id hs
 unfold Builtin.Slice.sliceApplied Builtin.Slice.sliceFields
 refine wpAny_bind (wpAny_bind (wpAny_field hos hds (x:=vl) rfl (wpAny_bind (wpAny_field hos hds (x:=vu) rfl (wpAny_bind (wpAny_field hos hds (x:=.none) rfl (wpAny_pure ?_)))))))
 refine wpAny_bind (slicePart_none ?_)
 show wpAny _ _ (if ((1:Int) == 0) = true then _ else _) _ _ s
 rw [if_neg (by decide)]
 refine wpAny_bind (ku pl (wpAny_bind (ku pu (wpAny_bind (wpAny_pure ?_)))))
 show wpAny _ _ (match Builtin.Slice.sliceAdjust lo hi 1 (n:Int) with | (lo,hi) => pure (lo,(1:Int),Builtin.Slice.slicePlaces lo hi 1)) _ _ s
 rw [o4 lo hi n]
 show wpAny _ _ (pure (((sIx n 0 lo:Nat):Int),(1:Int),Builtin.Slice.slicePlaces ((sIx n 0 lo:Nat):Int) ((sIx n n hi:Nat):Int) 1)) _ _ s
 rw [o5]
 exact wpAny_pure h
theorem wc (xs:Array Value) (i k:Nat):((List.range k).filterMap fun (m:Nat) => xs[((i:Int) + (m:Int) * 1).toNat]?).toArray = ((xs.toList.drop i).take k).toArray:= by
 have e:(fun (m:Nat) => xs[((i:Int) + (m:Int) * 1).toNat]?) = fun m => xs[i + m]?:= by
  funext m
  have:((i:Int) + (m:Int) * 1).toNat = i + m:=by omega
  rw [this]
 rw [e]
 have:=pick_run xs i k
 rw [List.filterMap_map] at this
 have e2:((fun x => xs[x]?) ∘ fun x => i + x) = fun m => xs[i + m]?:=rfl
 rw [e2] at this
 rw [this]
theorem getItem_tuple_cut {t sl:Addr} {items:Array Value} {vl vu:Value} {lo hi:Option Int} {Q:Value -> Shared -> Prop} (ht:IsTup s.heap t items) (hs:s.heap.IsSliceOf sl vl vu .none) (pl:IsPart vl lo) (pu:IsPart vu hi)
  (hw:¬ (sIx items.size 0 lo = 0 ∧ sIx items.size items.size hi = items.size))
  (h:Q (.ref s.heap.objs.size) { s with heap:=s.heap.push { cls:=.type "tuple",data:=.seq ((items.toList.drop (sIx items.size 0 lo)).take (sIx items.size items.size hi - sIx items.size 0 lo)).toArray } })
  (hsz:items.size ≤ sizeLine):wpAny (model prog w) A (getItem (.ref t) (.ref sl)) Q E s:= by
 have htake:sizeOk (.seq ((items.toList.drop (sIx items.size 0 lo)).take (sIx items.size items.size hi - sIx items.size 0 lo)).toArray):= by
  show ((items.toList.drop (sIx items.size 0 lo)).take (sIx items.size items.size hi - sIx items.size 0 lo)).toArray.size ≤ sizeLine
  rw [List.size_toArray,List.length_take,List.length_drop,Array.length_toList]
  omega
 have hj:sIx items.size items.size hi ≤ items.size:=BO _ _ (Nat.le_refl _) hi
 obtain ⟨os,hos,hcs,hds⟩:=id hs
 have hTs:s.TypeIs (.ref sl) "slice":=⟨os,hos,hcs⟩
 unfold getItem
 try with_reducible refine wpAny_holding ?_
 first | refine wpAny_bind (wpAny_pure ?_) | skip
 refine wpAny_bind (wpAny_sequenceKey ht.typeIs (by decide) ?_)
 refine wpAny_bind (wpAny_callSpecial?_slot (name:=Str.ofString "__getitem__") ht.typeIs PyProof.Rows.slot_tuple_getitem
  (wpAny_call_entry PyProof.Rows.slot_tuple_getitem ht.typeIs entry_tuple_getitem ?_ (args_tuple_getitem _ _)))
 show wpAny _ _ (Builtin.Tuple.tupleItemsOf (.ref t) >>= _) _ _ s
 refine wpAny_bind (tupleItemsOf_ ht ?_)
 refine wpAny_bind (wpAny_typeOf hTs ?_)
 rw [if_pos (by decide)]
 refine wpAny_bind (sliceApplied_gen hs pl pu ?_)
 have hno:¬ ((((sIx items.size 0 lo:Nat):Int) == 0 && (1:Int) == 1 && (sIx items.size items.size hi - sIx items.size 0 lo) == items.size) = true):= by
  intro q
  rw [Bool.and_eq_true,Bool.and_eq_true] at q
  have q1:((sIx items.size 0 lo:Nat):Int) = 0:=eq_of_beq q.1.1
  have q2:sIx items.size items.size hi - sIx items.size 0 lo = items.size:=eq_of_beq q.2
  exact hw ⟨by omega,by omega⟩
 show wpAny _ _ (if (((sIx items.size 0 lo:Nat):Int) == 0 && (1:Int) == 1 && (sIx items.size items.size hi - sIx items.size 0 lo) == items.size) = true then _ else _) _ _ s
 rw [if_neg hno,wc]
 first
  | exact wpAny_bind (m:=Builtin.Tuple.tupleExact _) (wpAny_newObj_type (wpAny_pure ⟨_,rfl,wpAny_pure h⟩) htake)
  | exact wpAny_bind (m:=Builtin.Tuple.tupleExact _) (wpAny_newObj_type (wpAny_bind (wpAny_pure (wpAny_pure ⟨_,rfl,wpAny_pure h⟩))) htake)
  | exact wpAny_bind (wpAny_bind (m:=Builtin.Tuple.tupleExact _) (wpAny_newObj_type (wpAny_pure (wpAny_pure ⟨_,rfl,wpAny_pure h⟩)) htake))
  | exact wpAny_bind (wpAny_bind (m:=Builtin.Tuple.tupleExact _) (wpAny_newObj_type (wpAny_pure ⟨_,rfl,wpAny_pure h⟩) htake))
end
end HT
namespace L2
open PySem PySem.Spec PyProof.Rows
abbrev TO:=St -> Hp -> (Option Int -> Hp -> Prop) -> Prop
def PO (X:Cx) (e:Option Expr) (t:TO):Prop :=
 ∀ (pins:List (Addr × Obj)) (s:Shared) (σ:St) (H:Hp) (Q:Option Int -> Hp -> Prop),Inv X pins σ H s -> t σ H Q ->
  wpAny (model X.prog X.w) X.A (evalPart e X.env) (fun u s' => ∃ o H',Inv X pins σ H' s' ∧ IsPart u o ∧ Q o H') X.xe s
def zu:TO:=fun _ H Q => Q none H
def Dx (t:TE):TO:=fun σ H Q => t σ H fun x H1 => ∃ i,x = .int i ∧ Q (some i) H1
theorem intsAre_of {ns:List Int}:∀ {us:List Value},Vals (ns.map V.int) us -> IntsAre us ns:= by
 induction ns with
 | nil => intro us r; rw [List.map_nil] at r; cases r; exact .nil
 | cons n ns ih =>
  intro us r
  rw [List.map_cons] at r
  cases r with
  | cons r1 r2 =>
   obtain ⟨t,e⟩:=r1
   subst e
   exact .cons n t (ih r2)
section
variable {X:Cx} {e:Expr} {te:TE} {lo hi:Option Expr} {tl th:TO} {pos p2:Pos}
theorem xI:PO X none zu:= by
 intro pins s σ H Q I h
 rw [evalPart_none]
 exact wpAny_pure ⟨none,H,I,.none,h⟩
theorem yi (h:PE X e te):PO X (some e) (Dx te):= by
 intro pins s σ H Q I hw
 rw [evalPart_some]
 refine bj (h pins s σ H _ I hw) fun u s1 ⟨x,H1,I1,r1,q1⟩ => ?_
 obtain ⟨i,rfl,q⟩:=q1
 obtain ⟨t,rfl⟩:=r1
 exact ⟨some i,H1,I1,.int i t,q⟩
def z4 (X:Cx) (r:V -> Option Int -> Option Int -> Hp -> VK -> Prop):Prop :=
 ∀ (pins:List (Addr × Obj)) (s:Shared) (σ:St) (H:Hp) (x:V) (v vl vu:Value) (lo hi:Option Int) (sl:Addr) (Q:VK),Inv X pins σ H s -> RelV x v -> s.heap.IsSliceOf sl vl vu .none -> IsPart vl lo -> IsPart vu hi -> r x lo hi H Q ->
  ∃ T id,typeLookup (.type T) "__getitem__" = pure (some (.builtin id)) ∧ s.TypeIs v T ∧ wpAny (model X.prog X.w) X.A (getItem v (.ref sl)) (EP X pins σ Q) X.xe s
theorem z4.or {r r':V -> Option Int -> Option Int -> Hp -> VK -> Prop} (h:z4 X r) (h':z4 X r'):z4 X (fun x lo hi H Q => r x lo hi H Q ∨ r' x lo hi H Q):= by
 intro pins s σ H x v vl vu lo hi sl Q I rx hs pl pu q
 rcases q with q | q
 ·exact h pins s σ H x v vl vu lo hi sl Q I rx hs pl pu q
 ·exact h' pins s σ H x v vl vu lo hi sl Q I rx hs pl pu q
def Gs (r:V -> Option Int -> Option Int -> Hp -> VK -> Prop) (te:TE) (tl th:TO):TE:=fun σ H Q => te σ H fun x H1 => tl σ H1 fun l H2 => th σ H2 fun u H3 => r x l u H3 Q
theorem w9 {r:V -> Option Int -> Option Int -> Hp -> VK -> Prop} (hr:z4 X r) (he:PE X e te) (hl:PO X lo tl) (hu:PO X hi th):PE X (.Subscript e (.Slice lo hi none p2) pos) (Gs r te tl th):= by
 intro pins s σ H Q I h
 refine Subscript_ (bj (he pins s σ H _ I h) fun v s1 ⟨x,H1,I1,r1,q1⟩ => ?_)
 refine wpAny_Slice (bj (hl pins s1 σ H1 _ I1 q1) fun vl s2 ⟨l,H2,I2,pl,q2⟩ => bj (hu pins s2 σ H2 _ I2 q2) fun vu s3 ⟨u,H3,I3,pu,q3⟩ => ?_)
 rw [evalPart_none]
 refine wpAny_pure ?_
 have I4:Inv X pins σ H3 { s3 with heap:=s3.heap.push { cls:=.type "slice",data:=.fields #[vl,vu,.none] } }:=I3.kept (t':=s3.toks) fun b ob q => Heap.get?_push_of_some _ q
 obtain ⟨T,id,hT,ht,hg⟩:=hr pins { s3 with heap:=s3.heap.push { cls:=.type "slice",data:=.fields #[vl,vu,.none] } } σ H3 x v vl vu l u s3.heap.objs.size Q I4 r1 (Heap.IsSliceOf.new ..) pl pu q3
 show wpAny (model X.prog X.w) X.A (subscriptTail e (.Slice lo hi none p2) v (.ref s3.heap.objs.size)) (EP X pins σ Q) X.xe { s3 with heap:=s3.heap.push { cls:=.type "slice",data:=.fields #[vl,vu,.none] } }
 exact tail_any (ops:=[.ref s3.heap.objs.size,v]) ht hT hg (by with_unfolding_all rfl)
def mG (xs:List V) (lo hi:Option Int):List V:=(xs.drop (HT.sIx xs.length 0 lo)).take (HT.sIx xs.length xs.length hi - HT.sIx xs.length 0 lo)
theorem jg (xs:List V) (lo hi:Option Int):(mG xs lo hi).length ≤ xs.length:= by
 unfold mG
 rw [List.length_take,List.length_drop]
 omega
def Fi (K:PySem.W.Frag):V -> Option Int -> Option Int -> Hp -> VK -> Prop:=fun x lo hi H Q => ∃ a xs,x = .ref a ∧ gp K H a xs ∧
 ¬ (HT.sIx xs.length 0 lo = 0 ∧ HT.sIx xs.length xs.length hi = xs.length) ∧ ∀ p,H p = none -> Q (.ref p) (upd H p (.tup (mG xs lo hi)))
theorem AJ:z4 X (Fi X.K):= by
 intro pins s σ H x v vl vu lo hi sl Q I rx hs pl pu h
 obtain ⟨a,xs,rfl,hx,hw,q⟩:=h
 cases rx
 obtain ⟨its,r,ht,hz⟩:=I.tuple hx
 have hlen:its.toArray.size = xs.length:=by rw [List.size_toArray]; exact r.length.symm
 refine ⟨"tuple",_,PyProof.Rows.slot_tuple_getitem.lookup,ht.typeIs,?_⟩
 refine HT.getItem_tuple_cut ht hs pl pu (by rw [hlen]; exact hw) ?_ (by rw [hlen]; exact hz)
 rw [hlen]
 refine ⟨.ref s.heap.objs.size,_,I.laid (t':=s.toks) (o:=.tup (mG xs lo hi)) (fun b ob q => Heap.get?_push_of_some _ q) (Nat.le_refl _) ?_,rfl,q _ (I.hok.fresh (Nat.le_refl _))⟩
 exact ⟨Nat.le_trans (jg xs lo hi) hz,_,(r.drop (HT.sIx xs.length 0 lo)).take (HT.sIx xs.length xs.length hi - HT.sIx xs.length 0 lo),se.new _ _⟩
def wX (K:PySem.W.Frag):R2:=fun x y H Q => ∃ a b xs ys,x = .ref a ∧ y = .ref b ∧ gp K H a xs ∧ gp K H b ys ∧ xs ≠ [] ∧ xs.length + ys.length ≤ sizeLine ∧
 (ys = [] -> Q (.ref a) H) ∧ (ys ≠ [] -> ∀ p,H p = none -> Q (.ref p) (upd H p (.tup (xs ++ ys))))
theorem Vals.nil_iff {xs:List V} {us:List Value} (r:Vals xs us):us = [] ↔ xs = []:= by
 cases r with
 | nil => simp
 | cons _ _ => simp
theorem zy:f9 X (binaryOp .Add) (wX X.K):= by
 intro pins s σ H x y v u Q I rx ry h
 obtain ⟨a,b,xs,ys,rfl,rfl,ha,hb,hx,hz,q1,q2⟩:=h
 cases rx
 cases ry
 obtain ⟨its,r1,p1,_⟩:=I.tuple ha
 obtain ⟨its2,r2,p2,_⟩:=I.tuple hb
 refine HT.cat_tup p1 p2 (fun z => hx (r1.nil_iff.mp z)) (fun z => ⟨.ref a,H,I,rfl,q1 (r2.nil_iff.mp z)⟩) (fun z => ?_) (by rw [<- r1.length,<- r2.length]; exact hz)
 refine ⟨.ref s.heap.objs.size,_,I.laid (t':=s.toks) (o:=.tup (xs ++ ys)) (fun b ob q => Heap.get?_push_of_some _ q) (Nat.le_refl _) ?_,rfl,q2 (fun w => z (r2.nil_iff.mpr w)) _ (I.hok.fresh (Nat.le_refl _))⟩
 exact ⟨by rw [List.length_append]; exact hz,_,r1.append r2,se.new _ _⟩
end
end L2
namespace L2
open PySem PySem.Spec PyProof.Rows
def tG (n:Nat) (i:Int):Option Nat:=if 0 ≤ i then (if i < n then some i.toNat else none) else if -(n:Int) ≤ i then some (i + n).toNat else none
def jC {α:Type} (xs:List α) (i:Int):Option α:=(tG xs.length i).bind fun j => xs[j]?
theorem qF {n:Nat} {i:Int} {j:Nat} (h:tG n i = some j):seqIndex? i n = some j ∧ j < n ∧ -(n:Int) ≤ i ∧ i < n:= by
 unfold tG at h
 by_cases h0:0 ≤ i
 ·rw [if_pos h0] at h
  by_cases h1:i < n
  ·rw [if_pos h1] at h
   have e:i.toNat = j:=Option.some.inj h
   exact ⟨by rw [seqIndex_of h0 h1,e],by omega,by omega,h1⟩
  ·rw [if_neg h1] at h; cases h
 ·rw [if_neg h0] at h
  by_cases h1:-(n:Int) ≤ i
  ·rw [if_pos h1] at h
   have e:(i + n).toNat = j:=Option.some.inj h
   exact ⟨by rw [seqIndex_neg (by omega) h1,e],by omega,h1,by omega⟩
  ·rw [if_neg h1] at h; cases h
theorem l9 {α:Type} {xs:List α} {i:Int} {v:α} (h:jC xs i = some v):∃ j,seqIndex? i xs.length = some j ∧ xs[j]? = some v ∧ j < xs.length ∧ -(xs.length:Int) ≤ i ∧ i < xs.length:= by
 unfold jC at h
 cases e:tG xs.length i with
 | none => rw [e] at h; cases h
 | some j =>
  rw [e] at h
  obtain ⟨h1,h2,h3,h4⟩:=qF e
  exact ⟨j,h1,h,h2,h3,h4⟩
theorem eK {α:Type} {xs:List α} {j:Nat} {v:α} (h:xs[j]? = some v):jC xs (j:Int) = some v:= by
 have hj:j < xs.length:=(List.getElem?_eq_some_iff.mp h).1
 have e:tG xs.length (j:Int) = some j:= by
  unfold tG
  rw [if_pos (by omega),if_pos (by omega)]; simp
 unfold jC; rw [e]; exact h
def gQ (b:Expr):Prop:=∀ o i,subscripted b false o i = operate [o,i] (getItem o i)
def q0 (X:Cx) (r:R2):Prop :=
 ∀ (value slice:Expr) (pins:List (Addr × Obj)) (s:Shared) (σ:St) (H:Hp) (x y:V) (v u:Value) (Q:VK),Inv X pins σ H s -> RelV x v -> RelV y u -> r x y H Q ->
  subscripted slice false v u = operate [v,u] (getItem v u) -> wpAny (model X.prog X.w) X.A (subscriptTail value slice v u) (EP X pins σ Q) X.xe s
def Gv (X:Cx) (id:String) (r:V -> List V -> Hp -> VK -> Prop):Prop :=
 ∀ (pins:List (Addr × Obj)) (s:Shared) (σ:St) (H:Hp) (x:V) (xs:List V) (v:Value) (us:List Value) (Q:VK),Inv X pins σ H s -> RelV x v -> Vals xs us -> r x xs H Q ->
  wpAny (model X.prog X.w) X.A (call (.builtin id) (v :: us)) (EP X pins σ Q) X.xe s
section
variable {X:Cx} {a b:Expr} {ta tb:TE} {pos:Pos}
theorem q0.or {r r':R2} (h:q0 X r) (h':q0 X r'):q0 X (fun x y H Q => r x y H Q ∨ r' x y H Q):= by
 intro value slice pins s σ H x y v u Q I rx ry q hs
 rcases q with q | q
 ·exact h value slice pins s σ H x y v u Q I rx ry q hs
 ·exact h' value slice pins s σ H x y v u Q I rx ry q hs
theorem Ah {r:R2} (hr:q0 X r) (ha:PE X a ta) (hb:PE X b tb) (hs:gQ b):PE X (.Subscript a b pos) (Af r ta tb):= by
 intro pins s σ H Q I h
 exact Subscript_ (BH ha hb I h fun v u s2 x y H2 I2 rx ry q => hr a b pins s2 σ H2 x y v u Q I2 rx ry q (hs _ _))
def C_ (K:PySem.W.Frag):R2:=fun x y H Q => ∃ p xs i v,x = .ref p ∧ y = .int i ∧ fI K H p xs ∧ jC xs i = some v ∧ Q v H
def D7 (K:PySem.W.Frag):R2:=fun x y H Q => ∃ p xs i v,x = .ref p ∧ y = .int i ∧ gp K H p xs ∧ jC xs i = some v ∧ Q v H
def Dh:R2:=fun x y H Q => ∃ z i c,x = .str z ∧ y = .int i ∧ z.length ≤ sizeLine ∧ jC z.cps.toList i = some c ∧ Q (.str ⟨#[c]⟩) H
theorem qt:q0 X (C_ X.K):= by
 intro value slice pins s σ H x y v u Q I rx ry h hs
 obtain ⟨p,xs,i,z,rfl,rfl,hq,he,q⟩:=h
 cases rx
 obtain ⟨t,rfl⟩:=ry
 obtain ⟨its,r,pl,hz⟩:=I.list hq
 obtain ⟨j,h1,h2,h3,h4,h5⟩:=l9 he
 obtain ⟨w,ew,rw'⟩:=r.get h2
 have hl:=r.length
 have hn:=iG
 have fin:EP X pins σ Q w s:=⟨z,H,I,rw',q⟩
 by_cases h0:0 ≤ i
 ·have hj:i.toNat = j:= by
   rw [seqIndex_of h0 h5] at h1
   exact Option.some.inj h1
  exact item_listR pl.isList h0 (by omega) (by rw [hj]; simpa using ew) fin hs
 ·have hj:(i + (its.toArray.size:Int)).toNat = j:= by
   rw [seqIndex_neg (by omega) h4] at h1
   rw [List.size_toArray,<- hl]
   exact Option.some.inj h1
  exact subscriptTail_builtinR (x:=w) pl.isList.typeIs slot_list_getitem.lookup
   (wpAny_getItem_list_neg (Q:=fun r s' => r = w ∧ EP X pins σ Q r s') pl.isList (by omega) (by rw [List.size_toArray] <;> omega) (by omega) (by rw [hj]; simpa using ew) ⟨rfl,fin⟩) hs
theorem AZ:q0 X (D7 X.K):= by
 intro value slice pins s σ H x y v u Q I rx ry h hs
 obtain ⟨p,xs,i,z,rfl,rfl,hq,he,q⟩:=h
 cases rx
 obtain ⟨t,rfl⟩:=ry
 obtain ⟨its,r,pl,hz⟩:=I.tuple hq
 obtain ⟨j,h1,h2,h3,h4,h5⟩:=l9 he
 obtain ⟨w,ew,rw'⟩:=r.get h2
 have hl:=r.length
 have hn:=iG
 have fin:EP X pins σ Q w s:=⟨z,H,I,rw',q⟩
 exact subscriptTail_builtinR (x:=w) pl.typeIs slot_tuple_getitem.lookup
  (getItem_tuple (j:=j) (Q:=fun r s' => r = w ∧ EP X pins σ Q r s') pl (by omega) (by omega) (by rw [List.size_toArray,<- hl]; exact h1) (by simpa using ew) ⟨rfl,fin⟩) hs
theorem B4:q0 X Dh:= by
 intro value slice pins s σ H x y v u Q I rx ry h hs
 obtain ⟨z,i,c,rfl,rfl,hz,he,q⟩:=h
 obtain ⟨t,rfl⟩:=rx
 obtain ⟨t',rfl⟩:=ry
 obtain ⟨j,h1,h2,h3,h4,h5⟩:=l9 he
 have hl:z.cps.toList.length = z.length:=by simp [Str.length]
 rw [hl] at h1 h4 h5
 have hn:=iG
 exact tail_any (typeIs_str s z t) slot_str_getitem.lookup (getItem_str (c:=c) (by
  have e1:decide (i < -(2 ^ 63:Int)) = false:=decide_eq_false (by omega)
  have e2:decide (i ≥ 2 ^ 63) = false:=decide_eq_false (by omega)
  rw [e1,e2,Bool.or_false]) (by rw [h1]; simpa using h2) ⟨.str ⟨#[c]⟩,H,I.tok _,⟨_,rfl⟩,q⟩) hs
def E2 (K:PySem.W.Frag):R2:=fun x y H Q => C_ K x y H Q ∨ D7 K x y H Q ∨ Dh x y H Q
theorem vo:q0 X (E2 X.K):=qt.or (AZ.or B4)
theorem qh (its:List Value) (n j:Nat) (u:Value):Obj.mapSeq (·.setIfInBounds j u) { cls:=.type "list",data:=.seq its.toArray n } = { cls:=.type "list",data:=.seq (its.set j u).toArray n }:= by
 simp [Obj.mapSeq]
theorem Inv.lst {pins:List (Addr × Obj)} {σ:St} {H:Hp} {s:Shared} {p:Addr} {xs:List V} (I:Inv X pins σ H s) (h:H p = some (.lst xs)) :
  ∃ (its:List Value) (n:Nat),Vals xs its ∧ s.heap.get? p = some { cls:=.type "list",data:=.seq its.toArray n } ∧ xs.length ≤ sizeLine:= by
 obtain ⟨z,its,n,r,e⟩:=I.hok p _ h
 exact ⟨its,n,r,e,z⟩
theorem Inv.lstUpd {pins:List (Addr × Obj)} {σ:St} {H:Hp} {s:Shared} {p:Addr} {xs ys:List V} {its its':List Value} {n n':Nat} {f:Obj -> Obj} (I:Inv X pins σ H s) (h:H p = some (.lst xs))
  (ho:s.heap.get? p = some { cls:=.type "list",data:=.seq its.toArray n }) (hf:f { cls:=.type "list",data:=.seq its.toArray n } = { cls:=.type "list",data:=.seq its'.toArray n' }) (r:Vals ys its') (hz:ys.length ≤ sizeLine) (t:Nat) :
  Inv X pins σ (upd H p (.lst ys)) { s with heap:=s.heap.update p f,toks:=t }:= by
 have e:(s.heap.update p f).get? p = some { cls:=.type "list",data:=.seq its'.toArray n' }:= by
  rw [Heap.get?_update_self f ho (by rw [hf] <;> rfl),hf]
 refine I.write (x:=p) (e:=p) (by rw [h]; trivial) (.inl rfl) (fun b u hb q => (Heap.get?_update_other _ _ (Ne.symm hb)).trans q) ⟨_,e⟩ ?_
 exact ⟨hz,its',n',r,e⟩
def DD:V -> V -> V -> Hp -> (Hp -> Prop) -> Prop:=fun o i v H Q => ∃ p xs k j,o = .ref p ∧ i = .int k ∧ H p = some (.lst xs) ∧ tG xs.length k = some j ∧ Q (upd H p (.lst (xs.set j v)))
theorem set_list:Dg X DD:= by
 intro pins s σ H o i v ov iv u Q I ro ri rv h
 obtain ⟨p,xs,k,j,rfl,rfl,hp,hj,q⟩:=h
 cases ro
 obtain ⟨t,rfl⟩:=ri
 obtain ⟨its,n,r,ho,hz⟩:=I.lst hp
 obtain ⟨h1,h2,h3,h4⟩:=qF hj
 have hl:=r.length
 have hn:=iG
 have I':Inv X pins σ (upd H p (.lst (xs.set j v))) { s with heap:=s.heap.update p (Obj.mapSeq (·.setIfInBounds j u)) } :=
  I.lstUpd hp ho (qh its n j u) (r.set rv j) (by rw [List.length_set]; exact hz) s.toks
 by_cases h0:0 ≤ k
 ·have hk:k.toNat = j:= by
   rw [seqIndex_of h0 h4] at h1
   exact Option.some.inj h1
  exact PySem.W.ki_setAt ho h0 (by omega) (by rw [List.size_toArray,<- hl]; exact h4) (by rw [hk]; exact ⟨_,I',q⟩)
 ·have hk:(k + (its.toArray.size:Int)).toNat = j:= by
   rw [seqIndex_neg (by omega) h3] at h1
   rw [List.size_toArray,<- hl]
   exact Option.some.inj h1
  exact PySem.W.ki_setBack ho (by omega) (by rw [List.size_toArray,<- hl]; exact h3) (by omega) (by rw [hk]; exact ⟨_,I',q⟩)
theorem mI (lo hi:Option Int) (n:Nat):(sliceBounds lo hi none n).1 = ((HT.sIx n 0 lo:Nat):Int) ∧ (sliceBounds lo hi none n).2.1 = ((HT.sIx n n hi:Nat):Int) ∧ (sliceBounds lo hi none n).2.2 = 1:= by
 refine ⟨?_,?_,rfl⟩
 ·cases lo with
  | none => simp [sliceBounds,HT.sIx]
  | some i =>
   simp only [sliceBounds,HT.sIx,Option.getD_none,show (1:Int) > 0 by decide,if_true]
   by_cases h:i < 0
   ·simp only [h,if_true] <;> omega
   ·simp only [h,if_false] <;> omega
 ·cases hi with
  | none => simp [sliceBounds,HT.sIx]
  | some i =>
   simp only [sliceBounds,HT.sIx,Option.getD_none,show (1:Int) > 0 by decide,if_true]
   by_cases h:i < 0
   ·simp only [h,if_true] <;> omega
   ·simp only [h,if_false] <;> omega
theorem kI (its:List Value) (lo hi:Option Int):slicePick its.toArray lo hi none = ((its.drop (HT.sIx its.length 0 lo)).take (HT.sIx its.length its.length hi - HT.sIx its.length 0 lo)).toArray:= by
 obtain ⟨h1,h2,h3⟩:=mI lo hi its.toArray.size
 unfold slicePick
 rw [h1,h2,h3]
 simp only [sliceRange_one,pick_run,List.size_toArray] <;> rfl
def FL (K:PySem.W.Frag):V -> Option Int -> Option Int -> Hp -> VK -> Prop:=fun x lo hi H Q => ∃ a xs,x = .ref a ∧ fI K H a xs ∧ ∀ p,H p = none -> Q (.ref p) (upd H p (.lst (mG xs lo hi)))
theorem yb:z4 X (FL X.K):= by
 intro pins s σ H x v vl vu lo hi sl Q I rx hs pl pu h
 obtain ⟨a,xs,rfl,hx,q⟩:=h
 cases rx
 obtain ⟨its,r,ht,hz⟩:=I.list hx
 have hlen:=r.length
 refine ⟨"list",_,slot_list_getitem.lookup,ht.isList.typeIs,?_⟩
 refine wpAny_getItem_list_slice ht.isList hs pl pu .none (by simp) ?_ (by rw [List.size_toArray] <;> omega)
 rw [kI,<- hlen]
 refine ⟨.ref s.heap.objs.size,_,I.laid (t':=s.toks) (o:=.lst (mG xs lo hi)) (fun b ob q => Heap.get?_push_of_some _ q) (Nat.le_refl _) ?_,rfl,q _ (I.hok.fresh (Nat.le_refl _))⟩
 exact ⟨Nat.le_trans (jg xs lo hi) hz,_,0,(r.drop (HT.sIx xs.length 0 lo)).take (HT.sIx xs.length xs.length hi - HT.sIx xs.length 0 lo),Heap.get?_push_size _ rfl⟩
def fQ:V -> Bool
 | .non => true
 | .bl _ => true
 | .int _ => true
 | .str _ => true
 | _ => false
def tQ:V -> V -> Bool
 | .non,.non => true
 | .bl a,.bl b => a == b
 | .bl a,.int b => (if a then 1 else 0) == b
 | .int a,.bl b => a == (if b then 1 else 0)
 | .int a,.int b => a == b
 | .str a,.str b => a == b
 | _,_ => false
theorem uO {A:Around} {s:Shared} {y x:V} {u v:Value} (ry:RelV y u) (rx:RelV x v) (fy:fQ y = true) (fx:fQ x = true):SeqAt.EqAt A s u v (tQ y x):= by
 cases y with
 | non =>
  cases ry
  cases x with
  | non => cases rx; exact SeqAt.EqAt.same _
  | bl b => cases rx; exact SeqAt.EqAt.none_bool b
  | int b => obtain ⟨t,rfl⟩:=rx; exact SeqAt.EqAt.none_int b t
  | str b => obtain ⟨t,rfl⟩:=rx; exact SeqAt.EqAt.none_str b t
  | _ => exact absurd (show false = true from fx) Bool.false_ne_true
 | bl a =>
  cases ry
  cases x with
  | non => cases rx; exact SeqAt.EqAt.bool_none a
  | bl b => cases rx; exact SeqAt.EqAt.bool_bool a b
  | int b => obtain ⟨t,rfl⟩:=rx; exact SeqAt.EqAt.bool_int a b t
  | str b => obtain ⟨t,rfl⟩:=rx; exact SeqAt.EqAt.bool_str a b t
  | _ => exact absurd (show false = true from fx) Bool.false_ne_true
 | int a =>
  obtain ⟨t',rfl⟩:=ry
  cases x with
  | non => cases rx; exact SeqAt.EqAt.int_none a t'
  | bl b => cases rx; exact SeqAt.EqAt.int_bool a t' b
  | int b => obtain ⟨t,rfl⟩:=rx; exact SeqAt.EqAt.int_int a t' b t
  | str b => obtain ⟨t,rfl⟩:=rx; exact SeqAt.EqAt.int_str a t' b t
  | _ => exact absurd (show false = true from fx) Bool.false_ne_true
 | str a =>
  obtain ⟨t',rfl⟩:=ry
  cases x with
  | non => cases rx; exact SeqAt.EqAt.str_none a t'
  | bl b => cases rx; exact SeqAt.EqAt.str_bool a t' b
  | int b => obtain ⟨t,rfl⟩:=rx; exact SeqAt.EqAt.str_int a t' b t
  | str b => obtain ⟨t,rfl⟩:=rx; exact SeqAt.EqAt.str_str a t' b t
  | _ => exact absurd (show false = true from fx) Bool.false_ne_true
 | _ => exact absurd (show false = true from fy) Bool.false_ne_true
def pL (x:V) (u:Value):Bool:=match u with
 | .none => tQ .non x
 | .bool b => tQ (.bl b) x
 | .int i _ => tQ (.int i) x
 | .str z _ => tQ (.str z) x
 | _ => false
theorem vL {x y:V} {u:Value} (r:RelV y u) (f:fQ y = true):pL x u = tQ y x:= by
 cases y with
 | non => cases r; rfl
 | bl b => cases r; rfl
 | int i => obtain ⟨t,rfl⟩:=r; rfl
 | str z => obtain ⟨t,rfl⟩:=r; rfl
 | _ => exact absurd (show false = true from f) Bool.false_ne_true
theorem gY {x:V}:∀ {xs:List V} {us:List Value},Vals xs us -> xs.all fQ = true -> us.any (pL x) = xs.any fun y => tQ y x
 | _,_,.nil,_ => rfl
 | y :: xs,u :: us,.cons r t,f => by
  rw [List.all_cons,Bool.and_eq_true] at f
  rw [List.any_cons,List.any_cons,vL r f.1,gY t f.2]
theorem fT {A:Around} {s:Shared} {x:V} {v:Value} (rx:RelV x v) (fx:fQ x = true):∀ {xs:List V} {us:List Value},Vals xs us -> xs.all fQ = true -> ∀ u ∈ us,SeqAt.EqAt A s u v (pL x u)
 | _,_,.nil,_ => fun u hu => by cases hu
 | y :: xs,u :: us,.cons r t,f => fun u' hu => by
  rw [List.all_cons,Bool.and_eq_true] at f
  rcases List.mem_cons.mp hu with rfl | hu
  ·rw [vL r f.1]; exact uO r rx f.1 fx
  ·exact fT rx fx t f.2 u' hu
def CZ (x:V) (xs:List V):Bool:=xs.any fun y => tQ y x
def FA (K:PySem.W.Frag) (neg:Bool):R2:=fun x y H Q => ∃ p xs,y = .ref p ∧ (fI K H p xs ∨ gp K H p xs) ∧ fQ x = true ∧ xs.all fQ = true ∧ Q (.bl (if neg then !CZ x xs else CZ x xs)) H
theorem k3:f9 X (compareOp .In) (FA X.K false):= by
 intro pins s σ H x y v u Q I rx ry h
 obtain ⟨p,xs,rfl,hq,fx,fs,q⟩:=h
 cases ry
 rcases hq with hq | hq
 ·obtain ⟨its,r,pl,hz⟩:=I.list hq
  refine SeqAt.in_listAt (pL x) pl.isList (fun w hw => fT rx fx r fs w (by simpa using hw)) ⟨.bl _,H,I,rfl,?_⟩
  rw [show its.toArray.any (pL x) = its.any (pL x) by simp,gY r fs]
  exact q
 ·obtain ⟨its,r,pl,hz⟩:=I.tuple hq
  refine SeqAt.in_tupleAt (pL x) pl (fun w hw => fT rx fx r fs w (by simpa using hw)) ⟨.bl _,H,I,rfl,?_⟩
  rw [show its.toArray.any (pL x) = its.any (pL x) by simp,gY r fs]
  exact q
theorem l5:f9 X (compareOp .NotIn) (FA X.K true):= by
 intro pins s σ H x y v u Q I rx ry h
 obtain ⟨p,xs,rfl,hq,fx,fs,q⟩:=h
 cases ry
 rcases hq with hq | hq
 ·obtain ⟨its,r,pl,hz⟩:=I.list hq
  refine SeqAt.notIn_listAt (pL x) pl.isList (fun w hw => fT rx fx r fs w (by simpa using hw)) ⟨.bl _,H,I,rfl,?_⟩
  rw [show its.toArray.any (pL x) = its.any (pL x) by simp,gY r fs]
  exact q
 ·obtain ⟨its,r,pl,hz⟩:=I.tuple hq
  refine SeqAt.notIn_tupleAt (pL x) pl (fun w hw => fT rx fx r fs w (by simpa using hw)) ⟨.bl _,H,I,rfl,?_⟩
  rw [show its.toArray.any (pL x) = its.any (pL x) by simp,gY r fs]
  exact q
theorem h_:cQ X (.builtin "len") (fun xs H Q => ∃ p ys,xs = [.ref p] ∧ (fI X.K H p ys ∨ gp X.K H p ys) ∧ Q (.int ys.length) H):= by
 intro pins s σ H xs us Q I r h
 obtain ⟨p,ys,rfl,hq,q⟩:=h
 obtain ⟨u,rfl,rx⟩:=vals1 r
 cases rx
 have hn:=iG
 rcases hq with hq | hq
 ·obtain ⟨its,r',pl,hz⟩:=I.list hq
  have hlen:=r'.length
  exact Calls.call_len_list pl.isList (by simp only [List.size_toArray] <;> omega) ⟨.int ys.length,H,I.tok _,⟨s.toks + 1,by rw [List.size_toArray,hlen]⟩,q⟩
 ·obtain ⟨its,r',pl,hz⟩:=I.tuple hq
  have hlen:=r'.length
  exact len_tuple pl (by simp only [List.size_toArray] <;> omega) ⟨.int ys.length,H,I.tok _,⟨s.toks + 1,by rw [List.size_toArray,hlen]⟩,q⟩
theorem lX:cQ X (.type "list") (fun xs H Q => ∃ p ys,xs = [.ref p] ∧ (fI X.K H p ys ∨ gp X.K H p ys) ∧ ∀ l,H l = none -> Q (.ref l) (upd H l (.lst ys))):= by
 intro pins s σ H xs us Q I r h
 obtain ⟨p,ys,rfl,hq,q⟩:=h
 obtain ⟨u,rfl,rx⟩:=vals1 r
 cases rx
 have fin:∀ (its:List Value),Vals ys its -> ys.length ≤ sizeLine -> ∀ (h':Heap) (c':Nat),(∀ b o',s.heap.get? b = some o' -> h'.get? b = some o') ->
   h'.get? s.heap.objs.size = some { cls:=.type "list",dict:=none,data:=.seq its.toArray c',slots:=#[] } -> EP X pins σ Q (.ref s.heap.objs.size) { s with heap:=h' }:=fun its r' hz h' c' kp e =>
  ⟨.ref s.heap.objs.size,_,I.laid (t':=s.toks) kp (Nat.le_refl _) (show bX X.prog X.w _ h' _ (.lst ys) from ⟨hz,its,c',r',e⟩),rfl,q _ (I.hok.fresh (Nat.le_refl _))⟩
 rcases hq with hq | hq
 ·obtain ⟨its,r',pl,hz⟩:=I.list hq
  have hlen:=r'.length
  obtain ⟨o,ho,hc,n,hd⟩:=pl.isList
  exact call_list_seq p (.inl rfl) ho hc hd (fun h' c' kp e => fin its r' hz h' c' kp e) (by simp only [List.size_toArray] <;> omega)
 ·obtain ⟨its,r',pl,hz⟩:=I.tuple hq
  have hlen:=r'.length
  obtain ⟨o,ho,hc,n,hd⟩:=pl
  exact call_list_seq p (.inr rfl) ho hc hd (fun h' c' kp e => fin its r' hz h' c' kp e) (by simp only [List.size_toArray] <;> omega)
theorem kN:cQ X (.type "tuple") (fun xs H Q => ∃ p ys,xs = [.ref p] ∧ ((fI X.K H p ys ∧ ∀ l,H l = none -> Q (.ref l) (upd H l (.tup ys))) ∨ (gp X.K H p ys ∧ Q (.ref p) H))):= by
 intro pins s σ H xs us Q I r h
 obtain ⟨p,ys,rfl,h⟩:=h
 obtain ⟨u,rfl,rx⟩:=vals1 r
 cases rx
 rcases h with ⟨hq,q⟩ | ⟨hq,q⟩
 ·obtain ⟨its,r',pl,hz⟩:=I.list hq
  have hlen:=r'.length
  refine call_tuple_list pl.isList (fun h' kp => ?_) (by simp only [List.size_toArray] <;> omega)
  have I1:Inv X pins σ H { s with heap:=h' }:=I.kept (t':=s.toks) kp
  have I2:Inv X pins σ (upd H h'.objs.size (.tup ys)) { s with heap:=h'.push { cls:=.type "tuple",data:=.seq its.toArray } } :=
   I1.laid (t':=s.toks) (fun b o e => Heap.get?_push_of_some _ e) (Nat.le_refl _) (show bX X.prog X.w _ _ _ (.tup ys) from ⟨hz,its,r',se.new _ _⟩)
  exact ⟨.ref h'.objs.size,_,I2,rfl,q _ (I1.hok.fresh (Nat.le_refl _))⟩
 ·obtain ⟨its,r',pl,hz⟩:=I.tuple hq
  exact call_tuple_same pl ⟨.ref p,H,I,rfl,q⟩
def Gi (K:PySem.W.Frag) (T:String) (x:V) (H:Hp):Prop:=match x with
 | .str _ => T = "str"
 | .int _ => T = "int"
 | .ref p => (T = "list" ∧ ∃ xs,fI K H p xs) ∨ (T = "tuple" ∧ ∃ o,K.lookup p = some o ∧ o.cls = .type "tuple" ∧ o.dict = none) ∨
   (T = "dict" ∧ ((∃ kvs,H p = some (.dK kvs)) ∨ ∃ kvs,H p = some (.dT kvs))) ∨ (T = "set" ∧ ∃ S n,H p = some (.set S n))
 | _ => False
theorem A8 {pins:List (Addr × Obj)} {σ:St} {H:Hp} {s:Shared} {T:String} {x:V} {v:Value} (I:Inv X pins σ H s) (r:RelV x v) (ty:Gi X.K T x H) :
  s.TypeIs v T ∧ ∀ a,v = .ref a -> ∃ ob,s.heap.get? a = some ob ∧ ob.dict = none:= by
 cases x with
 | str z =>
  obtain ⟨t,rfl⟩:=r
  cases (show T = "str" from ty)
  exact ⟨typeIs_str s z t,fun _ e => nomatch e⟩
 | int i =>
  obtain ⟨t,rfl⟩:=r
  cases (show T = "int" from ty)
  exact ⟨typeIs_int s i t,fun _ e => nomatch e⟩
 | ref p =>
  cases r
  rcases ty with ⟨rfl,xs,hq⟩ | ⟨rfl,o,hk,hc,hd⟩ | ⟨rfl,hk⟩ | ⟨rfl,S,n,hk⟩
  ·obtain ⟨its,_,pl,_⟩:=I.list hq
   refine ⟨pl.isList.typeIs,fun a e => ?_⟩
   cases e
   obtain ⟨o,n,e,c,hd,_⟩:=pl
   exact ⟨o,e,hd⟩
  ·refine ⟨⟨o,I.kIn p o hk,hc⟩,fun a e => ?_⟩
   cases e
   exact ⟨o,I.kIn _ o hk,hd⟩
  ·have z:∃ o,s.heap.get? p = some o ∧ o.ExactDict:= by
    rcases hk with ⟨kvs,hk⟩ | ⟨kvs,hk⟩
    ·obtain ⟨_,_,_,_,o,_,_,e,ex,_⟩:=I.hok p _ hk
     exact ⟨o,e,ex⟩
    ·obtain ⟨_,_,_,_,o,_,_,e,ex,_⟩:=I.hok p _ hk
     exact ⟨o,e,ex⟩
   obtain ⟨o,e,ex⟩:=z
   refine ⟨⟨o,e,ex.1⟩,fun a e2 => ?_⟩
   cases e2
   exact ⟨o,e,ex.2.1⟩
  ·obtain ⟨o,_,_,_,e,ex,_⟩:=I.hok p _ hk
   refine ⟨⟨o,e,ex.1⟩,fun a e2 => ?_⟩
   cases e2
   exact ⟨o,e,ex.2.1⟩
 | _ => exact False.elim ty
def Gy (K:PySem.W.Frag) (T:String) (r:V -> List V -> Hp -> VK -> Prop) (to:TE) (t:TA):TE:=fun σ H Q => to σ H fun x H1 => Gi K T x H1 ∧ t σ H1 fun xs H2 => r x xs H2 Q
variable {o e:Expr} {es:List Expr} {to:TE} {t:TA} {name:Str} {apos cpos:Pos} {T id:String} {r:V -> List V -> Hp -> VK -> Prop}
theorem Ab (pa:PlainAttrs T) (slot:Slot T name id) (hty:typeOf (.builtin id) = pure (.type "method_descriptor")) (hm:Gv X id r) (ho:PE X o to) (ha:PA X (e :: es) t)
  (hbase:attributeBase o name X.env (eval o X.env) = eval o X.env:=by rfl)
  (hfew:((backTo cpos (starEach (e :: es) X.env)).all (fun x => !x.1) && (backToKw cpos (keywordEach [] X.env)).all (fun x => x.1.isSome)
   && decide ((e :: es).length + ([]:List Keyword).length + (if ([]:List Keyword).isEmpty then 0 else 1) < 30)) = true:=by rfl)
  (hline:(apos.endLine == cpos.line) = true:=by rfl) (hs:starEach (e :: es) X.env = (false,eval e X.env) :: starEach es X.env:=by rfl) (hplain:(backTo cpos (starEach es X.env)).any (·.1) = false:=by rfl) :
  PE X (.Call (.Attribute o name apos) (e :: es) [] cpos) (Gy X.K T r to t):= by
 intro pins s σ H Q I h
 refine wpAny_Call_method_late hbase hfew hline rfl (bj (ho pins s σ H _ I h) fun v s1 ⟨x,H1,I1,r1,ty,q1⟩ => ?_)
 obtain ⟨h1,h2⟩:=A8 I1 r1 ty
 refine ⟨T,id,pa,slot,hty,h1,h2,?_⟩
 have hA:=ha cpos pins s1 σ H1 _ I1 q1
 rw [hs] at hA ⊢
 refine Calls.callWith_builtin (by show (false || (backTo cpos (starEach es X.env)).any (·.1)) = false; rw [hplain] <;> rfl) (Calls.evalArgs_plain ?_)
 exact bj hA fun us s2 ⟨vs,H2,I2,r2,q2⟩ => hm pins s2 σ H2 x vs v us Q I2 r1 r2 q2
end
end L2
namespace L2
open PySem PySem.Spec PyProof.Rows
def EK (X:Cx) (id:String) (r:V -> List V -> Hp -> VK -> Prop):Prop :=
 ∀ (pins:List (Addr × Obj)) (s:Shared) (σ:St) (H:Hp) (x:V) (xs:List V) (v:Value) (us:List Value) (Q:VK),Inv X pins σ H s -> RelV x v -> Vals xs us -> r x xs H Q ->
  wpAny (model X.prog X.w) X.A (call (.builtin id) (v :: us)) (EP X pins σ Q) X.xe s
theorem Vals.one:∀ {x:V} {us:List Value},Vals [x] us -> ∃ u,us = [u] ∧ RelV x u
 | _,_,.cons r .nil => ⟨_,rfl,r⟩
theorem Vals.two:∀ {x y:V} {us:List Value},Vals [x,y] us -> ∃ u v,us = [u,v] ∧ RelV x u ∧ RelV y v
 | _,_,_,.cons r (.cons q .nil) => ⟨_,_,rfl,r,q⟩
theorem Vals.eraseIdx:∀ {xs:List V} {us:List Value} (i:Nat),Vals xs us -> Vals (xs.eraseIdx i) (us.eraseIdx i)
 | _,_,_,.nil => .nil
 | _,_,0,.cons _ t => t
 | _,_,i + 1,.cons r t => .cons r (Vals.eraseIdx i t)
theorem lL {α:Type}:∀ (l:List α) (i:Nat),(l.eraseIdx i).length ≤ l.length
 | [],_ => Nat.le_refl _
 | _ :: _,0 => Nat.le_succ _
 | _ :: r,i + 1 => Nat.succ_le_succ (lL r i)
section
variable {X:Cx} {pins:List (Addr × Obj)} {σ:St} {H:Hp} {s:Shared} {l b:Addr} {xs ys zs:List V}
theorem Inv.lset {its its':List Value} {n:Nat} {f:Array Value -> Array Value} {t':Nat} (I:Inv X pins σ H s) (hH:H l = some (.lst xs))
  (e:s.heap.get? l = some { cls:=.type "list",data:=.seq its.toArray n }) (hf:f its.toArray = its'.toArray) (hv:Vals ys its') (hz:ys.length ≤ sizeLine) :
  Inv X pins σ (upd H l (.lst ys)) { s with heap:=s.heap.update l (Obj.mapSeq f),toks:=t' }:= by
 have q:=PySem.IsL.update e f
 rw [hf] at q
 refine I.write (x:=l) (e:=l) (by rw [hH]; exact trivial) (.inl rfl) (fun b' u hb hu => (Heap.get?_update_other s.heap (Obj.mapSeq f) (Ne.symm hb)).trans hu) ⟨_,q⟩ ?_
 exact ⟨hz,its',_,hv,q⟩
theorem Inv.lnew {its:List Value} {t':Nat} (I:Inv X pins σ H s) (hv:Vals ys its) (hz:ys.length ≤ sizeLine) :
  Inv X pins σ (upd H s.heap.objs.size (.lst ys)) { s with heap:=s.heap.push { cls:=.type "list",data:=.seq its.toArray },toks:=t' } :=
 I.laid (fun _ _ q => Heap.get?_push_of_some _ q) (Nat.le_refl _) ⟨hz,its,0,hv,Heap.get?_push_size _ rfl⟩
theorem Inv.fresh (I:Inv X pins σ H s):H s.heap.objs.size = none:=I.hok.fresh (Nat.le_refl _)
theorem Inv.lstM (I:Inv X pins σ H s) (hH:H l = some (.lst xs)):xs.length ≤ sizeLine ∧ ∃ (its:List Value) (n:Nat),Vals xs its ∧ xs.length = its.length ∧ s.heap.get? l = some { cls:=.type "list",data:=.seq its.toArray n }:= by
 obtain ⟨z,its,n,r,e⟩:=I.hok l _ hH
 exact ⟨z,its,n,r,r.length,e⟩
end
section
variable {X:Cx}
def yr:V -> List V -> Hp -> VK -> Prop:=fun x vs H Q => ∃ l xs y,x = .ref l ∧ vs = [y] ∧ H l = some (.lst xs) ∧ xs.length < sizeLine ∧ Q .non (upd H l (.lst (xs ++ [y])))
theorem lb:EK X "list.append" yr:= by
 intro pins s σ H x vs v us Q I rx rv h
 obtain ⟨l,xs,y,rfl,rfl,hH,hz,q⟩:=h
 cases rx
 obtain ⟨u,rfl,ru⟩:=rv.one
 obtain ⟨z,its,n,r,hl,e⟩:=I.lstM hH
 refine call_meets F.slot_list_append ⟨_,e,rfl⟩ F.entry_list_append (F.args_list_append_2 _ _) (PySem.list_append l its.toArray n u (by rw [List.size_toArray]; omega)) ⟨e,?_⟩
 refine ⟨.non,_,I.lset (its':=its ++ [u]) hH e (by simp) (r.append (.cons ru .nil)) ?_,rfl,q⟩
 rw [List.length_append,List.length_singleton]
 omega
def AA:V -> List V -> Hp -> VK -> Prop:=fun x vs H Q => ∃ l xs i k y,x = .ref l ∧ vs = [.int i] ∧ H l = some (.lst xs) ∧ -(2 ^ 63) ≤ i ∧ i < 2 ^ 63 ∧ seqIndex? i xs.length = some k ∧ xs[k]? = some y ∧ Q y (upd H l (.lst (xs.eraseIdx k)))
theorem vC:EK X "list.pop" AA:= by
 intro pins s σ H x vs v us Q I rx rv h
 obtain ⟨l,xs,i,k,y,rfl,rfl,hH,h1,h2,hk,hy,q⟩:=h
 cases rx
 obtain ⟨u,rfl,ru⟩:=rv.one
 obtain ⟨t,rfl⟩:=ru
 obtain ⟨z,its,n,r,hl,e⟩:=I.lstM hH
 obtain ⟨w,hw,rw'⟩:=r.get hy
 refine call_meets F.slot_list_pop ⟨_,e,rfl⟩ F.entry_list_pop (F.args_list_pop_2 _ _)
  (MeetsSeq.list_pop_at l its.toArray n i t k w (fitsIndex_both h1 h2) (by rw [List.size_toArray,<- hl]; exact hk) (by rw [<- Array.getElem?_toList]; exact hw) (by rw [List.size_toArray]; omega)) ⟨e,?_⟩
 refine ⟨y,_,I.lset (its':=its.eraseIdx k) hH e ?_ (r.eraseIdx k) ?_,rw',q⟩
 ·show its.toArray.eraseIdxIfInBounds k = (its.eraseIdx k).toArray
  rw [List.eraseIdxIfInBounds_toArray]
 ·have:=lL xs k
  omega
end
section
variable {prog:Program} {w:World} {A:Around} {E:Value -> Shared -> Prop} {s:Shared}
set_option maxRecDepth 100000 in
end
section
variable {X:Cx}
end
end L2
namespace Att
open PySem PySem.W PySem.Calls PyProof.Rows
theorem jk {P:Params} {h:Heap}:∀ (ns:List Int) (vs:List Value),WellAll P h vs (ns.map WData.int) -> IntsAre vs ns:= by
 intro ns
 induction ns with
 | nil =>
  intro vs w
  rw [List.map_nil] at w
  cases w
  exact .nil
 | cons n ns ih =>
  intro vs w
  rw [List.map_cons] at w
  cases w with
  | cons a b =>
   cases a
   exact .cons _ _ (ih _ b)
theorem sR {l:OpenLaw} {n:Nat} (hn:l.most = some n) {P:Params} {h:Heap} {args:List WData} {vals:List Value}
  (hpre:l.row.toRowW.claim.pre args = true) (hwl:WellAll P h vals args) :
  ∃ a vs ns,vals = [Value.ref a] ∧ args = [WData.list (ns.map WData.int)] ∧ h.get? a = some { cls:=.type "list",data:=.seq vs.toArray } ∧ IntsAre vs ns ∧ ns.length ≤ n:= by
 have hsh:WShape.hasAll [] args [.list .int] = true:=(pre_splitW hpre).1
 have hc:l.pre.holds [] { args:=args } = true:=(pre_splitW hpre).2
 obtain ⟨d,r,rfl,h1,h2⟩:=hasAllW_cons hsh
 obtain rfl:=hasAllW_nil h2
 obtain ⟨xs,rfl,h3⟩:=hasW_list h1
 obtain ⟨ns,rfl⟩:=items_int h3
 have hlen:ns.length ≤ n:= by
  unfold OpenLaw.pre at hc
  have h4:(WTm.not (.lt (.lit (.int (n:Int))) (.len (.arg 0)))).holds [] { args:=[.list (ns.map .int)] } = true:= by
   have h4:=(holds_andW hc).1
   rw [hn] at h4
   exact h4
  have h5:=condW_of h4 (w_not (w_lt w_lit (w_len_list (w_arg rfl))))
  rw [List.length_map] at h5
  refine Nat.le_of_not_lt fun q => ?_
  have q':(n:Int) < ((ns.length:Nat):Int):=by omega
  first
   | (rw [decide_eq_true q'] at h5; exact absurd h5 (by decide))
   | (simp at h5; omega)
 cases hwl with
 | cons w1 w2 =>
  cases w2
  cases w1 with
  | list ho hall => exact ⟨_,_,ns,rfl,rfl,ho,jk ns _ hall,hlen⟩
theorem rY (l:OpenLaw) (args:List WData):l.row.toRowW.claim.post args (.bool true) args = true :=
 postW_of (r:=l.row.toRowW) (X:=(true == true))
  (show WShape.has [] (.bool true) .bool = true by first | rfl | decide | simp [WShape.has,WShape.arms,WShape.armsAll])
  (show (WTm.eq .res (.lit (.bool true))).value [] { args:=args,res:=some (.bool true),after:=args } = some (.bool (true == true)) from w_eq_bool (w_res rfl) w_lit) rfl
theorem attach_call {l:OpenLaw} {n:Nat} {q:Program} {loose:List Str} {XP:(Str -> Option Value) -> Heap -> Prop} {YP:World -> Heap -> Prop} {d:DefRec}
  (hn:l.most = some n) (hdf:d.params.defaults = [])
  (call:∀ (w:World) (s₀ s₁:Shared) (mg mb:Str -> Option Value) (fa:Addr) (o:Obj) (pm cd doc:Value) (a:Addr) (vs:List Value) (ns:List Int),
   Ground q loose [] XP w s₀ mg mb s₁.heap -> YP w s₁.heap ->
   s₁.heap.get? fa = some o -> o.data = .func (docDef d.name d.params d.body d.scope pm cd doc) -> s₁.heap.CodeRec cd d.name -> mg d.name = some (.ref fa) ->
   s₁.heap.get? a = some { cls:=.type "list",data:=.seq vs.toArray } -> IntsAre vs ns -> ns.length ≤ n -> s₁.gens = #[] ->
   codeAny (model l.prog w) callerA (.call (.ref fa) ⟨[.ref a],[]⟩) (fun r s' => r = .ok (.ret (.bool true)) ∧ OldK s₁.heap s'.heap ∧ s'.os = s₁.os ∧ AllBare s'.gens) s₁) :
  WalkO q loose XP YP l.row.toRowW d [] (fun f vs => PySem.call f vs):= by
 intro w s₀ s₁ mg mb G Y fa o pm cd doc dV kV ho hd hcd hD hmg hg args vals as hpre hlay hrd hwl hlo
 obtain rfl:dV = .none:=Dflts.none hD hdf
 obtain rfl:kV = .none:=Dflts.noKw hD
 obtain ⟨a,vs,ns,rfl,rfl,hobj,hints,hlen⟩:=sR hn hpre hwl
 refine enter_call (codeAny_mono (call w s₀ s₁ mg mb fa o pm cd doc a vs ns G Y ho (fd_plain hd) hcd hmg hobj hints hlen hg) fun r s' hq => ?_)
 obtain ⟨rfl,h2,h3,h4⟩:=hq
 exact ⟨.inl ⟨.bool true,.bool true,[],rfl,fun _ => rfl,.bool true,rY l _,fun _ => ⟨List.Pairwise.nil,fun _ hm => (nomatch hm)⟩⟩,h2,h3,h4⟩
section
variable {prog:Program} {w:World} {A:Around} {E:Value -> Shared -> Prop} {s:Shared} {K:Frag}
end
end Att
namespace L2
open PySem PySem.Spec PyProof.Rows
theorem fW:∀ {vs:List Value} {ns:List Int},IntsAre vs ns -> Vals (ns.map V.int) vs
 | _,_,.nil => .nil
 | _,_,.cons n t h => .cons ⟨t,rfl⟩ (fW h)
def A0 (H:Hp):Prop:=∀ b,H b = none ∨ ∃ o xs,H b = some (.frz o (.lst xs))
theorem u0 {P:Program} {w:World} {K:PySem.W.Frag} {mg mb:Str -> Option Value} {CX:oT} {k:Nat} {fa a:Addr} {fd:FuncData} {x:Str} {sp:Sp} {s₁:Shared} {vs:List Value} {ns:List Int}
  (KX:K.In s₁.heap) (hns:s₁.heap.Ns mainGlobals mg) (hb:s₁.heap.Ns builtinsNs mb) (hbb:∀ x:Str,x ≠ "__name__" -> mb x = bootBuiltins x) (hlim:s₁.heap.NoLimit) (hg:s₁.gens = #[])
  (ha:s₁.heap.get? a = some { cls:=.type "list",data:=.seq vs.toArray }) (hi:IntsAre vs ns) (hl:ns.length ≤ sizeLine) (hr:b6 k callerA)
  (F:∀ base:Heap,K.In base -> base.Ns mainGlobals mg -> c8 P w K mg base CX k fa fd [x] sp) (hbind:∀ (s:Shared) (u:Value),BindsTo s fd ⟨[u],[]⟩ [(x,u)])
  (hsp:∀ H:Hp,A0 H -> fI K H a (ns.map V.int) -> sp [.ref a] H (fun v _ => v = .bl true) fun _ _ _ => False)
  (hCX:∀ H e s',CX [] H s₁ (fun _ _ _ => False) e s' -> False) :
  codeAny (model P w) callerA (.call (.ref fa) ⟨[.ref a],[]⟩) (fun r s' => r = .ok (.ret (.bool true)) ∧ OldK s₁.heap s'.heap ∧ s'.os = s₁.os ∧ AllBare s'.gens) s₁:= by
 have rv:=fW hi
 have lenV:=hi.length
 have core:∀ H:Hp,A0 H -> fI K H a (ns.map V.int) -> iq P w H s₁.heap -> (∀ b,H b ≠ none -> b = a) -> (H a ≠ none -> K.lookup a = none) ->
   codeAny (model P w) callerA (.call (.ref fa) ⟨[.ref a],[]⟩) (fun r s' => r = .ok (.ret (.bool true)) ∧ OldK s₁.heap s'.heap ∧ s'.os = s₁.os ∧ AllBare s'.gens) s₁:= by
  intro H hO hS hok hA hK
  have base_of:∀ {b:Addr} {o:Obj},s₁.heap.get? b = some o -> H b = none -> (ml s₁.heap H).get? b = some o:=fun e n => uM e n
  have noA:∀ {b:Addr} {o:Obj} {es:Array DictEntry} {ep:Nat},s₁.heap.get? b = some o -> o.data = .dict es ep -> H b = none:=fun {b o es ep} e d => by
   cases q:H b with
   | none => rfl
   | some u =>
    have e':b = a:=hA b (by rw [q]; simp)
    subst e'
    rw [ha] at e; cases e
    have d':Data.seq vs.toArray _ = Data.dict es ep:=d
    cases d'
  have nsK:∀ {b:Addr} {m:Str -> Option Value},s₁.heap.Ns b m -> (ml s₁.heap H).Ns b m:=fun {b m} ⟨o,es,ep,e,d,r⟩ => ⟨o,es,ep,base_of e (noA e d),d,r⟩
  have hKb:K.In (ml s₁.heap H):=fun b o e => base_of (KX b o e) (by
   cases q:H b with
   | none => rfl
   | some u =>
    have e':b = a:=hA b (by rw [q]; simp)
    subst e'
    rw [hK (by rw [q]; simp)] at e; cases e)
  have hM:Mod K mg (ml s₁.heap H):=⟨hKb,nsK hns,⟨mb,nsK hb,hbb⟩,let ⟨mc,h1,h2⟩:=hlim; ⟨mc,nsK h1,h2⟩⟩
  have e0:yc P w K mg (ml s₁.heap H) callerA [] s₁ H:=⟨rfl,hM,fun b o e => yE e,Nat.le_of_eq (rX _ _),trivial,fun b hb => absurd (show b ∈ ([]:List Addr) from hb) (by simp),hok,.of_eq hg⟩
  refine codeAny_mono ((F _ hKb (nsK hns)).run callerA [] s₁ H ⟨[.ref a],[]⟩ [.ref a] [.ref a] _ _ hr e0 (hbind s₁ (.ref a)) (.cons rfl .nil) (hsp H hO hS)) fun r s' h => ?_
  cases r with
  | error e => exact (hCX H e s' h).elim
  | ok fl =>
   cases fl with
   | next => exact False.elim h
   | brk => exact False.elim h
   | cont => exact False.elim h
   | ret u =>
    obtain ⟨v,H',os,bare,un,hok',r',q⟩:=h
    have q':v = .bl true:=q
    subst q'
    obtain rfl:u = Value.bool true:=r'
    refine ⟨rfl,OldK.of_keep fun b o e => ?_,os,bare⟩
    cases q:H b with
    | none => exact un.keep b o e q (by intro z; exact absurd (show b ∈ ([]:List Addr) from z) (by simp)) (by simp)
    | some u =>
     rcases hO b with z | ⟨ob,xs,z⟩
     ·rw [q] at z; cases z
     ·have z2:=un.frzs b ob _ z
      obtain ⟨e1,_⟩:=hok b _ z
      obtain ⟨e2,_⟩:=hok' b _ z2
      rw [e] at e1; cases e1
      exact e2
 cases hk:K.lookup a with
 | some o =>
  have e:=KX a o hk
  rw [ha] at e
  cases e
  refine core (fun _ => none) (fun _ => .inl rfl) (.inr ⟨_,vs.toArray,_,hk,rfl,rfl,rfl,by rw [List.size_toArray,lenV]; exact hl,by simpa using rv⟩) (fun b u z => by have z':(none:Option HO) = some u:=z; cases z') (fun b z => absurd rfl z) fun z => absurd rfl z
 | none =>
  refine core (fun b => if b = a then some (.frz { cls:=.type "list",data:=.seq vs.toArray } (.lst (ns.map V.int))) else none) (fun b => ?_) (.inl (.inr ⟨{ cls:=.type "list",data:=.seq vs.toArray },if_pos rfl⟩)) (fun b u z => ?_) (fun b z => ?_) fun _ => hk
  ·by_cases hb:b = a
   ·exact .inr ⟨_,_,if_pos hb⟩
   ·exact .inl (if_neg hb)
  ·by_cases hb:b = a
   ·have z':=(if_pos hb).symm.trans z
    cases z'
    subst hb
    exact ⟨ha,by rw [List.length_map]; exact hl,vs,_,rv,ha⟩
   ·have z':=(if_neg hb).symm.trans z
    cases z'
  ·by_cases hb:b = a
   ·exact hb
   ·exact absurd (if_neg hb) z
end L2
namespace L2
open PySem PySem.Spec PyProof.Rows
abbrev GD {K:PySem.W.Frag} {h:Heap} (_:K.In h):PySem.W.Frag:=K
theorem walk_of {l:PySem.W.OpenLaw} {n k:Nat} {q:Program} {loose:List Str} {XP:(Str -> Option Value) -> Heap -> Prop} {YP:World -> Heap -> Prop} {d:DefRec} {K:Params -> PySem.W.Frag} {CX:World -> oT} {sp:World -> Sp} {x:Str}
  (hn:l.most = some n) (hn2:n ≤ sizeLine) (hdf:d.params.defaults = []) (hr:b6 k callerA)
  (hY:∀ (w:World) (h:Heap),YP w h -> (K w.params).In h)
  (F:∀ (w:World) (mg:Str -> Option Value) (fa:Addr) (h:Heap),(K w.params).In h -> h.Ns mainGlobals mg -> mg d.name = some (.ref fa) ->
   ∃ fd:FuncData,(∀ (s:Shared) (u:Value),BindsTo s fd ⟨[u],[]⟩ [(x,u)]) ∧
    ∀ base:Heap,(K w.params).In base -> base.Ns mainGlobals mg -> c8 l.prog w (K w.params) mg base (CX w) k fa fd [x] (sp w))
  (hsp:∀ (w:World) (H:Hp) (a:Addr) (ns:List Int),ns.length ≤ n -> A0 H -> fI (K w.params) H a (ns.map V.int) -> sp w [.ref a] H (fun v _ => v = .bl true) fun _ _ _ => False)
  (hCX:∀ (w:World) (H:Hp) (s:Shared) (e:Value) (s':Shared),CX w [] H s (fun _ _ _ => False) e s' -> False) :
  PySem.W.WalkO q loose XP YP l.row.toRowW d [] (fun f vs => PySem.call f vs):= by
 refine Att.attach_call hn hdf fun w s₀ s₁ mg mb fa o pm cd doc a vs ns G Y ho hd hcd hmg hobj hints hlen hg => ?_
 have KX:=hY w _ Y
 obtain ⟨fd,hb,hF⟩:=F w mg fa _ KX G.T.g hmg
 exact u0 KX G.T.g G.T.b G.T.builtins G.T.nolimit hg hobj hints (Nat.le_trans hlen hn2) hr hF hb (fun H hO hS => hsp w H a ns hlen hO hS) fun H e s' => hCX w H s₁ e s'
end L2
namespace L2
open PySem PySem.Spec PyProof.Rows
def dR (s:Stmt):Arguments:=match s with
 | .FunctionDef _ a _ _ _ _ _ _ _ _ => a
 | _ => { posonlyargs:=[],args:=[],vararg:=none,kwonlyargs:=[],kw_defaults:=[],kwarg:=none,defaults:=[] }
def bP (s:Stmt):List Stmt:=match s with
 | .FunctionDef _ _ b _ _ _ _ _ _ _ => b
 | _ => []
def ai (s:Stmt):Scope:=match s with
 | .FunctionDef _ _ _ _ _ _ sc _ _ _ => sc
 | _ => { kind:=.function,names:=[],isGenerator:=false,isCoroutine:=false }
abbrev cT:oT:=fun _ _ _ _ _ _ => False
abbrev E0:XK:=fun _ _ _ => False
theorem u3 {X:Cx}:Passes cT X E0:=fun _ _ _ _ _ _ _ h => h.elim
structure yw (K:PySem.W.Frag) (x qual:Str) (st:Stmt) (f:Addr) (fd:FuncData):Prop where
 ex:∃ (oc:Value) (od:Option Addr) (kV doc pm:Value) (an:Option Addr) (cdv ct:Value) (osl:Array (Option Value)),
  fd = PySem.W.fnOf x qual (dR st) (bP st) (ai st) .none kV doc pm an cdv ct ∧ K.lookup f = some ⟨oc,od,.func fd,osl⟩ ∧ PySem.W.codeIn K cdv qual = true
 kp:PySem.W.keepIn K (.ref f) = true
section
variable {P:Program} {w:World} {K:PySem.W.Frag} {mg:Str -> Option Value} {base:Heap}
theorem yw.ok {x qual:Str} {st:Stmt} {f:Addr} {fd:FuncData} {N ps:List Str} {k:Nat} {sp:Sp} (F:yw K x qual st f fd) (S:aB N ps (ai st)) (len:∀ vs H Q E,sp vs H Q E -> vs.length = ps.length)
  (hbody:∀ (cdv:Value) (A:Around) (outer:List Env) (s:Shared) (H:Hp) (vs:List V) (Q:VK) (E:XK),b6 k (A.deeper (envOfC qual (ai st) s.heap.objs.size f cdv)) -> sp vs H Q E ->
   ∃ t,pw (ic cT P w K mg base N qual (ai st) f cdv A outer s H E).nox (bP st) t ∧ t { nx:=fun _ H' => Q .non H',rt:=Q } (start N vs) H):c8 P w K mg base cT (k + 1) f fd ps sp:= by
 obtain ⟨oc,od,kV,doc,pm,an,cdv,ct,osl,rfl,lk,hcd⟩:=F.ex
 refine C7 lk hcd S len fun A outer s H vs Q E hr hsp => ?_
 obtain ⟨t,h,q⟩:=hbody cdv A outer s H vs Q E hr hsp
 exact ⟨t,h.nox,q⟩
theorem yw.binds {x qual:Str} {st:Stmt} {f:Addr} {fd:FuncData} {ps:List Str} (F:yw K x qual st f fd)
  (h:∀ (kV doc pm:Value) (an:Option Addr) (cdv ct:Value) (us:List Value),us.length = ps.length -> bindArgs (PySem.W.fnOf x qual (dR st) (bP st) (ai st) .none kV doc pm an cdv ct) ⟨us,[]⟩ = pure (ps.zip us)):Binds K fd ps []:= by
 obtain ⟨oc,od,kV,doc,pm,an,cdv,ct,osl,rfl,lk,hcd⟩:=F.ex
 exact .all (h kV doc pm an cdv ct)
theorem wu {x qual:Str} {st:Stmt} {f:Addr} {oc:Value} {od an:Option Addr} {osl:Array (Option Value)} {kV doc pm cdv ct:Value} (l:K.lookup f = some ⟨oc,od,.func (PySem.W.fnOf x qual (dR st) (bP st) (ai st) .none kV doc pm an cdv ct),osl⟩)
  (c:PySem.W.codeIn K cdv qual = true) (k:PySem.W.keepIn K (.ref f) = true):yw K x qual st f (PySem.W.fnOf x qual (dR st) (bP st) (ai st) .none kV doc pm an cdv ct):=⟨⟨oc,od,kV,doc,pm,an,cdv,ct,osl,rfl,l,c⟩,k⟩
end
section
variable {X:Cx}
end
theorem Cf {A B:Prop} (h:B):if false = true then A else B:= by
 rw [if_neg Bool.false_ne_true]
 exact h
theorem AR {A B:Prop} (h:A):if true = true then A else B:= by
 rw [if_pos rfl]
 exact h
def vj (H H':Hp):Prop:=∀ b o,H b = some o -> H' b = some o
end L2
namespace L2
open PySem
theorem mU {prog:Program} {w:World} {A:Around} {R:Result -> Shared -> Prop} {s:Shared} {elt target iter:Expr} {ifs:List Expr} {scope:Scope} {pos:Pos} {it acc:Value} {env:Env} (I:Nat -> Shared -> Prop)
  (turn:∀ n s,I n s -> wpAny (model prog w) A (pyNext it) (fun r s1 => match r with
   | none => R (.ok .next) s1
   | some v => wpAny (model prog w) A (letOwnedTupleGo target it v) (fun _ s2 => wpAny (model prog w) A (assign target env v) (fun _ s3 =>
     wpAny (model prog w) A (forIn ifs true fun c r => if r = true then do let ok <- isTrue c env (eval c env); pure (ForInStep.yield ok) else pure (ForInStep.yield r)) (fun ok s4 =>
      if ok = true then wpAny (model prog w) A (eval elt env) (fun x s5 =>
       wpAny (model prog w) A (call (.builtin "list.append") [acc,x]) (fun _ s6 => ∃ m,m < n ∧ I m s6) (fun _ _ => False) s5) (fun _ _ => False) s4
      else ∃ m,m < n ∧ I m s4) (fun _ _ => False) s3) (fun _ _ => False) s2) (fun _ _ => False) s1) (fun _ _ => False) s)
  (n:Nat) (h:I n s) :
  codeAny (model prog w) A (.compLoop (.ListComp elt [⟨target,iter,ifs,0⟩] scope pos) 0 it acc env) R s:= by
 refine codeAny_loop rfl I (fun n s hI => ?_) n h
 show wpAny _ A ((compTurn (.ListComp elt [⟨target,iter,ifs,0⟩] scope pos) 0 it acc env).onRaise (fun x => do noteFrame x env; theTreesLotGoes x)) _ _ s
 refine wpAny_noted ?_
 rw [compTurn_list]
 refine wpAny_bind (wpAny_standAt (wpAny_bind (wpAny_mono (turn n s hI) (fun r s₁ h₁ => ?_) fun _ _ h' => h'.elim)))
 cases r with
 | none => exact wpAny_pure h₁
 | some v =>
  refine wpAny_bind (wpAny_mono h₁ (fun _ s₂ h₂ => ?_) fun _ _ h' => h'.elim)
  refine wpAny_bind (wpAny_mono h₂ (fun _ s₃ h₃ => wpAny_bind (wpAny_mono h₃ (fun ok s₄ h₄ => ?_) fun _ _ h' => h'.elim)) fun _ _ h' => h'.elim)
  cases ok with
  | false => exact wpAny_pure ⟨rfl,h₄⟩
  | true =>
   exact wpAny_bind (wpAny_bind (wpAny_mono h₄ (fun x s₅ h₅ => wpAny_bind (wpAny_mono h₅ (fun _ s₆ h₆ => wpAny_pure (wpAny_pure ⟨rfl,h₆⟩)) fun _ _ h' => h'.elim)) fun _ _ h' => h'.elim))
def fg (cells:List (Str × Addr)):List (Str × NameKind) -> List (Str × Addr) -> List (Str × Addr)
 | [],acc => acc
 | (n,k) :: r,acc => if k == .free then (match cells.lookup n with | some c => fg cells r ((n,c) :: acc) | none => fg cells r acc) else fg cells r acc
theorem gn {scope:Scope} {env:Env} (h:∀ n,(n,NameKind.free) ∈ scope.names -> ∃ c,env.cells.lookup n = some c):closureFor scope env = pure (fg env.cells scope.names []):= by
 have gen:∀ (names:List (Str × NameKind)) (acc:List (Str × Addr)),(∀ n,(n,NameKind.free) ∈ names -> ∃ c,env.cells.lookup n = some c) ->
   (forIn names acc (fun (x:Str × NameKind) (r:List (Str × Addr)) => match x with
    | (name,kind) => if (kind == .free) = true then do let a <- cellOf env name; pure (ForInStep.yield ((name,a) :: r)) else pure (ForInStep.yield r)):Sem (List (Str × Addr))) = pure (fg env.cells names acc):= by
  intro names
  induction names with
  | nil => intro acc _; rfl
  | cons x r ih =>
   intro acc hx
   obtain ⟨n,k⟩:=x
   rw [List.forIn_cons]
   unfold fg
   by_cases hk:(k == NameKind.free) = true
   ·have e:k = .free:=by simpa using hk
    subst e
    obtain ⟨c,hc⟩:=hx n List.mem_cons_self
    dsimp only
    rw [if_pos hk,if_pos hk,hc]
    have:cellOf env n = pure c:=by unfold cellOf; rw [hc]
    rw [this]
    show (pure c >>= fun a => _) >>= _ = _
    rw [pure_bind,pure_bind]
    exact ih _ fun m hm => hx m (List.mem_cons_of_mem _ hm)
   ·dsimp only
    rw [if_neg hk,if_neg hk,pure_bind]
    exact ih _ fun m hm => hx m (List.mem_cons_of_mem _ hm)
 have g0:=gen scope.names [] h
 unfold closureFor
 refine Eq.trans (congrArg (fun z:Sem (List (Str × Addr)) => z >>= fun r => pure r) g0) ?_
 exact pure_bind _ _
theorem gZ {cells:List (Str × Addr)}:∀ {names:List (Str × NameKind)} {acc:List (Str × Addr)} {x:Str} {c:Addr},(x,c) ∈ fg cells names acc -> (x,c) ∈ acc ∨ (cells.lookup x = some c ∧ (x,NameKind.free) ∈ names)
 | [],_,_,_,h => .inl h
 | (n,k) :: r,acc,x,c,h => by
  unfold fg at h
  split at h
  ·rename_i hk
   have e:k = NameKind.free:=by simpa using hk
   subst e
   split at h
   ·rename_i d hd
    rcases gZ h with h | ⟨h1,h2⟩
    ·rcases List.mem_cons.mp h with e | h
     ·cases e; exact .inr ⟨hd,List.mem_cons_self⟩
     ·exact .inl h
    ·exact .inr ⟨h1,List.mem_cons_of_mem _ h2⟩
   ·rcases gZ h with h | ⟨h1,h2⟩
    ·exact .inl h
    ·exact .inr ⟨h1,List.mem_cons_of_mem _ h2⟩
  ·rcases gZ h with h | ⟨h1,h2⟩
   ·exact .inl h
   ·exact .inr ⟨h1,List.mem_cons_of_mem _ h2⟩
theorem f6 {cells:List (Str × Addr)}:∀ {names:List (Str × NameKind)} {acc:List (Str × Addr)} {x:Str},((x,NameKind.free) ∈ names ∧ (cells.lookup x).isSome = true) ∨ (acc.lookup x).isSome = true -> ((fg cells names acc).lookup x).isSome = true
 | [],_,_,h => h.elim (fun z => nomatch z.1) id
 | (n,k) :: r,acc,x,h => by
  unfold fg
  by_cases hk:(k == NameKind.free) = true
  ·rw [if_pos hk]
   cases hd:cells.lookup n with
   | none =>
    dsimp only
    refine f6 ?_
    rcases h with ⟨h1,h2⟩ | h
    ·rcases List.mem_cons.mp h1 with e | h1
     ·cases e; rw [hd] at h2; cases h2
     ·exact .inl ⟨h1,h2⟩
    ·exact .inr h
   | some d =>
    dsimp only
    refine f6 ?_
    by_cases hx:(x == n) = true
    ·exact .inr (by rw [List.lookup_cons,hx]; rfl)
    ·have hx':(x == n) = false:=by simpa using hx
     rcases h with ⟨h1,h2⟩ | h
     ·rcases List.mem_cons.mp h1 with e | h1
      ·cases e; simp at hx'
      ·exact .inl ⟨h1,h2⟩
     ·exact .inr (by rw [List.lookup_cons,hx']; exact h)
  ·rw [if_neg hk]
   refine f6 ?_
   rcases h with ⟨h1,h2⟩ | h
   ·rcases List.mem_cons.mp h1 with e | h1
    ·cases e; simp at hk
    ·exact .inl ⟨h1,h2⟩
   ·exact .inr h
theorem cq:∀ (names:List (Str × NameKind)) (n:Nat) (acc:List (Str × Addr)),cellsFrom n names acc = cellsFrom n names [] ++ acc
 | [],_,_ => rfl
 | (x,k) :: r,n,acc => by
  unfold cellsFrom
  split
  ·rw [cq r (n + 1) ((x,n) :: acc),cq r (n + 1) [(x,n)],List.append_assoc]; rfl
  ·exact cq r n acc
theorem dC:∀ (names:List (Str × NameKind)) (n:Nat) (x:Str) (c:Addr),(x,c) ∈ cellsFrom n names [] -> (x,NameKind.cell) ∈ names
 | [],_,_,_,h => nomatch h
 | (y,k) :: r,n,x,c,h => by
  unfold cellsFrom at h
  split at h
  ·rename_i hk
   have e:k = NameKind.cell:=by simpa using hk
   subst e
   rw [cq] at h
   rcases List.mem_append.mp h with h | h
   ·exact List.mem_cons_of_mem _ (dC r (n + 1) x c h)
   ·have e:(x,c) = (y,n):=by simpa using h
    cases e; exact List.mem_cons_self
  ·exact List.mem_cons_of_mem _ (dC r n x c h)
theorem i4 {M:Model} {A:Around} {E:Value -> Shared -> Prop} {s:Shared} {scope:Scope} {globals:Addr} {cl:List (Str × Addr)} {qual:Str} {outer:Env} {Q:Env -> Shared -> Prop}
  (hQ:Q (newEnv scope s.heap.objs.size globals (cellsFrom (s.heap.objs.size + 1) scope.names cl) qual none .none (some outer) builtinsNs) { s with heap:=pushCells (s.heap.push { cls:=.type "dict",data:=.dict #[] }) scope.names }) :
  wpAny M A (newFunctionEnv scope globals cl [] qual none .none (some outer)) Q E s:= by
 simp only [newFunctionEnv,Option.isSome_some,if_true]
 refine wpAny_bind (wpAny_alloc ?_)
 refine wpAny_bind (wpAny_layCells _ (fun name kind cells => by cases hkc:kind == NameKind.cell <;> simp [hkc]) _ _ _ _ ?_)
 rw [show ({ s with heap:=s.heap.push { cls:=.type "dict",data:=.dict #[] } }:Shared).heap.objs.size = s.heap.objs.size + 1 from Heap.size_push ..]
 exact wpAny_bind (wpAny_pure (wpAny_pure hQ))
end L2
namespace L2
open PySem PySem.Spec PyProof.Rows
def dZ (N own:List Str) (sc0 scope:Scope):Bool :=
 scope.names.all (fun x => !(x.2 == .local) || (scope.names.lookup x.1 == some .local)) &&
 (scope.names.all (fun x => !(x.2 == .free) || (sc0.names.lookup x.1 == some .cell || sc0.names.lookup x.1 == some .free)) &&
 (scope.names.all (fun x => !(x.2 == .local || x.2 == .cell) || !(N.contains x.1)) &&
 (own.all (fun x => scope.names.all fun y => !(y.1 == x) || !(y.2 == .free)) &&
 scope.names.all (fun x => !(x.2 == .free) || scope.names.all fun y => !(y.1 == x.1) || (y.2 == .free)))))
structure pE (N own:List Str) (sc0 scope:Scope):Prop where
 loc:∀ x ∈ scope.names,x.2 = .local -> scope.names.lookup x.1 = some .local
 free:∀ n,(n,NameKind.free) ∈ scope.names -> sc0.names.lookup n = some .cell ∨ sc0.names.lookup n = some .free
 out:∀ n k,(n,k) ∈ scope.names -> (k = .local ∨ k = .cell) -> n ∉ N
 own:∀ x ∈ own,(x,NameKind.free) ∉ scope.names
 one:∀ n k,(n,NameKind.free) ∈ scope.names -> (n,k) ∈ scope.names -> k = .free
theorem lr {N own:List Str} {sc0 scope:Scope} (h:dZ N own sc0 scope = true):pE N own sc0 scope:= by
 unfold dZ at h
 simp only [Bool.and_eq_true,List.all_eq_true,Bool.or_eq_true,Bool.not_eq_true',beq_iff_eq,Bool.or_eq_false_iff] at h
 obtain ⟨h1,h2,h3,h4,h5⟩:=h
 refine ⟨fun x hx e => ?_,fun n hn => ?_,fun n k hn e hN => ?_,fun x hx hn => ?_,fun n k hn hk => ?_⟩
 ·rcases h1 x hx with z | z
  ·rw [e] at z; simp at z
  ·exact z
 ·rcases h2 _ hn with z | z
  ·simp at z
  ·exact z
 ·rcases h3 _ hn with ⟨z1,z2⟩ | z
  ·rcases e with e | e
   ·rw [e] at z1; simp at z1
   ·rw [e] at z2; simp at z2
  ·have:N.contains n = true:=by simpa using hN
   dsimp only at z
   rw [this] at z; cases z
 ·rcases h4 x hx _ hn with z | z
  ·simp at z
  ·simp at z
 ·rcases h5 _ hn with z | z
  ·simp at z
  ·rcases z _ hk with y | y
   ·simp at y
   ·exact y
def dX (N N':List Str) (scope:Scope):Bool:=(N'.length == N.length) && (N'.zip N).all fun p => p.1 == p.2 || (scope.names.lookup p.1).isNone
structure uZ (N N':List Str) (scope:Scope):Prop where
 len:N'.length = N.length
 same:∀ (i:Nat) x,N'[i]? = some x -> N[i]? = some x ∨ scope.names.lookup x = none
theorem lu {N N':List Str} {scope:Scope} (h:dX N N' scope = true):uZ N N' scope:= by
 unfold dX at h
 simp only [Bool.and_eq_true,beq_iff_eq,List.all_eq_true,Bool.or_eq_true,Option.isNone_iff_eq_none] at h
 refine ⟨h.1,fun i x e => ?_⟩
 have hi:i < N'.length:=(List.getElem?_eq_some_iff.mp e).1
 have hi2:i < N.length:=by rw [<- h.1]; exact hi
 have ez:(N'.zip N)[i]? = some (x,N[i]):= by
  rw [List.getElem?_zip_eq_some]
  exact ⟨e,List.getElem?_eq_getElem hi2⟩
 rcases h.2 _ (List.mem_of_getElem? ez) with z | z
 ·left
  rw [List.getElem?_eq_getElem hi2]
  exact congrArg some z.symm
 ·exact .inr z
def blk (X:Cx) (N' own:List Str) (scope:Scope) (s:Shared) (H:Hp) (fp:List Addr) (pins:List (Addr × Obj)):Cx where
 prog:=X.prog
 w:=X.w
 K:=X.K
 mg:=X.mg
 base:=X.base
 A:=X.A
 N:=N' ++ own
 s₀:=s
 H₀:=H
 env:={ newEnv scope s.heap.objs.size X.env.globals (cellsFrom (s.heap.objs.size + 1) scope.names (fg X.env.cells scope.names [])) X.env.qual none .none (some X.env) builtinsNs with scope:=relabel scope X.env }
 outer:=X.stack
 stack:=X.stack
 ex:=fp
 fn:=fun x => own.contains x
 calm:=X.calm
 pn:=X.pn ++ pins
 xe:=fun _ _ => False
theorem fO {env:Env}:∀ {names:List (Str × NameKind)} {x:Str},
  (names.map fun (n,k) => if (k == NameKind.free && env.scope.kind == .function && env.kindOf n == some .cell) then (n,NameKind.cell) else (n,k)).lookup x =
   (names.lookup x).map fun k => if (k == NameKind.free && env.scope.kind == .function && env.kindOf x == some .cell) then NameKind.cell else k
 | [],_ => rfl
 | (n,k) :: r,x => by
  have ih:=@fO env r x
  rw [List.map_cons]
  cases hx:x == n with
  | true =>
   have e:x = n:=by simpa using hx
   subst e
   by_cases hc:(k == NameKind.free && env.scope.kind == .function && env.kindOf x == some .cell) = true
   ·dsimp only; rw [if_pos hc]; simp only [List.lookup_cons,hx,Option.map_some]; rw [if_pos hc]
   ·dsimp only; rw [if_neg hc]; simp only [List.lookup_cons,hx,Option.map_some]; rw [if_neg hc]
  | false =>
   by_cases hc:(k == NameKind.free && env.scope.kind == .function && env.kindOf n == some .cell) = true
   ·dsimp only; rw [if_pos hc]; simp only [List.lookup_cons,hx]; exact ih
   ·dsimp only; rw [if_neg hc]; simp only [List.lookup_cons,hx]; exact ih
theorem ck {scope:Scope} {env:Env} {x:Str} {k':NameKind} (h:(relabel scope env).names.lookup x = some k'):∃ k,scope.names.lookup x = some k ∧ (k' = k ∨ (k = .free ∧ k' = .cell)):= by
 have h':(scope.names.map fun (n,k) => if (k == NameKind.free && env.scope.kind == .function && env.kindOf n == some .cell) then (n,NameKind.cell) else (n,k)).lookup x = some k':=h
 rw [fO] at h'
 cases e:scope.names.lookup x with
 | none => rw [e] at h'; cases h'
 | some k =>
  rw [e] at h'
  simp only [Option.map_some,Option.some.injEq] at h'
  refine ⟨k,rfl,?_⟩
  split at h'
  ·rename_i hc
   simp only [Bool.and_eq_true,beq_iff_eq] at hc
   exact .inr ⟨hc.1.1,h'.symm⟩
  ·exact .inl h'.symm
section
variable {X:Cx} {pins:List (Addr × Obj)} {σ:St} {H:Hp} {s:Shared} {N' own:List Str} {scope:Scope} {fp:List Addr}
theorem iE (I:Inv X pins σ H s) (S:pE N' own X.env.scope scope):∀ x c,(cellsFrom (s.heap.objs.size + 1) scope.names (fg X.env.cells scope.names [])).lookup x = some c ->
  ((x,c) ∈ cellsFrom (s.heap.objs.size + 1) scope.names [] ∧ (pushCells (s.heap.push { cls:=.type "dict",data:=.dict #[] }) scope.names).IsCell c none ∧ s.heap.objs.size + 1 ≤ c ∧ (x,NameKind.cell) ∈ scope.names) ∨
   (X.env.cells.lookup x = some c ∧ (x,NameKind.free) ∈ scope.names ∧ c < s.heap.objs.size):= by
 intro x c h
 have ok:=cellsFrom_ok scope.names (s.heap.push { cls:=.type "dict",data:=.dict #[] }) (s.heap.objs.size + 1) [] ⟨fun _ _ hm => (nomatch hm),List.Pairwise.nil⟩ (by rw [Heap.size_push]; exact Nat.le_refl _)
 rw [Heap.size_push] at ok
 have hm:=mem_of_lookup h
 rw [cq] at hm
 rcases List.mem_append.mp hm with hm | hm
 ·exact .inl ⟨hm,(ok.empty x c hm).1,(ok.empty x c hm).2,dC _ _ _ _ hm⟩
 ·rcases gZ hm with z | ⟨z1,z2⟩
  ·exact nomatch z
  ·obtain ⟨v,q⟩:=I.cell x c z1
   exact .inr ⟨z1,z2,q.lt⟩
theorem Inv.blkKeep {s:Shared} {scope:Scope}:∀ (b:Addr) (o:Obj),s.heap.get? b = some o -> (pushCells (s.heap.push { cls:=.type "dict",data:=.dict #[] }) scope.names).get? b = some o:=fun b o e =>
 pushCells_keeps _ _ b o (Heap.get?_push_of_some _ e)
theorem Inv.blk (I:Inv X pins σ H s) (hf:∀ b ∈ fp,fk X pins H b) (ho:∀ b ∈ fp,b < s.heap.objs.size) (hk:scope.kind = .function) (S:pE N' own X.env.scope scope) (Mk:uZ X.N N' scope) :
  Inv (blk X N' own scope s H fp pins) [] (σ ++ List.replicate own.length none) H { s with heap:=pushCells (s.heap.push { cls:=.type "dict",data:=.dict #[] }) scope.names }:= by
 have hcells:=iE I S
 have keep:=@Inv.blkKeep s scope
 have hasC:∀ x,((relabel scope X.env).names.lookup x = some .cell ∨ (relabel scope X.env).names.lookup x = some .free) -> ∃ c,(cellsFrom (s.heap.objs.size + 1) scope.names (fg X.env.cells scope.names [])).lookup x = some c:= by
  intro x hx
  have:∃ k,scope.names.lookup x = some k ∧ (k = .cell ∨ k = .free):= by
   rcases hx with hx | hx
   ·obtain ⟨k,e,z⟩:=ck hx
    rcases z with z | ⟨z,_⟩
    ·exact ⟨k,e,.inl z.symm⟩
    ·exact ⟨k,e,.inr z⟩
   ·obtain ⟨k,e,z⟩:=ck hx
    rcases z with z | ⟨z,_⟩
    ·exact ⟨k,e,.inr z.symm⟩
    ·exact ⟨k,e,.inr z⟩
  obtain ⟨k,e,z⟩:=this
  refine Option.isSome_iff_exists.mp (PySem.W.cellsFrom_some scope.names _ _ ?_)
  rcases z with z | z
  ·subst z; exact .inl e
  ·subst z
   have hm:=mem_of_lookup e
   obtain ⟨c,hc⟩:=I.ok.has x (S.free x hm)
   exact .inr (f6 (.inl ⟨hm,by rw [hc]; rfl⟩))
 have sub:∀ b,b ∈ tL X.stack -> b ∈ X.env.locals :: X.fs:=I.stkSub
 refine ⟨⟨I.ok.mod,hk,I.ok.glob,I.ok.blt,Nat.le_refl _,fun x y c h1 h2 => ?_,fun x hx => hasC x hx,fun x c hx h => ?_,I.ok.hd,I.ok.frames,.inl rfl,fun b hb => ⟨?_,fun x c h => ?_⟩,fun b o e => I.bs b o e,?_,fun b o e hb => ?_,fun b hb hs => ?_,I.stack,I.stkFree⟩,
  rfl,I.bare,Un.kept keep,⟨_,(Heap.Ns.new s.heap (.type "dict")).keeps (pushCells_keeps _ _),fun i x v h1 h2 h3 => ?_⟩,fun x c h => ?_,I.hok.fresh (Nat.le_refl _),fun x c h => ?_,fun p hp => ?_,I.hok.kept keep,?_⟩
 ·
  have ok:=cellsFrom_ok scope.names (s.heap.push { cls:=.type "dict",data:=.dict #[] }) (s.heap.objs.size + 1) [] ⟨fun _ _ hm => (nomatch hm),List.Pairwise.nil⟩ (by rw [Heap.size_push]; exact Nat.le_refl _)
  rw [Heap.size_push] at ok
  rcases hcells x c h1 with ⟨a1,_,a3,_⟩ | ⟨a1,_,a3⟩ <;> rcases hcells y c h2 with ⟨b1,_,b3,_⟩ | ⟨b1,_,b3⟩
  ·exact name_of_addr ok.apart a1 b1
  ·exact absurd b3 (Nat.not_lt.mpr (Nat.le_of_succ_le a3))
  ·exact absurd a3 (Nat.not_lt.mpr (Nat.le_of_succ_le b3))
  ·exact I.ok.inj x y c a1 b1
 ·rcases hcells x c h with ⟨_,_,a3,_⟩ | ⟨_,a2,_⟩
  ·show s.heap.objs.size ≤ c
   exact Nat.le_of_succ_le a3
  ·have hx':own.contains x = true:=hx
   exact absurd a2 (S.own x (by simpa using hx'))
 ·exact Nat.ne_of_lt (ho b hb)
 ·rcases hcells x c h with ⟨_,_,a3,_⟩ | ⟨a1,_,_⟩
  ·intro z; subst z; exact absurd (ho _ hb) (Nat.not_lt.mpr (Nat.le_of_succ_le a3))
  ·exact (hf b hb).2.2.2.2.1 x c a1
 ·exact Nat.le_trans I.ok.bsz I.sz
 ·rcases (hf b hb).2.2.2.1 with z | z
  ·exact I.ok.noex b o e z
  ·exact absurd (Heap.lt_size e) (Nat.not_lt.mpr (Nat.le_trans I.ok.bsz z))
 ·rcases List.mem_cons.mp (sub b hs) with z | z
  ·exact (hf b hb).2.1 z
  ·exact (hf b hb).2.2.1 z
 ·
  have hi:i < σ.length:= by
   by_cases hi:i < σ.length
   ·exact hi
   ·rw [List.getElem?_append_right (by omega),List.getElem?_replicate] at h2
    split at h2 <;> cases h2
  rw [List.getElem?_append_left hi] at h2
  have hN':N'[i]? = some x:= by
   have:(N' ++ own)[i]? = some x:=h1
   rwa [List.getElem?_append_left (by rw [Mk.len,<- I.len]; exact hi)] at this
  have hmem:x ∈ N':=List.mem_of_getElem? hN'
  have hseen:∃ k,scope.names.lookup x = some k:= by
   rcases h3 with h3 | h3 | h3 <;> (obtain ⟨k,e,_⟩:=ck h3; exact ⟨k,e⟩)
  have hN:X.N[i]? = some x:= by
   rcases Mk.same i x hN' with z | z
   ·exact z
   ·obtain ⟨k,e⟩:=hseen
    rw [z] at e; cases e
  have hfree:scope.names.lookup x = some .free ∧ ((relabel scope X.env).names.lookup x = some .cell ∨ (relabel scope X.env).names.lookup x = some .free):= by
   rcases h3 with h3 | h3 | h3
   ·obtain ⟨k,e,z⟩:=ck h3
    rcases z with z | ⟨_,z⟩
    ·exact absurd hmem (S.out x k (mem_of_lookup e) (.inl z.symm))
    ·cases z
   ·obtain ⟨k,e,z⟩:=ck h3
    rcases z with z | ⟨z,_⟩
    ·exact absurd hmem (S.out x k (mem_of_lookup e) (.inr z.symm))
    ·rw [z] at e; exact ⟨e,.inl h3⟩
   ·obtain ⟨k,e,z⟩:=ck h3
    rcases z with z | ⟨z,_⟩
    ·rw [<- z] at e; exact ⟨e,.inr h3⟩
    ·rw [z] at e; exact ⟨e,.inr h3⟩
  have hm:=mem_of_lookup hfree.1
  have hkX:=S.free x hm
  obtain ⟨m,hn,hl⟩:=I.loc
  obtain ⟨u,r,l⟩:=hl i x v hN h2 (.inr hkX)
  refine ⟨u,r,.inr ⟨hfree.2,?_⟩⟩
  rcases l with ⟨k,_⟩ | ⟨_,c,hc,hcell⟩
  ·have k':X.env.scope.names.lookup x = some .local:=k
   rw [k'] at hkX
   rcases hkX with z | z <;> cases z
  ·obtain ⟨c2,hc2⟩:=hasC x hfree.2
   refine ⟨c2,hc2,?_⟩
   rcases hcells x c2 hc2 with ⟨_,_,_,a4⟩ | ⟨a1,_,_⟩
   ·have:=S.one x _ hm a4; cases this
   ·rw [hc] at a1; cases a1
    exact hcell.keeps keep
 ·rcases hcells x c h with ⟨_,a2,_,_⟩ | ⟨a1,_,_⟩
  ·exact ⟨_,a2⟩
  ·obtain ⟨v,q⟩:=I.cell x c a1
   exact ⟨v,q.keeps keep⟩
 ·rcases hcells x c h with ⟨_,_,a3,_⟩ | ⟨a1,_,_⟩
  ·exact I.hok.fresh (by omega)
  ·exact I.freeC x c a1
 ·have hp':p ∈ X.pn ++ pins:= by
   rcases List.mem_append.mp hp with z | z
   ·exact z
   ·exact nomatch z
  obtain ⟨e,n,ne,nf,d⟩:=I.pin p hp'
  refine ⟨keep _ _ e,n,Nat.ne_of_lt (Heap.lt_size e),fun z => ?_,d⟩
  rcases List.mem_cons.mp (sub p.1 z) with z | z
  ·exact ne z
  ·exact nf z
 ·show (σ ++ List.replicate own.length none).length = (N' ++ own).length
  rw [List.length_append,List.length_append,List.length_replicate,I.len,Mk.len]
theorem Inv.unblk (I:Inv X pins σ H s) (hf:∀ b ∈ fp,fk X pins H b) {pins':List (Addr × Obj)} {σ':St} {H':Hp} {s':Shared} (J:Inv (L2.blk X N' own scope s H fp pins) pins' σ' H' s'):Inv X pins σ H' s' :=
 I.call' (ch:=fp) J.os J.base J.hok J.bare fun b hb => ⟨(hf b hb).2.2.2.1,(hf b hb).2.1,(hf b hb).2.2.2.2.1,(hf b hb).2.2.2.2.2⟩
end
def tK (X:Cx) (ifs:List Expr) (t:TT):Prop :=
 ∀ (pins:List (Addr × Obj)) (s:Shared) (σ:St) (H:Hp) (Q:Bool -> Hp -> Prop),Inv X pins σ H s -> t σ H Q ->
  wpAny (model X.prog X.w) X.A (forIn ifs true fun c r => if r = true then do let ok <- isTrue c X.env (eval c X.env); pure (ForInStep.yield ok) else pure (ForInStep.yield r)) (TP X pins σ Q) X.xe s
def Fe:TT:=fun _ H Q => Q true H
theorem xA {X:Cx}:tK X [] Fe:=fun pins s σ H Q I h => wpAny_tests_nil ⟨H,I,h⟩
theorem yV {X:Cx} {c:Expr} {t:TT} (h:PT X c t):tK X [c] t:=fun pins s σ H Q I q => wpAny_tests_one (h pins s σ H Q I q)
structure Dm (cal:Cx -> Prop) (P:Program) (w:World) (K:PySem.W.Frag) (tg:Expr) (J:It) (fp:List Addr) (it:Addr) (tn:Nat -> Heap -> Prop):Prop where
 obj:∀ i h,tn i h -> ∀ b ∈ fp,∃ o,h.get? b = some o ∧ ∀ v,o.data ≠ .cell v
 keep:∀ i h h',tn i h -> (∀ b ∈ fp,∀ o,h.get? b = some o -> h'.get? b = some o) -> tn i h'
 item:∀ (X:Cx),X.prog = P -> X.w = w -> X.K = K -> cal X -> ∀ (i:Nat) (pins:List (Addr × Obj)) (s:Shared) (σ:St) (H:Hp) (E:Value -> Shared -> Prop),Inv X pins σ H s -> (∀ b ∈ fp,fk X pins H b) -> tn i s.heap -> J.go i H ->
  wpAny (model P w) X.A (pyNext (.ref it)) (fun r s1 => ∃ u,r = some u ∧
   wpAny (model P w) X.A (letOwnedTupleGo tg (.ref it) u) (fun _ s2 => ∃ x H',Inv X pins σ H' s2 ∧ RelV x u ∧ J.yld i H x H' ∧ tn (i + 1) s2.heap ∧ ∀ b ∈ fp,H' b = none) E s1) E s
 done:∀ (X:Cx),X.prog = P -> X.w = w -> X.K = K -> cal X -> ∀ (i:Nat) (pins:List (Addr × Obj)) (s:Shared) (σ:St) (H:Hp) (E:Value -> Shared -> Prop),Inv X pins σ H s -> (∀ b ∈ fp,fk X pins H b) -> tn i s.heap -> J.stop i H ->
  wpAny (model P w) X.A (pyNext (.ref it)) (fun r s1 => r = none ∧ Inv X pins σ H s1) E s
 self:∀ (A:Around) (i:Nat) (s:Shared) (Q:Value -> Shared -> Prop) (E:Value -> Shared -> Prop),tn i s.heap -> Q (.ref it) s -> wpAny (model P w) A (pyIter (.ref it)) Q E s
def Ft (cal:Cx -> Prop) (X:Cx) (tg iter:Expr) (wi:TI):Prop :=
 ∀ (pins:List (Addr × Obj)) (s:Shared) (σ:St) (H:Hp) (R:It -> Hp -> Prop),Inv X pins σ H s -> wi σ H R ->
  wpAny (model X.prog X.w) X.A (eval iter X.env) (fun v s1 => wpAny (model X.prog X.w) X.A (pyIter v) (fun itv s2 => ∃ (it:Addr) (fp:List Addr) (tn:Nat -> Heap -> Prop) (J:It) (H':Hp),itv = .ref it ∧ Inv X pins σ H' s2 ∧ Dm cal X.prog X.w X.K tg J fp it tn ∧ tn 0 s2.heap ∧ (∀ b ∈ fp,fk X pins H' b) ∧ R J H') X.xe s1) X.xe s
theorem PI.g {X:Cx} {tg iter:Expr} {wi:TI} (h:PI X tg iter wi):Ft (fun X => X.calm = true) X tg iter wi:=fun pins s σ H R I q =>
 bj (h pins s σ H R I q) fun _ _ h => bj h fun _ _ ⟨it,fp,tn,J,H',e,I',T,r⟩ => ⟨it,fp,tn,J,H',e,I',⟨T.obj,T.keep,T.item,T.done,T.self⟩,r⟩
def qH (wi:TI) (own:Nat) (g:TG) (tt:TT) (te:TE):TE:=fun σ H Q => wi σ H fun J H1 => ∀ l,H1 l = none -> ∃ W:Nat -> Nat -> List V -> Hp -> Prop,(∃ m,W 0 m [] (upd H1 l (.lst []))) ∧ ∀ i m acc H,W i m acc H ->
 H l = some (.lst acc) ∧ ((J.stop i H ∧ Q (.ref l) H) ∨ (J.go i H ∧ ∀ x H',J.yld i H x H' -> g x (σ ++ List.replicate own none) H' fun σ2 H2 => σ2.take σ.length = σ ∧ tt σ2 H2 fun b H3 =>
  if b = true then te σ2 H3 fun v H4 => H4 l = some (.lst acc) ∧ acc.length < sizeLine ∧ ∃ m',m' < m ∧ W (i + 1) m' (acc ++ [v]) (upd H4 l (.lst (acc ++ [v])))
  else ∃ m',m' < m ∧ W (i + 1) m' acc H3))
section
variable {X:Cx} {elt tg iter:Expr} {ifs:List Expr} {scope:Scope} {pos pos':Pos} {N' own:List Str} {wi:TI} {g:TG} {tt:TT} {te:TE}
theorem qY {cal:Cx -> Prop} (hc:∀ s H fp pins,cal (blk X N' own scope s H fp pins)) (hi:Ft cal X tg iter wi) (hk:scope.kind = .function) (hS:dZ N' own X.env.scope scope = true) (hM:dX X.N N' scope = true)
  (hg:∀ s H fp pins,PG (blk X N' own scope s H fp pins) tg g) (ht:∀ s H fp pins,tK (blk X N' own scope s H fp pins) ifs tt) (he:∀ s H fp pins,PE (blk X N' own scope s H fp pins) elt te)
  (hs:∀ x,foldedSetIterable iter X.env x = pure x) {use:Option (Value -> Sem Unit)} {Q0:Value -> Shared -> Prop} {pins:List (Addr × Obj)} {s:Shared} {σ:St} {H:Hp} {Q:VK}
  (I:Inv X pins σ H s) (h:qH wi own.length g tt te σ H Q)
  (fin:∀ (l:Addr) (H':Hp) (s':Shared) (C:Addr) (m:Str -> Option Value),Inv X pins σ H' s' -> Q (.ref l) H' -> s'.heap.Ns C m -> H' C = none -> C ≠ X.env.locals -> X.s₀.heap.objs.size ≤ C -> (∀ x c,X.env.cells.lookup x = some c -> c ≠ C) -> (∀ p ∈ X.pn ++ pins,p.1 ≠ C) ->
   compPost (model X.prog X.w) X.A X.xe use Q0 (.ref l) C (.ok .next) s') :
  wpAny (model X.prog X.w) X.A (comprehension (.ListComp elt [⟨tg,iter,ifs,0⟩] scope pos) scope X.env pos' (newList []) false (eval iter X.env) use) Q0 X.xe s:= by
 have S:=lr hS
 have Mk:=lu hM
 refine wpAny_comprehension_free rfl hs (gn fun n hn => I.ok.has n (S.free n hn)) hk S.loc (bj (hi pins s σ H _ I h) fun xv s1 h1 => bj h1 fun itv s2 h2 => ?_)
 obtain ⟨it,fp,tn,J,H2,e,I2,T,st2,f2,q2⟩:=h2
 subst e
 refine wpAny_newObj_type ?_
 have hl2:H2 s2.heap.objs.size = none:=I2.fresh
 have I3:Inv X pins σ (upd H2 s2.heap.objs.size (.lst [])) { s2 with heap:=s2.heap.push { cls:=.type "list",data:=.seq ([]:List Value).toArray } }:=I2.lnew (its:=[]) (t':=s2.toks) .nil (Nat.zero_le _)
 obtain ⟨W,⟨m0,w0⟩,turn⟩:=q2 s2.heap.objs.size hl2
 generalize hl:s2.heap.objs.size = l at *
 have ob2:∀ b ∈ fp,b < l:=fun b hb => by
  obtain ⟨o,e,_⟩:=T.obj _ _ st2 b hb
  rw [<- hl]; exact Heap.lt_size e
 have st3:tn 0 (s2.heap.push { cls:=.type "list",data:=.seq ([]:List Value).toArray }):=T.keep _ _ _ st2 fun b _ o e => Heap.get?_push_of_some _ e
 have sz3:l < (s2.heap.push { cls:=.type "list",data:=.seq ([]:List Value).toArray }).objs.size:=by rw [Heap.size_push,hl]; exact Nat.lt_succ_self _
 have f3:∀ b ∈ fp,fk X pins (upd H2 l (.lst [])) b:=fun b hb => ⟨by rw [av (Nat.ne_of_lt (ob2 b hb))]; exact (f2 b hb).1,(f2 b hb).2⟩
 generalize hs3:({ s2 with heap:=s2.heap.push { cls:=.type "list",data:=.seq ([]:List Value).toArray } }:Shared) = s3 at I3
 have hh3:s3.heap = s2.heap.push { cls:=.type "list",data:=.seq ([]:List Value).toArray }:=by rw [<- hs3]
 rw [<- hh3] at st3 sz3
 have ob3:∀ b ∈ fp,b < s3.heap.objs.size:=fun b hb => Nat.lt_trans (ob2 b hb) sz3
 generalize upd H2 l (.lst []) = H3 at *
 show wpAny _ _ (newFunctionEnv scope X.env.globals (fg X.env.cells scope.names []) [] X.env.qual none .none (some X.env)) _ _ _
 have goal:wpAny (model X.prog X.w) X.A (newFunctionEnv scope X.env.globals (fg X.env.cells scope.names []) [] X.env.qual none .none (some X.env))
   (fun cenv s₄ => codeAny (model X.prog X.w) X.A (.compStart (.ListComp elt [⟨tg,iter,ifs,0⟩] scope pos) 0 (.ref it) (.ref l) { cenv with scope:=relabel scope X.env }) (compPost (model X.prog X.w) X.A X.xe use Q0 (.ref l) cenv.locals) s₄) X.xe s3:= by
  refine i4 ?_
  have IY:=I3.blk f3 ob3 hk S Mk
  have keep:=@Inv.blkKeep s3 scope
  have st4:tn 0 (pushCells (s3.heap.push { cls:=.type "dict",data:=.dict #[] }) scope.names):=T.keep _ _ _ st3 fun b _ o e => keep b o e
  have hcells:=iE I3 S
  have stat:∀ {H':Hp},(∀ b ∈ fp,H' b = none) -> ∀ b ∈ fp,fk (blk X N' own scope s3 H3 fp pins) [] H' b:=fun hn b hb => by
   refine ⟨hn b hb,Nat.ne_of_lt (ob3 b hb),fun z => ?_,.inl hb,fun x c h => ?_,fun p hp => ?_⟩
   ·rcases List.mem_cons.mp (I3.stkSub b z) with z | z
    ·exact (f3 b hb).2.1 z
    ·exact (f3 b hb).2.2.1 z
   ·rcases hcells x c h with ⟨_,_,a3,_⟩ | ⟨a1,_,_⟩
    ·intro z; subst z; exact absurd (ob3 _ hb) (Nat.not_lt.mpr (Nat.le_of_succ_le a3))
    ·exact (f3 b hb).2.2.2.2.1 x c a1
   ·have hp':p ∈ X.pn ++ pins:= by
     rcases List.mem_append.mp hp with z | z
     ·exact z
     ·exact nomatch z
    exact (f3 b hb).2.2.2.2.2 p hp'
  have loop:codeAny (model X.prog X.w) X.A (.compLoop (.ListComp elt [⟨tg,iter,ifs,0⟩] scope pos) 0 (.ref it) (.ref l) (blk X N' own scope s3 H3 fp pins).env)
    (compPost (model X.prog X.w) X.A X.xe use Q0 (.ref l) s3.heap.objs.size) { s3 with heap:=pushCells (s3.heap.push { cls:=.type "dict",data:=.dict #[] }) scope.names }:= by
   refine mU (fun n s' => ∃ i σ' H' acc,Inv (blk X N' own scope s3 H3 fp pins) [] σ' H' s' ∧ σ'.take σ.length = σ ∧ tn i s'.heap ∧ (∀ b ∈ fp,H' b = none) ∧ W i n acc H') ?_ m0
    ⟨0,_,H3,[],IY,by rw [List.take_left'] <;> rfl,st4,fun b hb => (f3 b hb).1,w0⟩
   rintro n s5 ⟨i,σ5,H5,acc,I5,e5,st5,fr5,w5⟩
   obtain ⟨hacc,cs⟩:=turn i n acc H5 w5
   rcases cs with ⟨stop,q⟩ | ⟨go,step⟩
   ·refine wpAny_mono (T.done (blk X N' own scope s3 H3 fp pins) rfl rfl rfl (hc _ _ _ _) i [] s5 σ5 H5 (fun _ _ => False) I5 (stat fr5) st5 stop) (fun r s6 hr => ?_) fun _ _ z => z
    obtain ⟨rfl,I6⟩:=hr
    obtain ⟨m,hn,_⟩:=id I6.loc
    refine fin l H5 s6 _ m (I3.unblk f3 I6) q hn I6.free (Nat.ne_of_gt I3.lt) I3.sz (fun x c e z => ?_) fun p hp z => ?_
    ·obtain ⟨v,qc⟩:=I3.cell x c e
     exact absurd qc.lt (by rw [z]; exact Nat.lt_irrefl _)
    ·exact absurd (Heap.lt_size (I3.pin p hp).1) (by rw [z]; exact Nat.lt_irrefl _)
   ·have lenσ:σ5.length = (σ ++ List.replicate own.length (none:Option V)).length:= by
     rw [I5.len,List.length_append,List.length_replicate,I.len]
     show (N' ++ own).length = _
     rw [List.length_append,Mk.len]
    have I5':Inv (blk X N' own scope s3 H3 fp pins) [] (σ ++ List.replicate own.length none) H5 s5:=I5.weak lenσ.symm fun j v e => by
     have hj:j < σ.length:= by
      by_cases hj:j < σ.length
      ·exact hj
      ·rw [List.getElem?_append_right (by omega),List.getElem?_replicate] at e
       split at e <;> cases e
     rw [List.getElem?_append_left hj] at e
     rw [<- e5,List.getElem?_take_of_lt hj] at e
     exact e
    refine wpAny_mono (T.item (blk X N' own scope s3 H3 fp pins) rfl rfl rfl (hc _ _ _ _) i [] s5 _ H5 (fun _ _ => False) I5' (stat fr5) st5 go) (fun r s6 hr => ?_) fun _ _ z => z
    obtain ⟨u,rfl,h6⟩:=hr
    refine bj h6 fun _ s7 ⟨x,H7,I7,r7,y7,st7,fr7⟩ => ?_
    have I7':=I7.pinned (stat fr7) (T.obj _ _ st7)
    refine bj (hg s3 H3 fp pins _ s7 _ H7 x u _ I7' r7 (step x H7 y7)) fun _ s8 ⟨σ8,H8,I8,e8,q8⟩ => ?_
    refine bj (ht s3 H3 fp pins _ s8 σ8 H8 _ I8 q8) fun b s9 ⟨H9,I9,q9⟩ => ?_
    have again:∀ {Ha:Hp} {sa:Shared} {acc':List V} {m':Nat},Inv (blk X N' own scope s3 H3 fp pins) ([] ++ iP fp s7.heap) σ8 Ha sa -> m' < n -> W (i + 1) m' acc' Ha ->
      ∃ m,m < n ∧ ∃ i σ' H' acc,Inv (blk X N' own scope s3 H3 fp pins) [] σ' H' sa ∧ σ'.take σ.length = σ ∧ tn i sa.heap ∧ (∀ b ∈ fp,H' b = none) ∧ W i m acc H':=fun {Ha sa acc' m'} Ia hm wa => by
     refine ⟨m',hm,i + 1,σ8,Ha,acc',Ia.unpinned,e8,T.keep _ _ _ st7 fun b hb o e => (Ia.pin (b,o) (List.mem_append_right _ (List.mem_append_right _ (cY hb e)))).1,fun b hb => ?_,wa⟩
     obtain ⟨o,e,d⟩:=T.obj _ _ st7 b hb
     exact (Ia.pin (b,o) (List.mem_append_right _ (List.mem_append_right _ (cY hb e)))).2.1
    cases b with
    | false =>
     rw [if_neg Bool.false_ne_true] at q9 ⊢
     obtain ⟨m',hm,wa⟩:=q9
     exact again I9 hm wa
    | true =>
     rw [if_pos rfl] at q9 ⊢
     refine bj (he s3 H3 fp pins _ s9 σ8 H9 _ I9 q9) fun y s10 ⟨v,H10,I10,rv,a10,z10,m',hm,wa⟩ => ?_
     exact bj (lb _ s10 σ8 H10 (.ref l) [v] (.ref l) [y] (fun _ Hb => Hb = upd H10 l (.lst (acc ++ [v]))) I10 rfl (.cons rv .nil) ⟨l,acc,v,rfl,rfl,a10,z10,rfl⟩) fun _ s11 ⟨_,Hb,Ib,_,eb⟩ => by
      subst eb
      exact again Ib hm wa
  exact codeAny_compStart_list loop (T.self _ 0 _ _ _ st4 loop)
 exact goal
theorem xw (hi:PI X tg iter wi) (hg:∀ s H fp pins,PG (blk X N' own scope s H fp pins) tg g) (ht:∀ s H fp pins,tK (blk X N' own scope s H fp pins) ifs tt) (he:∀ s H fp pins,PE (blk X N' own scope s H fp pins) elt te)
  (hS:dZ N' own X.env.scope scope = true:=by rfl) (hM:dX X.N N' scope = true:=by rfl) (hk:scope.kind = .function:=by rfl) (hc:X.calm = true:=by rfl) (hs:∀ x,foldedSetIterable iter X.env x = pure x:=by intro _; rfl) :
  PE X (.ListComp elt [⟨tg,iter,ifs,0⟩] scope pos) (qH wi own.length g tt te):= by
 intro pins s σ H Q I h
 rw [eval_ListComp]
 refine qY (use:=none) (cal:=fun X => X.calm = true) (fun _ _ _ _ => hc) hi.g hk hS hM hg ht he hs I h fun l H' s' C m I' q hn h1 h2 h3 h4 h5 => ?_
 refine ⟨m,hn,fun h' sb => ⟨.ref l,H',?_,rfl,q⟩⟩
 exact I'.turned (t':=s'.toks) (fun b o hb e => (sb.2 b hb).trans e) h1 h2 (.inr h3) h4 h5
theorem zb {i:Nat} {x:Str} {pos'' pos1:Pos} (hN:X.N.Nodup) (hx0:X.N[i]? = some x) (hx:X.env.scope.names.lookup x = some .local)
  (hi:PI X tg iter wi) (hg:∀ s H fp pins,PG (blk X N' own scope s H fp pins) tg g) (ht:∀ s H fp pins,tK (blk X N' own scope s H fp pins) ifs tt) (he:∀ s H fp pins,PE (blk X N' own scope s H fp pins) elt te)
  (hsw:swapsWith (.ListComp elt [⟨tg,iter,ifs,0⟩] scope pos) (some (.Name x pos'')) pos1.line X.env = pure true:=by rfl)
  (hS:dZ N' own X.env.scope scope = true:=by rfl) (hM:dX X.N N' scope = true:=by rfl) (hk:scope.kind = .function:=by rfl) (hc:X.calm = true:=by rfl) (hs:∀ x,foldedSetIterable iter X.env x = pure x:=by intro _; rfl) :
  PS X (.Assign [.Name x pos''] (.ListComp elt [⟨tg,iter,ifs,0⟩] scope pos) pos1) (vW (qH wi own.length g tt te) (nr i)):= by
 intro pins s σ H D I h
 rw [exec_Assign_Name_used _ _ _ _ hsw]
 refine wpAny_bind (wpAny_standAt (wpAny_bind ?_))
 show wpAny _ _ (do let _ <- comprehension (.ListComp elt [⟨tg,iter,ifs,0⟩] scope pos) scope X.env _ (newList []) false (eval iter X.env) (some (assign (.Name x pos'') X.env))) _ _ s
 refine wpAny_bind (wpAny_mono (Q:=fun _ s' => SP X pins D .next s') ?_ (fun _ s' hq => wpAny_pure (wpAny_pure hq)) fun _ _ e => e)
 refine qY (use:=some (assign (.Name x pos'') X.env)) (cal:=fun X => X.calm = true) (fun _ _ _ _ => hc) hi.g hk hS hM hg ht he hs I h fun l H' s' C m I' q hn h1 h2 h3 h4 h5 => ?_
 show wpAny _ _ (assign (.Name x pos'') X.env (.ref l)) _ _ s'
 refine wpAny_assign_Name (lJ I' hN hx0 (.inl hx) (v:=.ref l) (u:=.ref l) rfl (fun s'' I'' hsb => ?_) (.inr hx))
 obtain ⟨a,sb,ha⟩:=hsb
 have hCa:C ≠ a:= by
  rcases ha with z | z
  ·rw [z]; exact h2
  ·exact Ne.symm (h4 _ _ z)
 refine ⟨m,hn.sameBut sb hCa,fun h' sb' => ⟨σ.set i (some (.ref l)),H',?_,q⟩⟩
 exact I''.turned (t':=s''.toks) (fun b o hb e => (sb'.2 b hb).trans e) h1 h2 (.inr h3) h4 h5
end
end L2
namespace Jt
open PySem L2
inductive D where
 | non | bl (b:Bool) | int (i:Int) | str (x:Str) | tup (xs:List D) | lst (xs:List D) | dct | dic (kvs:List (Int × Int)) | dip (kvs:List ((Int × Int) × Int))
def vq (a:Addr):HO:=.ext fun h => a ≠ sysModules ∧ ∃ o n,h.get? a = some o ∧ o.cls = .type "dict" ∧ o.data = .dict #[] n
abbrev gU (kvs:List (Int × Int)):HO:=.dK (kvs.map fun p => (.inl p.1,.int p.2))
abbrev yu (kvs:List ((Int × Int) × Int)):HO:=.dT (kvs.map fun p => ([.inl p.1.1,.inl p.1.2],.int p.2))
mutual
def R (H:Hp):D -> V -> Prop
 | .non,v => v = .non
 | .bl b,v => v = .bl b
 | .int i,v => v = .int i
 | .str x,v => v = .str x
 | .tup ds,v => ∃ a vs,v = .ref a ∧ H a = some (.tup vs) ∧ Rs H ds vs
 | .lst ds,v => ∃ a vs,v = .ref a ∧ Rd H a (.lst vs) ∧ Rs H ds vs
 | .dct,v => ∃ a,v = .ref a ∧ H a = some (vq a)
 | .dic kvs,v => ∃ a,v = .ref a ∧ H a = some (gU kvs)
 | .dip kvs,v => ∃ a,v = .ref a ∧ H a = some (yu kvs)
def Rs (H:Hp):List D -> List V -> Prop
 | [],vs => vs = []
 | d :: ds,vs => ∃ v r,vs = v :: r ∧ R H d v ∧ Rs H ds r
end
theorem Rd.mono {H H':Hp} {a:Addr} {u:HO} (m:∀ b o,H b = some o -> H' b = some o) (h:Rd H a u):Rd H' a u:= by
 rcases h with h | ⟨o,h⟩
 ·exact .inl (m _ _ h)
 ·exact .inr ⟨o,m _ _ h⟩
mutual
theorem R.mono {H H':Hp} (m:∀ b o,H b = some o -> H' b = some o):∀ (d:D) (v:V),R H d v -> R H' d v
 | .non,v,h => by unfold R at *; exact h
 | .bl b,v,h => by unfold R at *; exact h
 | .int i,v,h => by unfold R at *; exact h
 | .str x,v,h => by unfold R at *; exact h
 | .tup ds,v,h => by
  unfold R at *
  obtain ⟨a,vs,e,h1,h2⟩:=h
  exact ⟨a,vs,e,m _ _ h1,Rs.mono m ds vs h2⟩
 | .lst ds,v,h => by
  unfold R at *
  obtain ⟨a,vs,e,h1,h2⟩:=h
  exact ⟨a,vs,e,Rd.mono m h1,Rs.mono m ds vs h2⟩
 | .dct,v,h => by
  unfold R at *
  obtain ⟨a,e,h1⟩:=h
  exact ⟨a,e,m _ _ h1⟩
 | .dic kvs,v,h => by
  unfold R at *
  obtain ⟨a,e,h1⟩:=h
  exact ⟨a,e,m _ _ h1⟩
 | .dip kvs,v,h => by
  unfold R at *
  obtain ⟨a,e,h1⟩:=h
  exact ⟨a,e,m _ _ h1⟩
theorem Rs.mono {H H':Hp} (m:∀ b o,H b = some o -> H' b = some o):∀ (ds:List D) (vs:List V),Rs H ds vs -> Rs H' ds vs
 | [],vs,h => by unfold Rs at *; exact h
 | d :: ds,vs,h => by
  unfold Rs at *
  obtain ⟨v,r,e,h1,h2⟩:=h
  exact ⟨v,r,e,R.mono m d v h1,Rs.mono m ds r h2⟩
end
theorem Rs.nil {H:Hp}:Rs H [] []:=by unfold Rs; rfl
theorem Rs.cons {H:Hp} {d:D} {v:V} {ds:List D} {vs:List V} (h:R H d v) (t:Rs H ds vs):Rs H (d :: ds) (v :: vs):= by
 unfold Rs; exact ⟨v,vs,rfl,h,t⟩
theorem Rs.inv {H:Hp} {d:D} {ds:List D} {vs:List V} (h:Rs H (d :: ds) vs):∃ v r,vs = v :: r ∧ R H d v ∧ Rs H ds r:= by
 unfold Rs at h; exact h
theorem Rs.inv0 {H:Hp} {vs:List V} (h:Rs H [] vs):vs = []:=by unfold Rs at h; exact h
theorem Rs.head {H:Hp} {d:D} {v:V} {ds:List D} {vs:List V} (h:Rs H (d :: ds) (v :: vs)):R H d v:= by
 obtain ⟨v',r,e,h1,h2⟩:=h.inv; cases e; exact h1
theorem Rs.tail {H:Hp} {d:D} {v:V} {ds:List D} {vs:List V} (h:Rs H (d :: ds) (v :: vs)):Rs H ds vs:= by
 obtain ⟨v',r,e,h1,h2⟩:=h.inv; cases e; exact h2
theorem Rs.length {H:Hp}:∀ {ds:List D} {vs:List V},Rs H ds vs -> vs.length = ds.length
 | [],vs,h => by rw [h.inv0]; rfl
 | d :: ds,vs,h => by
  obtain ⟨v,r,e,_,h2⟩:=h.inv
  subst e
  simp [Rs.length h2]
theorem Rs.append {H:Hp}:∀ {ds es:List D} {vs us:List V},Rs H ds vs -> Rs H es us -> Rs H (ds ++ es) (vs ++ us)
 | [],es,vs,us,h,t => by rw [h.inv0]; exact t
 | d :: ds,es,vs,us,h,t => by
  obtain ⟨v,r,e,h1,h2⟩:=h.inv
  subst e
  exact .cons h1 (Rs.append h2 t)
theorem Rs.left {H:Hp}:∀ {ds es:List D} {vs us:List V},vs.length = ds.length -> Rs H (ds ++ es) (vs ++ us) -> Rs H ds vs
 | [],es,[],us,_,h => .nil
 | d :: ds,es,v :: vs,us,l,h => .cons h.head (Rs.left (by simpa using l) h.tail)
 | [],_,_ :: _,_,l,_ => by cases l
 | _ :: _,_,[],_,l,_ => by cases l
theorem Rs.right {H:Hp}:∀ {ds es:List D} {vs us:List V},vs.length = ds.length -> Rs H (ds ++ es) (vs ++ us) -> Rs H es us
 | [],es,[],us,_,h => h
 | d :: ds,es,v :: vs,us,l,h => Rs.right (ds:=ds) (vs:=vs) (by simpa using l) h.tail
 | [],_,_ :: _,_,l,_ => by cases l
 | _ :: _,_,[],_,l,_ => by cases l
theorem Rs.get {H:Hp}:∀ {ds:List D} {vs:List V} {i:Nat} {d:D},Rs H ds vs -> ds[i]? = some d -> ∃ v,vs[i]? = some v ∧ R H d v
 | [],_,_,_,_,e => by simp at e
 | d :: ds,vs,0,d',h,e => by
  obtain ⟨v,r,e',h1,h2⟩:=h.inv
  subst e'
  simp at e; subst e
  exact ⟨v,rfl,h1⟩
 | d :: ds,vs,i + 1,d',h,e => by
  obtain ⟨v,r,e',h1,h2⟩:=h.inv
  subst e'
  obtain ⟨v',e2,h3⟩:=Rs.get (i:=i) h2 (by simpa using e)
  exact ⟨v',by simpa using e2,h3⟩
theorem R.tup {H:Hp} {ds:List D} {v:V} (h:R H (.tup ds) v):∃ a vs,v = .ref a ∧ H a = some (.tup vs) ∧ Rs H ds vs:=by unfold R at h; exact h
theorem R.lst {H:Hp} {ds:List D} {v:V} (h:R H (.lst ds) v):∃ a vs,v = .ref a ∧ Rd H a (.lst vs) ∧ Rs H ds vs:=by unfold R at h; exact h
theorem R.dct {H:Hp} {v:V} (h:R H .dct v):∃ a,v = .ref a ∧ H a = some (vq a):=by unfold R at h; exact h
theorem R.dic {H:Hp} {kvs:List (Int × Int)} {v:V} (h:R H (.dic kvs) v):∃ a,v = .ref a ∧ H a = some (gU kvs):=by unfold R at h; exact h
theorem R.mkDic {H:Hp} {kvs:List (Int × Int)} {a:Addr} (h:H a = some (gU kvs)):R H (.dic kvs) (.ref a):=by unfold R; exact ⟨a,rfl,h⟩
theorem R.dip {H:Hp} {kvs:List ((Int × Int) × Int)} {v:V} (h:R H (.dip kvs) v):∃ a,v = .ref a ∧ H a = some (yu kvs):=by unfold R at h; exact h
theorem R.int {H:Hp} {i:Int} {v:V} (h:R H (.int i) v):v = .int i:=by unfold R at h; exact h
theorem R.bl {H:Hp} {i:Bool} {v:V} (h:R H (.bl i) v):v = .bl i:=by unfold R at h; exact h
theorem R.str {H:Hp} {i:Str} {v:V} (h:R H (.str i) v):v = .str i:=by unfold R at h; exact h
theorem R.non {H:Hp} {v:V} (h:R H .non v):v = .non:=by unfold R at h; exact h
theorem R.mkI {H:Hp} {i:Int}:R H (.int i) (.int i):=by unfold R; rfl
theorem R.mkB {H:Hp} {i:Bool}:R H (.bl i) (.bl i):=by unfold R; rfl
theorem R.mkN {H:Hp}:R H .non .non:=by unfold R; rfl
theorem R.mkT {H:Hp} {a:Addr} {ds:List D} {vs:List V} (h:H a = some (.tup vs)) (t:Rs H ds vs):R H (.tup ds) (.ref a):=by unfold R; exact ⟨a,vs,rfl,h,t⟩
theorem R.mkL {H:Hp} {a:Addr} {ds:List D} {vs:List V} (h:Rd H a (.lst vs)) (t:Rs H ds vs):R H (.lst ds) (.ref a):=by unfold R; exact ⟨a,vs,rfl,h,t⟩
inductive Slot where
 | un | pu (d:D) | ow (b:Bool) (xs:List D)
abbrev DS:=List Slot
structure Ct where
 Z:Hp
 B:List Addr
 H0:Hp
def tI (δ:DS) (σ:St) (a:Addr):Prop:=∃ (i:Nat) (b:Bool) (xs:List D),δ[i]? = some (.ow b xs) ∧ σ[i]? = some (some (.ref a))
open Classical in
def xf (p:Addr -> Prop) (H:Hp):Hp:=fun a => if p a then none else H a
def Hd (c:Ct) (δ:DS) (σ:St) (a:Addr):Prop:=(∃ o,c.Z a = some o) ∨ tI δ σ a
abbrev eJ (c:Ct) (δ:DS) (σ:St) (H:Hp):Hp:=xf (Hd c δ σ) H
theorem dn {p:Addr -> Prop} {H:Hp} {a:Addr} {o:HO}:xf p H a = some o ↔ ¬ p a ∧ H a = some o:= by
 unfold xf
 by_cases h:p a
 ·rw [if_pos h]; exact Iff.intro (fun z => nomatch z) (fun z => absurd h z.1)
 ·rw [if_neg h]; exact Iff.intro (fun z => And.intro h z) (fun z => z.2)
theorem aU {p q:Addr -> Prop} {H H':Hp} (hp:∀ a o,H a = some o -> q a -> p a) (hH:∀ a o,¬ p a -> H a = some o -> H' a = some o):∀ b o,xf p H b = some o -> xf q H' b = some o:=fun b o h => by
 obtain ⟨h1,h2⟩:=dn.mp h
 exact dn.mpr ⟨fun z => h1 (hp b o h2 z),hH b o h1 h2⟩
structure Sl (c:Ct) (δ:DS) (S:List D) (σ:St) (T:List V) (H:Hp):Prop where
 len:δ.length = σ.length
 pu:∀ (i:Nat) d,δ[i]? = some (.pu d) -> ∃ v,σ[i]? = some (some v) ∧ R (eJ c δ σ H) d v
 ow:∀ (i:Nat) b xs,δ[i]? = some (.ow b xs) -> ∃ a vs,σ[i]? = some (some (.ref a)) ∧ H a = some (.lst vs) ∧ Rs (eJ c δ σ H) xs vs ∧ (b = true -> a ∈ c.B) ∧ (b = false -> a ∉ c.B ∧ c.H0 a = none) ∧ c.Z a = none
 ne:∀ (i j:Nat) b b' xs ys a,δ[i]? = some (.ow b xs) -> δ[j]? = some (.ow b' ys) -> σ[i]? = some (some (.ref a)) -> σ[j]? = some (some (.ref a)) -> i = j
 st:Rs (eJ c δ σ H) S T
 keep:∀ b o,b ∉ c.B -> c.H0 b = some o -> H b = some o
 bb:∀ b ∈ c.B,∃ o,H b = some o
 zz:∀ a o,c.Z a = some o -> H a = some o
section
variable {c:Ct} {δ:DS} {S:List D} {σ:St} {T:List V} {H:Hp}
theorem Sl.hdSome (s:Sl c δ S σ T H) {a:Addr} (h:Hd c δ σ a):∃ o,H a = some o:= by
 rcases h with ⟨o,h⟩ | ⟨i,b,xs,h1,h2⟩
 ·exact ⟨o,s.zz _ _ h⟩
 ·obtain ⟨a',vs,e,h3,_⟩:=s.ow i b xs h1
  rw [h2] at e; cases e
  exact ⟨_,h3⟩
theorem Sl.stk (s:Sl c δ S σ T H) {S':List D} {T':List V} (h:Rs (eJ c δ σ H) S' T'):Sl c δ S' σ T' H:=⟨s.len,s.pu,s.ow,s.ne,h,s.keep,s.bb,s.zz⟩
theorem Sl.pop {d:D} {v:V} (s:Sl c δ (d :: S) σ (v :: T) H):Sl c δ S σ T H:=s.stk s.st.tail
theorem Sl.grow (s:Sl c δ S σ T H) {H':Hp} (g:vj H H'):Sl c δ S σ T H':= by
 have m:∀ b o,eJ c δ σ H b = some o -> eJ c δ σ H' b = some o:=aU (fun _ _ _ z => z) fun a o _ h => g a o h
 refine ⟨s.len,fun i d h => ?_,fun i b xs h => ?_,s.ne,s.st.mono m,fun b o h1 h2 => g _ _ (s.keep b o h1 h2),fun b hb => ?_,fun a o hz => g _ _ (s.zz a o hz)⟩
 ·obtain ⟨v,e,r⟩:=s.pu i d h
  exact ⟨v,e,r.mono m⟩
 ·obtain ⟨a,vs,e,h1,h2,h3⟩:=s.ow i b xs h
  exact ⟨a,vs,e,g _ _ h1,h2.mono m,h3⟩
 ·obtain ⟨o,h⟩:=s.bb b hb
  exact ⟨o,g _ _ h⟩
theorem d4 {H:Hp} {p:Addr} (h:H p = none) (o:HO):vj H (upd H p o):=fun b u q => by rw [av (bJ q h)]; exact q
theorem Sl.hdNew (s:Sl c δ S σ T H) {p:Addr} (h:H p = none):¬ Hd c δ σ p:=fun z => by
 obtain ⟨o,e⟩:=s.hdSome z
 rw [h] at e; cases e
theorem Sl.fresh (s:Sl c δ S σ T H) {p:Addr} (h:H p = none):c.Z p = none ∧ p ∉ c.B ∧ c.H0 p = none:= by
 have hB:p ∉ c.B:=fun z => by
  obtain ⟨o,e⟩:=s.bb p z
  rw [h] at e; cases e
 refine ⟨?_,hB,?_⟩
 ·cases e:c.Z p with
  | none => rfl
  | some o => have:=s.zz p o e; rw [h] at this; cases this
 ·cases e:c.H0 p with
  | none => rfl
  | some o => have:=s.keep p o hB e; rw [h] at this; cases this
theorem Sl.newTup {ds:List D} {vs:List V} (s:Sl c δ (ds ++ S) σ (vs ++ T) H) (l:vs.length = ds.length) {p:Addr} (h:H p = none):Sl c δ (.tup ds :: S) σ (.ref p :: T) (upd H p (.tup vs)):= by
 have s':=s.grow (d4 h (.tup vs))
 exact s'.stk (.cons (.mkT (dn.mpr ⟨s.hdNew h,aA⟩) (s'.st.left l)) (s'.st.right l))
theorem Sl.hide (s:Sl c δ S σ T H) {p:Addr} {o:HO} (h:H p = none):Sl { c with Z:=upd c.Z p o } δ S σ T (upd H p o):= by
 have g:=d4 h o
 have m:∀ b u,eJ c δ σ H b = some u -> eJ { c with Z:=upd c.Z p o } δ σ (upd H p o) b = some u:=aU (fun a u e z => by
  rcases z with ⟨w,z⟩ | z
  ·have:a ≠ p:=fun q => by rw [q,h] at e; cases e
   exact .inl ⟨w,(show c.Z a = upd c.Z p o a from (av this).symm).trans z⟩
  ·exact .inr z) fun a u _ e => g a u e
 refine ⟨s.len,fun i d e => ?_,fun i b xs e => ?_,s.ne,s.st.mono m,fun b u h1 h2 => g _ _ (s.keep b u h1 h2),fun b hb => ?_,fun a u hz => ?_⟩
 ·obtain ⟨v,e,r⟩:=s.pu i d e
  exact ⟨v,e,r.mono m⟩
 ·obtain ⟨a,vs,e,h1,h2,h3,h4,h5⟩:=s.ow i b xs e
  refine ⟨a,vs,e,g _ _ h1,h2.mono m,h3,h4,?_⟩
  show upd c.Z p o a = none
  rw [av fun q => by rw [q,h] at h1; cases h1]; exact h5
 ·obtain ⟨u,e⟩:=s.bb b hb
  exact ⟨u,g _ _ e⟩
 ·have hz':upd c.Z p o a = some u:=hz
  by_cases q:a = p
  ·subst q; rw [aA] at hz' ⊢; exact hz'
  ·rw [av q] at hz' ⊢; exact s.zz a u hz'
theorem Sl.noOw {p:Addr} {o:HO} (s:Sl { c with Z:=upd c.Z p o } δ S σ T H):¬ tI δ σ p:=fun ⟨i,b,xs,h1,h2⟩ => by
 obtain ⟨a,vs,e,_,_,_,_,h4⟩:=s.ow i b xs h1
 rw [h2] at e; cases e
 have h4':upd c.Z p o p = none:=h4
 rw [aA] at h4'; cases h4'
theorem Sl.hideSet {p:Addr} {o:HO} (o':HO) (s:Sl { c with Z:=upd c.Z p o } δ S σ T H) (hB:p ∉ c.B) (h0:c.H0 p = none):Sl { c with Z:=upd c.Z p o' } δ S σ T (upd H p o'):= by
 have hpH:H p = some o:=s.zz p o aA
 have npow:=s.noOw
 have m:∀ b u,eJ { c with Z:=upd c.Z p o } δ σ H b = some u -> eJ { c with Z:=upd c.Z p o' } δ σ (upd H p o') b = some u:=aU (fun a u e z => by
  rcases z with ⟨w,z⟩ | z
  ·have z':upd c.Z p o' a = some w:=z
   by_cases q:a = p
   ·subst q; exact .inl ⟨o,aA⟩
   ·rw [av q] at z'; exact .inl ⟨w,by show upd c.Z p o a = some w; rw [av q]; exact z'⟩
  ·exact .inr z) fun a u ha e => by
   have:a ≠ p:=fun z => ha (.inl ⟨o,by rw [z]; exact aA⟩)
   rw [av this]; exact e
 refine ⟨s.len,fun i d e => ?_,fun i b xs e => ?_,s.ne,s.st.mono m,fun b u h1 h2 => ?_,fun b hb => ?_,fun a u hz => ?_⟩
 ·obtain ⟨v,e,r⟩:=s.pu i d e
  exact ⟨v,e,r.mono m⟩
 ·have hx:=e
  obtain ⟨a,vs,e,h1,h2,h3,h4,h5⟩:=s.ow i b xs e
  have hap:a ≠ p:=fun z => npow ⟨i,b,xs,hx,by rw [e,z]⟩
  refine ⟨a,vs,e,by rw [av hap]; exact h1,h2.mono m,h3,h4,?_⟩
  have h5':upd c.Z p o a = none:=h5
  show upd c.Z p o' a = none
  rw [av hap] at h5' ⊢; exact h5'
 ·have:b ≠ p:=fun z => by
   have h2':c.H0 b = some u:=h2
   rw [z,h0] at h2'; cases h2'
  rw [av this]; exact s.keep b u h1 h2
 ·have:b ≠ p:=fun z => hB (z ▸ hb)
  rw [av this]; exact s.bb b hb
 ·have hz':upd c.Z p o' a = some u:=hz
  by_cases q:a = p
  ·subst q; rw [aA] at hz' ⊢; exact hz'
  ·rw [av q] at hz' ⊢; exact s.zz a u (by show upd c.Z p o a = some u; rw [av q]; exact hz')
theorem Sl.unhideL {p:Addr} {xs:List D} {vs:List V} (s:Sl { c with Z:=upd c.Z p (.lst vs) } δ (xs ++ S) σ (vs ++ T) H) (l:vs.length = xs.length) (hp:c.Z p = none):Sl c δ (.lst xs :: S) σ (.ref p :: T) H:= by
 have hpH:H p = some (.lst vs):=s.zz p _ aA
 have npow:=s.noOw
 have zc:∀ a u,c.Z a = some u -> upd c.Z p (.lst vs) a = some u:=fun a u h => by rw [av fun q => by rw [q,hp] at h; cases h]; exact h
 have m:∀ b u,eJ { c with Z:=upd c.Z p (.lst vs) } δ σ H b = some u -> eJ c δ σ H b = some u:=aU (fun a u e z => by
  rcases z with ⟨w,z⟩ | z
  ·exact .inl ⟨w,zc a w z⟩
  ·exact .inr z) fun a u ha e => e
 refine ⟨s.len,fun i d e => ?_,fun i b xs e => ?_,s.ne,.cons (.mkL (.inl (dn.mpr ⟨fun z => ?_,hpH⟩)) ((s.st.left l).mono m)) ((s.st.right l).mono m),s.keep,s.bb,fun a u hz => s.zz a u (zc a u hz)⟩
 ·obtain ⟨v,e,r⟩:=s.pu i d e
  exact ⟨v,e,r.mono m⟩
 ·obtain ⟨a,vs',e,h1,h2,h3,h4,h5⟩:=s.ow i b xs e
  refine ⟨a,vs',e,h1,h2.mono m,h3,h4,?_⟩
  have h5':upd c.Z p (.lst vs) a = none:=h5
  by_cases q:a = p
  ·rw [q]; exact hp
  ·rwa [av q] at h5'
 ·rcases z with ⟨u,z⟩ | z
  ·rw [hp] at z; cases z
  ·exact npow z
theorem Sl.setPu {d:D} {v:V} {i:Nat} (s:Sl c δ (d :: S) σ (v :: T) H) (hi:i < δ.length):Sl c (δ.set i (.pu d)) S (σ.set i (some v)) T H:= by
 have ow':∀ a,tI (δ.set i (.pu d)) (σ.set i (some v)) a -> tI δ σ a:=fun a ⟨j,b,xs,h1,h2⟩ => by
  by_cases e:i = j
  ·subst e; rw [List.getElem?_set_self hi] at h1; cases h1
  ·rw [List.getElem?_set_ne e] at h1 h2; exact ⟨j,b,xs,h1,h2⟩
 have m:∀ b u,eJ c δ σ H b = some u -> eJ c (δ.set i (.pu d)) (σ.set i (some v)) H b = some u:=aU (fun a u e z => z.elim .inl fun z => .inr (ow' a z)) fun a u _ e => e
 refine ⟨by simpa using s.len,fun j d' h => ?_,fun j b xs h => ?_,fun j k b b' xs ys a h1 h2 h3 h4 => ?_,s.st.tail.mono m,s.keep,s.bb,s.zz⟩
 ·by_cases e:i = j
  ·subst e
   rw [List.getElem?_set_self hi] at h; cases h
   exact ⟨v,by rw [List.getElem?_set_self (by rw [<- s.len]; exact hi)],s.st.head.mono m⟩
  ·rw [List.getElem?_set_ne e] at h ⊢
   obtain ⟨v',e',r⟩:=s.pu j d' h
   exact ⟨v',e',r.mono m⟩
 ·by_cases e:i = j
  ·subst e; rw [List.getElem?_set_self hi] at h; cases h
  ·rw [List.getElem?_set_ne e] at h ⊢
   obtain ⟨a,vs,e,h1,h2,h3⟩:=s.ow j b xs h
   exact ⟨a,vs,e,h1,h2.mono m,h3⟩
 ·by_cases e:i = j
  ·subst e; rw [List.getElem?_set_self hi] at h1; cases h1
  ·by_cases e':i = k
   ·subst e'; rw [List.getElem?_set_self hi] at h2; cases h2
   ·rw [List.getElem?_set_ne e] at h1 h3; rw [List.getElem?_set_ne e'] at h2 h4
    exact s.ne j k b b' xs ys a h1 h2 h3 h4
theorem Sl.setOw {p:Addr} {xs:List D} {vs:List V} {i:Nat} (s:Sl { c with Z:=upd c.Z p (.lst vs) } δ (xs ++ S) σ (vs ++ T) H) (l:vs.length = xs.length) (hp:c.Z p = none) (hB:p ∉ c.B) (h0:c.H0 p = none) (hi:i < δ.length) :
  Sl c (δ.set i (.ow false xs)) S (σ.set i (some (.ref p))) T H:= by
 have hpH:H p = some (.lst vs):=s.zz p _ aA
 have npow:∀ (j:Nat) b ys,δ[j]? = some (.ow b ys) -> σ[j]? ≠ some (some (.ref p)):=fun j b ys h1 h2 => s.noOw ⟨j,b,ys,h1,h2⟩
 have zc:∀ a u,c.Z a = some u -> upd c.Z p (.lst vs) a = some u:=fun a u h => by rw [av fun q => by rw [q,hp] at h; cases h]; exact h
 have hiσ:i < σ.length:=by rw [<- s.len]; exact hi
 have m:∀ b u,eJ { c with Z:=upd c.Z p (.lst vs) } δ σ H b = some u -> eJ c (δ.set i (.ow false xs)) (σ.set i (some (.ref p))) H b = some u:=aU (fun a u e z => by
  rcases z with ⟨w,z⟩ | ⟨j,b,ys,h1,h2⟩
  ·exact .inl ⟨w,zc a w z⟩
  ·by_cases e:i = j
   ·subst e
    rw [List.getElem?_set_self hiσ] at h2; cases h2
    exact .inl ⟨_,aA⟩
   ·rw [List.getElem?_set_ne e] at h1 h2; exact .inr ⟨j,b,ys,h1,h2⟩) fun a u _ e => e
 refine ⟨by simpa using s.len,fun j d' h => ?_,fun j b ys h => ?_,fun j k b b' ys zs a h1 h2 h3 h4 => ?_,(s.st.right l).mono m,s.keep,s.bb,fun a u hz => s.zz a u (zc a u hz)⟩
 ·by_cases e:i = j
  ·subst e; rw [List.getElem?_set_self hi] at h; cases h
  ·rw [List.getElem?_set_ne e] at h ⊢
   obtain ⟨v',e',r⟩:=s.pu j d' h
   exact ⟨v',e',r.mono m⟩
 ·by_cases e:i = j
  ·subst e
   rw [List.getElem?_set_self hi] at h; cases h
   exact ⟨p,vs,by rw [List.getElem?_set_self hiσ],hpH,(s.st.left l).mono m,(fun z => absurd z Bool.false_ne_true),(fun _ => ⟨hB,h0⟩),hp⟩
  ·rw [List.getElem?_set_ne e] at h ⊢
   have hx:=h
   obtain ⟨a,ws,e,h1,h2,h3,h4,h5⟩:=s.ow j b ys h
   refine ⟨a,ws,e,h1,h2.mono m,h3,h4,?_⟩
   have h5':upd c.Z p (.lst vs) a = none:=h5
   rwa [av fun q => npow j b ys hx (by rw [e,q])] at h5'
 ·by_cases e:i = j
  ·subst e
   rw [List.getElem?_set_self hiσ] at h3; cases h3
   by_cases e':i = k
   ·exact e'
   ·rw [List.getElem?_set_ne e'] at h2 h4
    exact absurd h4 (npow k b' zs h2)
  ·rw [List.getElem?_set_ne e] at h1 h3
   by_cases e':i = k
   ·subst e'
    rw [List.getElem?_set_self hiσ] at h4; cases h4
    exact absurd h3 (npow j b ys h1)
   ·rw [List.getElem?_set_ne e'] at h2 h4
    exact s.ne j k b b' ys zs a h1 h2 h3 h4
theorem Sl.mut {a:Addr} {b0:Bool} {xs xs':List D} {vs':List V} {i:Nat} (s:Sl c δ S σ T H) (hi:δ[i]? = some (.ow b0 xs)) (ha:σ[i]? = some (some (.ref a))) (hv:Rs (eJ c δ σ H) xs' vs') :
  Sl c (δ.set i (.ow b0 xs')) S σ T (upd H a (.lst vs')):= by
 have hiδ:i < δ.length:=(List.getElem?_eq_some_iff.mp hi).1
 obtain ⟨a',vs,e,hH,_,hB,hB',hZ⟩:=s.ow i b0 xs hi
 rw [ha] at e; cases e
 have owi:∀ b,tI (δ.set i (.ow b0 xs')) σ b -> tI δ σ b:=fun b ⟨j,bb,ys,h1,h2⟩ => by
  by_cases e:i = j
  ·subst e; exact ⟨i,b0,xs,hi,h2⟩
  ·rw [List.getElem?_set_ne e] at h1; exact ⟨j,bb,ys,h1,h2⟩
 have m:∀ b u,eJ c δ σ H b = some u -> eJ c (δ.set i (.ow b0 xs')) σ (upd H a (.lst vs')) b = some u:=aU (fun b u e z => z.elim .inl fun z => .inr (owi b z)) fun b u hb e => by
  have:b ≠ a:=fun z => hb (.inr ⟨i,b0,xs,hi,by rw [z]; exact ha⟩)
  rw [av this]; exact e
 refine ⟨by simpa using s.len,fun j d' h => ?_,fun j b ys h => ?_,fun j k b b' ys zs x h1 h2 h3 h4 => ?_,s.st.mono m,fun b u h1 h2 => ?_,fun b hb => ?_,fun x u hz => ?_⟩
 ·have e:i ≠ j:=fun e => by subst e; rw [List.getElem?_set_self hiδ] at h; cases h
  rw [List.getElem?_set_ne e] at h
  obtain ⟨v',e',r⟩:=s.pu j d' h
  exact ⟨v',e',r.mono m⟩
 ·by_cases e:i = j
  ·subst e
   rw [List.getElem?_set_self hiδ] at h; cases h
   exact ⟨a,vs',ha,aA,hv.mono m,hB,hB',hZ⟩
  ·rw [List.getElem?_set_ne e] at h
   obtain ⟨b1,ws,e',h1,h2,h3⟩:=s.ow j b ys h
   have:b1 ≠ a:=fun z => e (s.ne i j _ _ xs ys a hi h ha (by rw [e',z]))
   exact ⟨b1,ws,e',by rw [av this]; exact h1,h2.mono m,h3⟩
 ·have g:∀ (j:Nat) b ys,(δ.set i (.ow b0 xs'))[j]? = some (.ow b ys) -> ∃ b ys,δ[j]? = some (.ow b ys):=fun j b ys h => by
   by_cases e:i = j
   ·subst e; exact ⟨b0,xs,hi⟩
   ·rw [List.getElem?_set_ne e] at h; exact ⟨b,ys,h⟩
  obtain ⟨c1,ys',h1⟩:=g j b ys h1
  obtain ⟨c2,zs',h2⟩:=g k b' zs h2
  exact s.ne j k c1 c2 ys' zs' x h1 h2 h3 h4
 ·have:b ≠ a:=fun z => by
   subst z
   cases b0 with
   | true => exact h1 (hB rfl)
   | false => rw [(hB' rfl).2] at h2; cases h2
  rw [av this]; exact s.keep b u h1 h2
 ·by_cases e:b = a
  ·subst e; exact ⟨_,aA⟩
  ·rw [av e]; exact s.bb b hb
 ·have:x ≠ a:=fun e => by rw [e,hZ] at hz; cases hz
  rw [av this]; exact s.zz x u hz
theorem Sl.ext (s:Sl c δ S σ T H) (k:Nat):Sl c (δ ++ List.replicate k .un) S (σ ++ List.replicate k none) T H:= by
 have g:∀ (i:Nat) x,(δ ++ List.replicate k Slot.un)[i]? = some x -> x ≠ .un -> δ[i]? = some x:=fun i x h n => by
  by_cases hi:i < δ.length
  ·rwa [List.getElem?_append_left hi] at h
  ·rw [List.getElem?_append_right (by omega),List.getElem?_replicate] at h
   split at h
   ·exact absurd (Option.some.inj h).symm n
   ·cases h
 have gσ:∀ (i:Nat) x,δ[i]? = some x -> (σ ++ List.replicate k none)[i]? = σ[i]?:=fun i x h => by
  rw [List.getElem?_append_left (by rw [<- s.len]; exact (List.getElem?_eq_some_iff.mp h).1)]
 have ow':∀ a,tI (δ ++ List.replicate k .un) (σ ++ List.replicate k none) a -> tI δ σ a:=fun a ⟨j,b,xs,h1,h2⟩ => by
  have h1':=g j _ h1 (by simp)
  rw [gσ j _ h1'] at h2
  exact ⟨j,b,xs,h1',h2⟩
 have m:∀ b u,eJ c δ σ H b = some u -> eJ c (δ ++ List.replicate k .un) (σ ++ List.replicate k none) H b = some u:=aU (fun a u e z => z.elim .inl fun z => .inr (ow' a z)) fun a u _ e => e
 refine ⟨by simp [s.len],fun j d' h => ?_,fun j b xs h => ?_,fun j l b b' xs ys a h1 h2 h3 h4 => ?_,s.st.mono m,s.keep,s.bb,s.zz⟩
 ·have h':=g j _ h (by simp)
  obtain ⟨v,e,r⟩:=s.pu j d' h'
  exact ⟨v,by rw [gσ j _ h']; exact e,r.mono m⟩
 ·have h':=g j _ h (by simp)
  obtain ⟨a,vs,e,h1,h2,h3⟩:=s.ow j b xs h'
  exact ⟨a,vs,by rw [gσ j _ h']; exact e,h1,h2.mono m,h3⟩
 ·have h1':=g j _ h1 (by simp)
  have h2':=g l _ h2 (by simp)
  rw [gσ j _ h1'] at h3; rw [gσ l _ h2'] at h4
  exact s.ne j l b b' xs ys a h1' h2' h3 h4
theorem Sl.cut (s:Sl c δ S σ T H) (n:Nat):Sl c (δ.take n) S (σ.take n) T H:= by
 have g:∀ (i:Nat) x,(δ.take n)[i]? = some x -> i < n ∧ δ[i]? = some x:=fun i x h => by
  have hi:i < n:= by
   have:=(List.getElem?_eq_some_iff.mp h).1
   rw [List.length_take] at this; omega
  exact ⟨hi,by rwa [List.getElem?_take_of_lt hi] at h⟩
 have ow':∀ a,tI (δ.take n) (σ.take n) a -> tI δ σ a:=fun a ⟨j,b,xs,h1,h2⟩ => by
  obtain ⟨hj,h1'⟩:=g j _ h1
  rw [List.getElem?_take_of_lt hj] at h2
  exact ⟨j,b,xs,h1',h2⟩
 have m:∀ b u,eJ c δ σ H b = some u -> eJ c (δ.take n) (σ.take n) H b = some u:=aU (fun a u e z => z.elim .inl fun z => .inr (ow' a z)) fun a u _ e => e
 refine ⟨by simp [s.len],fun j d' h => ?_,fun j b xs h => ?_,fun j l b b' xs ys a h1 h2 h3 h4 => ?_,s.st.mono m,s.keep,s.bb,s.zz⟩
 ·obtain ⟨hj,h'⟩:=g j _ h
  obtain ⟨v,e,r⟩:=s.pu j d' h'
  exact ⟨v,by rw [List.getElem?_take_of_lt hj]; exact e,r.mono m⟩
 ·obtain ⟨hj,h'⟩:=g j _ h
  obtain ⟨a,vs,e,h1,h2,h3⟩:=s.ow j b xs h'
  exact ⟨a,vs,by rw [List.getElem?_take_of_lt hj]; exact e,h1,h2.mono m,h3⟩
 ·obtain ⟨hj,h1'⟩:=g j _ h1
  obtain ⟨hl,h2'⟩:=g l _ h2
  rw [List.getElem?_take_of_lt hj] at h3; rw [List.getElem?_take_of_lt hl] at h4
  exact s.ne j l b b' xs ys a h1' h2' h3 h4
end
end Jt
namespace Jt
open PySem L2
def M (α:Type):=DS -> Option (α × DS)
instance:Monad M where
 pure a:=fun s => some (a,s)
 bind x f:=fun s => match x s with
  | none => none
  | some (a,s') => f a s'
def lift {α:Type} (o:Option α):M α:=fun s => match o with
 | none => none
 | some a => some (a,s)
theorem M.bind_def {α β:Type} (x:M α) (f:α -> M β) (s:DS):(x >>= f) s = (match x s with | none => none | some (a,s') => f a s'):=rfl
theorem M.pure_def {α:Type} (a:α) (s:DS):(pure a:M α) s = some (a,s):=rfl
inductive F9 {α β:Type} (x:M α) (f:α -> M β) (s:DS) (b:β) (s2:DS):Prop
 | mk (a:α) (s1:DS) (e1:x s = some (a,s1)) (e2:f a s1 = some (b,s2)):F9 x f s b s2
theorem bind_some {α β:Type} {x:M α} {f:α -> M β} {s:DS} {b:β} {s2:DS} (h:(x >>= f) s = some (b,s2)):F9 x f s b s2:= by
 rw [M.bind_def] at h
 cases e:x s with
 | none => rw [e] at h; cases h
 | some p => obtain ⟨a,s1⟩:=p; rw [e] at h; exact ⟨a,s1,e,h⟩
theorem ak {α:Type} {a b:α} {s s':DS} (h:(pure a:M α) s = some (b,s')):a = b ∧ s = s':= by
 rw [M.pure_def] at h; cases h; exact ⟨rfl,rfl⟩
theorem aw {α:Type} {o:Option α} {b:α} {s s':DS} (h:lift o s = some (b,s')):o = some b ∧ s = s':= by
 unfold lift at h
 cases o with
 | none => cases h
 | some a => cases h; exact ⟨rfl,rfl⟩
theorem aF {p:Addr -> Prop} {H:Hp}:∀ b o,xf p H b = some o -> H b = some o:=fun b o h => (dn.mp h).2
inductive tM (f:M D) (σ:St) (H:Hp) (Q:VK):Prop
 | mk (c:Ct) (δ:DS) (S:List D) (T:List V) (d:D) (δ':DS) (s:Sl c δ S σ T H) (e:f δ = some (d,δ')) (q:∀ v H',Sl c δ' (d :: S) σ (v :: T) H' -> Q v H'):tM f σ H Q
inductive vp (f:M Bool) (σ:St) (H:Hp) (Q:Bool -> Hp -> Prop):Prop
 | mk (c:Ct) (δ:DS) (S:List D) (T:List V) (b:Bool) (δ':DS) (s:Sl c δ S σ T H) (e:f δ = some (b,δ')) (q:∀ H',Sl c δ' S σ T H' -> Q b H'):vp f σ H Q
inductive EL (f:M (List D)) (σ:St) (H:Hp) (Q:List V -> Hp -> Prop):Prop
 | mk (c:Ct) (δ:DS) (S:List D) (T:List V) (ds:List D) (δ':DS) (s:Sl c δ S σ T H) (e:f δ = some (ds,δ')) (q:∀ vs H',vs.length = ds.length -> Sl c δ' (ds ++ S) σ (vs ++ T) H' -> Q vs H'):EL f σ H Q
inductive CV (f:M (List D)) (σ:St) (H:Hp) (Q:VK):Prop
 | mk (c:Ct) (δ:DS) (S:List D) (T:List V) (xs:List D) (δ':DS) (s:Sl c δ S σ T H) (e:f δ = some (xs,δ')) (q:∀ l vs H',vs.length = xs.length -> Sl { c with Z:=upd c.Z l (.lst vs) } δ' (xs ++ S) σ (vs ++ T) H' -> c.Z l = none -> l ∉ c.B -> c.H0 l = none -> Q (.ref l) H'):CV f σ H Q
abbrev DE (X:Cx) (e:Expr) (f:M D):Prop:=PE X e (tM f)
abbrev DT (X:Cx) (e:Expr) (f:M Bool):Prop:=PT X e (vp f)
abbrev DW (X:Cx) (e:Expr) (f:M Bool):Prop:=PW X e (vp f)
abbrev DA (X:Cx) (es:List Expr) (f:M (List D)):Prop:=PA X es (EL f)
abbrev DF (X:Cx) (e:Expr) (f:M (List D)):Prop:=PE X e (CV f)
theorem b8 {X:Cx} {e:Expr} {t t':TE} (h:PE X e t) (w:∀ σ H Q,t' σ H Q -> t σ H Q):PE X e t':=fun pins s σ H Q I q => h pins s σ H Q I (w σ H Q q)
theorem uh {X:Cx} {e:Expr} {t t':TT} (h:PT X e t) (w:∀ σ H Q,t' σ H Q -> t σ H Q):PT X e t':=fun pins s σ H Q I q => h pins s σ H Q I (w σ H Q q)
theorem Dk {X:Cx} {e:Expr} {t t':TT} (h:PW X e t) (w:∀ σ H Q,t' σ H Q -> t σ H Q):PW X e t':=fun wh pins s σ H Q I q => h wh pins s σ H Q I (w σ H Q q)
theorem Ei {X:Cx} {e:List Expr} {t t':TA} (h:PA X e t) (w:∀ σ H Q,t' σ H Q -> t σ H Q):PA X e t':=fun ps pins s σ H Q I q => h ps pins s σ H Q I (w σ H Q q)
section
variable {X:Cx} {a b e:Expr} {fa fb:M D} {pos:Pos}
def ag (i:Nat):M D:=fun δ => match δ[i]? with
 | some (.pu d) => some (d,δ)
 | _ => none
theorem k8 {i:Nat} {δ δ':DS} {d:D} (h:ag i δ = some (d,δ')):δ[i]? = some (.pu d) ∧ δ = δ':= by
 unfold ag at h
 split at h
 ·rename_i d0 e; cases h; exact ⟨e,rfl⟩
 ·cases h
theorem ab (i:Nat) {x:Str} {pos:Pos} (hN:X.N[i]? = some x:=by rfl) (hv:tJ X.env.scope x:=by first | exact Or.inl rfl | exact Or.inr (Or.inl rfl) | exact Or.inr (Or.inr rfl)) (hd:(x == ("__debug__":Str)) = false:=by decide)
  (hcd:(x == ("__classdict__":Str)) = false:=by decide):DE X (.Name x pos) (ag i):=b8 (eO hN hv hd hcd) fun σ H Q ⟨c,δ,S,T,d,δ',s,e,k⟩ => by
 obtain ⟨e',rfl⟩:=k8 e
 obtain ⟨v,ev,r⟩:=s.pu i d e'
 exact ⟨v,ev,k v H (s.stk (.cons r s.st))⟩
theorem Fo {e:Expr} {v:V} {d:D} (h:PE X e (tC v)) (r:∀ H,R H d v):DE X e (pure d):=b8 h fun σ H Q ⟨c,δ,S,T,d',δ',s,e,k⟩ => by
 obtain ⟨rfl,rfl⟩:=ak e
 exact k v H (s.stk (.cons (r _) s.st))
theorem aj {i:Int} {j pos}:DE X (.Constant (.int i) j pos) (pure (.int i)):=Fo u4 fun _ => .mkI
theorem fG {i:Bool} {j pos}:DE X (.Constant (.bool i) j pos) (pure (.bl i)):=Fo Di fun _ => .mkB
theorem az {f:M (List D)} (h:DF X e f):DE X e (do let xs <- f; pure (.lst xs)):=b8 h fun σ H Q ⟨c,δ,S,T,d,δ',s,e,k⟩ => by
 obtain ⟨xs,δ1,e1,e2⟩:=bind_some e
 obtain ⟨rfl,rfl⟩:=ak e2
 exact ⟨c,δ,S,T,xs,δ1,s,e1,fun l vs H' hl s' hz _ _ => k _ _ (s'.unhideL hl hz)⟩
def oQ (r:R2) (f:D -> D -> Option D):Prop:=∀ (c:Ct) (δ:DS) (S:List D) (σ:St) (T:List V) (H:Hp) (x y:D) (v u:V) (d:D) (Q:VK),Sl c δ (y :: x :: S) σ (u :: v :: T) H -> f x y = some d -> (∀ z H',Sl c δ (d :: S) σ (z :: T) H' -> Q z H') -> r v u H Q
def m2 (f:D -> D -> Option D) (fa fb:M D):M D:=do
 let x <- fa
 let y <- fb
 lift (f x y)
theorem rJ {r:R2} {f:D -> D -> Option D} (hd:oQ r f):∀ σ H Q,tM (m2 f fa fb) σ H Q -> Af r (tM fa) (tM fb) σ H Q:=fun σ H Q ⟨c,δ,S,T,d,δ',s,e,k⟩ => by
 obtain ⟨x,δ1,e1,e⟩:=bind_some e
 obtain ⟨y,δ2,e2,e⟩:=bind_some e
 obtain ⟨e3,rfl⟩:=aw e
 exact ⟨c,δ,S,T,x,δ1,s,e1,fun v H1 s1 => ⟨c,δ1,x :: S,v :: T,y,δ2,s1,e2,fun u H2 s2 => hd _ _ _ _ _ _ _ _ _ _ _ _ s2 e3 k⟩⟩
theorem lg {op:Operator} {r:R2} {f:D -> D -> Option D} (ho:f9 X (binaryOp op) r) (hd:oQ r f) (ha:DE X a fa) (hb:DE X b fb):DE X (.BinOp a op b pos) (m2 f fa fb):=b8 (Au ho ha hb) (rJ hd)
theorem kE {op:CmpOp} {r:R2} {f:D -> D -> Option D} (ho:f9 X (compareOp op) r) (hd:oQ r f) (ha:DE X a fa) (hb:DE X b fb) (hm:behindInMarks op b = false:=by first | exact mn _ | rfl):DE X (.Compare a [op] [b] pos) (m2 f fa fb):=b8 (qJ ho ha hb hm) (rJ hd)
theorem zM {r:R2} {f:D -> D -> Option D} (hr:q0 X r) (hd:oQ r f) (ha:DE X a fa) (hb:DE X b fb) (hs:gQ b:=by exact fun _ _ => rfl):DE X (.Subscript a b pos) (m2 f fa fb):=b8 (Ah hr ha hb hs) (rJ hd)
def bO (C:Int -> Int -> Bool) (g:Int -> Int -> D):D -> D -> Option D
 | .int i,.int j => if C i j = true then some (g i j) else none
 | _,_ => none
theorem dk {C:Int -> Int -> Bool} {g:Int -> Int -> D} {x y d:D} (h:bO C g x y = some d):∃ i j,x = .int i ∧ y = .int j ∧ C i j = true ∧ d = g i j:= by
 unfold bO at h
 split at h
 ·rename_i i j
  split at h
  ·cases h; exact ⟨i,j,rfl,rfl,‹_›,rfl⟩
  ·cases h
 ·cases h
theorem ua {C:Int -> Int -> Prop} {C':Int -> Int -> Bool} {g:Int -> Int -> V} {g':Int -> Int -> D} (hC:∀ i j,C' i j = true -> C i j) (hg:∀ H i j,R H (g' i j) (g i j)):oQ (rI C g) (bO C' g'):=fun c δ S σ T H x y v u d Q s e k => by
 obtain ⟨i,j,rfl,rfl,e1,rfl⟩:=dk e
 have h1:=s.st.head.int
 have h2:=s.st.tail.head.int
 exact ⟨i,j,h2,h1,hC i j e1,k _ _ (s.stk (.cons (hg _ _ _) s.st.tail.tail))⟩
theorem iH {g:Int -> Int -> V} {g':Int -> Int -> D} (hg:∀ H i j,R H (g' i j) (g i j)):oQ (qG g) (bO (fun _ _ => true) g'):=fun c δ S σ T H x y v u d Q s e k => by
 obtain ⟨i,j,rfl,rfl,e1,rfl⟩:=dk e
 have h1:=s.st.head.int
 have h2:=s.st.tail.head.int
 exact ⟨i,j,h2,h1,k _ _ (s.stk (.cons (hg _ _ _) s.st.tail.tail))⟩
def de:=bO (fun _ _ => true) fun i j => .int (i + j)
def kJ:=bO (fun _ _ => true) fun i j => .int (i - j)
def gK:=bO (fun i j => (decide (-(2 ^ 64) < i) && decide (i < 2 ^ 64)) || (decide (-(2 ^ 64) < j) && decide (j < 2 ^ 64))) fun i j => .int (i * j)
def mq:=bO (fun _ j => decide (0 < j)) fun i j => .int (i % j)
def wx:=bO (fun _ j => decide (0 < j) && decide (j < 1073741824)) fun i j => .int (i / j)
def sx:=bO (fun _ _ => true) fun i j => .bl (decide (i < j))
def oV:=bO (fun _ _ => true) fun i j => .bl (decide (i ≤ j))
def l_:=bO (fun _ _ => true) fun i j => .bl (decide (j < i))
theorem cZ (ha:DE X a fa) (hb:DE X b fb):DE X (.BinOp a .Add b pos) (m2 de fa fb):=lg A4 (iH fun _ _ _ => .mkI) ha hb
theorem mB (ha:DE X a fa) (hb:DE X b fb):DE X (.BinOp a .Sub b pos) (m2 kJ fa fb):=lg Bw (iH fun _ _ _ => .mkI) ha hb
theorem i0 (ha:DE X a fa) (hb:DE X b fb):DE X (.BinOp a .Mult b pos) (m2 gK fa fb):=lg Bf (ua (fun i j h => by
 simp only [Bool.or_eq_true,Bool.and_eq_true,decide_eq_true_eq] at h; exact h) fun _ _ _ => .mkI) ha hb
theorem kD (ha:DE X a fa) (hb:DE X b fb):DE X (.BinOp a .Mod b pos) (m2 mq fa fb):=lg AO (ua (fun i j h => of_decide_eq_true h) fun _ _ _ => .mkI) ha hb
theorem vv (ha:DE X a fa) (hb:DE X b fb):DE X (.BinOp a .FloorDiv b pos) (m2 wx fa fb):=lg yv (ua (fun i j h => by
 simp only [Bool.and_eq_true,decide_eq_true_eq] at h; exact h) fun _ _ _ => .mkI) ha hb
theorem C8 (ha:DE X a fa) (hb:DE X b fb):DE X (.Compare a [.Lt] [b] pos) (m2 sx fa fb):=kE vV (iH fun _ _ _ => .mkB) ha hb
theorem DY (ha:DE X a fa) (hb:DE X b fb):DE X (.Compare a [.Gt] [b] pos) (m2 l_ fa fb):=kE Ao (iH fun _ _ _ => .mkB) ha hb
def dj:D -> D -> Option D
 | .tup ds,.int i => jC ds i
 | .lst ds,.int i => jC ds i
 | _,_ => none
theorem pk {H:Hp} {ds:List D} {vs:List V} {i:Int} {d:D} (h:Rs H ds vs) (e:jC ds i = some d):∃ v,jC vs i = some v ∧ R H d v:= by
 unfold jC at *
 rw [h.length]
 cases q:tG ds.length i with
 | none => rw [q] at e; cases e
 | some j =>
  rw [q] at e
  exact h.get e
theorem wK {K:PySem.W.Frag}:oQ (E2 K) dj:=fun c δ S σ T H x y v u d Q s e k => by
 cases x with
 | tup ds =>
  cases y with
  | int i =>
   have e':jC ds i = some d:=e
   obtain ⟨p,vs,rfl,h1,h2⟩:=s.st.tail.head.tup
   obtain ⟨z,e2,r⟩:=pk h2 e'
   exact .inr (.inl ⟨p,vs,i,z,rfl,s.st.head.int,.of (aF _ _ h1),e2,k _ _ (s.stk (.cons r s.st.tail.tail))⟩)
  | _ => cases e
 | lst ds =>
  cases y with
  | int i =>
   have e':jC ds i = some d:=e
   obtain ⟨p,vs,rfl,h1,h2⟩:=s.st.tail.head.lst
   obtain ⟨z,e2,r⟩:=pk h2 e'
   exact .inl ⟨p,vs,i,z,rfl,s.st.head.int,.inl (Rd.mono aF h1),e2,k _ _ (s.stk (.cons r s.st.tail.tail))⟩
  | _ => cases e
 | _ => cases e
theorem aG (ha:DE X a fa) (hb:DE X b fb) (hs:gQ b:=by exact fun _ _ => rfl):DE X (.Subscript a b pos) (m2 dj fa fb):=zM vo wK ha hb hs
def cB:D -> M Bool
 | .bl b => pure b
 | _ => lift none
theorem ij {d:D} {b:Bool} {δ δ':DS} (h:cB d δ = some (b,δ')):d = .bl b ∧ δ = δ':= by
 unfold cB at h
 split at h
 ·obtain ⟨rfl,rfl⟩:=ak h; exact ⟨rfl,rfl⟩
 ·cases h
theorem ft {op:CmpOp} {r:R2} {f:D -> D -> Option D} (ho:f9 X (compareOp op) r) (hd:oQ r f) (ha:DE X a fa) (hb:DE X b fb) (hm:behindInMarks op b = false:=by first | exact mn _ | rfl):DT X (.Compare a [op] [b] pos) (m2 f fa fb >>= cB) :=
 uh (ql ho ha hb hm) fun σ H Q ⟨c,δ,S,T,d,δ',s,e,k⟩ => by
  obtain ⟨x,δ1,e1,e⟩:=bind_some e
  obtain ⟨rfl,rfl⟩:=ij e
  exact rJ hd σ H _ ⟨c,δ,S,T,.bl d,δ1,s,e1,fun v H' s' => ⟨d,s'.st.head.bl,k _ s'.pop⟩⟩
theorem Aw (ha:DE X a fa) (hb:DE X b fb):DT X (.Compare a [.Lt] [b] pos) (m2 sx fa fb >>= cB):=ft vV (iH fun _ _ _ => .mkB) ha hb
theorem jN (ha:DE X a fa) (hb:DE X b fb):DT X (.Compare a [.Gt] [b] pos) (m2 l_ fa fb >>= cB):=ft Ao (iH fun _ _ _ => .mkB) ha hb
def cv:D -> Option Bool
 | .non => some false
 | .bl b => some b
 | .int i => some (i != 0)
 | .str _ => none
 | .tup ds => some (!ds.isEmpty)
 | .lst ds => some (!ds.isEmpty)
 | .dct => none
 | .dic _ => none
 | .dip _ => none
theorem jR {H:Hp} {ds:List D} {vs:List V} (h:Rs H ds vs):(!ds.isEmpty) = !vs.isEmpty:= by
 cases ds with
 | nil => rw [h.inv0]; rfl
 | cons d ds => obtain ⟨v,r,e,_⟩:=h.inv; rw [e]; rfl
theorem qq {K:PySem.W.Frag} {Hh H:Hp} {d:D} {v:V} {b:Bool} (m:∀ b o,Hh b = some o -> H b = some o) (r:R Hh d v) (e:cv d = some b):BC K v H b:= by
 cases d with
 | non => cases r.non; cases e; rfl
 | bl x => cases r.bl; cases e; rfl
 | int i => cases r.int; cases e; rfl
 | str x => cases e
 | dct => cases e
 | dic _ => cases e
 | dip _ => cases e
 | tup ds =>
  obtain ⟨p,vs,rfl,h1,h2⟩:=r.tup
  cases e
  exact .inr (.inl ⟨vs,.of (m _ _ h1),jR h2⟩)
 | lst ds =>
  obtain ⟨p,vs,rfl,h1,h2⟩:=r.lst
  cases e
  exact .inl ⟨vs,.inl (Rd.mono m h1),jR h2⟩
theorem cb (ha:DE X a fa) (he:∀ whole,isTrue a X.env whole = (do let v <- whole; standAt a.pos; holding [v] (truthy v)):=by intro _; rfl):DT X a (do let x <- fa; lift (cv x)) :=
 uh (vg ha he) fun σ H Q ⟨c,δ,S,T,d,δ',s,e,k⟩ => by
  obtain ⟨x,δ1,e1,e⟩:=bind_some e
  obtain ⟨e2,rfl⟩:=aw e
  exact ⟨c,δ,S,T,x,δ1,s,e1,fun v H' s' => ⟨d,qq aF s'.st.head e2,k _ s'.pop⟩⟩
def kK (fa fb:M Bool):M Bool:=do
 let x <- fa
 if x = true then fb else pure false
def pq (fa fb:M Bool):M Bool:=do
 let x <- fa
 if x = true then pure true else fb
def e_ (fa:M Bool):M Bool:=do
 let x <- fa
 pure (!x)
variable {ta tb:M Bool} {rest:List Expr}
theorem jy (ha:DT X a ta):DW X (.BoolOp .And [a] pos) ta:=y4 ha
theorem eW (ha:DT X a ta):DW X (.BoolOp .Or [a] pos) ta:=BX ha
theorem jU (ha:DT X a ta) (hb:DW X (.BoolOp .And (b :: rest) pos) tb):DW X (.BoolOp .And (a :: b :: rest) pos) (kK ta tb):=Dk (Ck ha hb) fun σ H Q ⟨c,δ,S,T,d,δ',s,e,k⟩ => by
 obtain ⟨x,δ1,e1,e⟩:=bind_some e
 refine ⟨c,δ,S,T,x,δ1,s,e1,fun H' s' => ?_⟩
 cases x with
 | true => rw [if_pos rfl] at e ⊢; exact ⟨c,δ1,S,T,d,δ',s',e,k⟩
 | false =>
  rw [if_neg Bool.false_ne_true] at e ⊢
  obtain ⟨rfl,rfl⟩:=ak e
  exact k _ s'
theorem fP (ha:DT X a ta) (hb:DW X (.BoolOp .Or (b :: rest) pos) tb):DW X (.BoolOp .Or (a :: b :: rest) pos) (pq ta tb):=Dk (DN ha hb) fun σ H Q ⟨c,δ,S,T,d,δ',s,e,k⟩ => by
 obtain ⟨x,δ1,e1,e⟩:=bind_some e
 refine ⟨c,δ,S,T,x,δ1,s,e1,fun H' s' => ?_⟩
 cases x with
 | false => rw [if_neg Bool.false_ne_true] at e ⊢; exact ⟨c,δ1,S,T,d,δ',s',e,k⟩
 | true =>
  rw [if_pos rfl] at e ⊢
  obtain ⟨rfl,rfl⟩:=ak e
  exact k _ s'
theorem iQ (h:DW X a ta):DT X a ta:=h.pt
theorem dg (ha:DT X a ta):DT X (.UnaryOp .Not a pos) (e_ ta):=uh (Bo ha) fun σ H Q ⟨c,δ,S,T,d,δ',s,e,k⟩ => by
 obtain ⟨x,δ1,e1,e⟩:=bind_some e
 obtain ⟨rfl,rfl⟩:=ak e
 exact ⟨c,δ,S,T,x,δ1,s,e1,fun H' s' => k _ s'⟩
def kF (fa fb:M D):M D:=do
 let x <- fa
 match x with
 | .bl true => fb
 | .bl false => pure (.bl false)
 | _ => lift none
def yC (fa:M D):M D:=do
 let x <- fa
 match x with
 | .bl b => pure (.bl (!b))
 | _ => lift none
theorem gC {op} (h:DE X a fa):DE X (.BoolOp op [a] pos) fa:=Bh h
theorem fS (ha:DE X a fa) (hb:DE X (.BoolOp .And (b :: rest) pos) fb):DE X (.BoolOp .And (a :: b :: rest) pos) (kF fa fb):=b8 (Bc ha hb) fun σ H Q ⟨c,δ,S,T,d,δ',s,e,k⟩ => by
 obtain ⟨x,δ1,e1,e⟩:=bind_some e
 refine ⟨c,δ,S,T,x,δ1,s,e1,fun v H' s' => ?_⟩
 cases x with
 | bl q =>
  cases q with
  | true => exact ⟨true,s'.st.head.bl,AR ⟨c,δ1,S,T,d,δ',s'.pop,e,k⟩⟩
  | false =>
   obtain ⟨rfl,rfl⟩:=ak e
   exact ⟨false,s'.st.head.bl,Cf (k _ _ (s'.stk (.cons .mkB s'.st.tail)))⟩
 | _ => cases e
theorem Bu (ha:DE X a fa):DE X (.UnaryOp .Not a pos) (yC fa):=b8 (BW ha) fun σ H Q ⟨c,δ,S,T,d,δ',s,e,k⟩ => by
 obtain ⟨x,δ1,e1,e⟩:=bind_some e
 refine ⟨c,δ,S,T,x,δ1,s,e1,fun v H' s' => ?_⟩
 cases x with
 | bl q =>
  obtain ⟨rfl,rfl⟩:=ak e
  exact ⟨q,s'.st.head.bl,k _ _ (s'.stk (.cons .mkB s'.st.tail))⟩
 | _ => cases e
def gh {α:Type} (t:M Bool) (fa fb:M α):M α:=do
 let x <- t
 if x = true then fa else fb
theorem Ee {t:Expr} (ht:DT X t ta) (ha:DE X a fa) (hb:DE X b fb):DE X (.IfExp t a b pos) (gh ta fa fb):=b8 (wq ht ha hb) fun σ H Q ⟨c,δ,S,T,d,δ',s,e,k⟩ => by
 obtain ⟨x,δ1,e1,e⟩:=bind_some e
 refine ⟨c,δ,S,T,x,δ1,s,e1,fun H' s' => ?_⟩
 cases x with
 | true => rw [if_pos rfl] at e ⊢; exact ⟨c,δ1,S,T,d,δ',s',e,k⟩
 | false => rw [if_neg Bool.false_ne_true] at e ⊢; exact ⟨c,δ1,S,T,d,δ',s',e,k⟩
variable {es:List Expr} {fs:M (List D)}
theorem af:DA X [] (pure []):=Ei eZ fun σ H Q ⟨c,δ,S,T,d,δ',s,e,k⟩ => by
 obtain ⟨rfl,rfl⟩:=ak e
 exact k [] H rfl s
def ae (fa:M D) (fs:M (List D)):M (List D):=do
 let x <- fa
 let xs <- fs
 pure (x :: xs)
theorem aa (ha:DE X a fa) (hr:DA X es fs) (hs:starEach (a :: es) X.env = (false,eval a X.env) :: starEach es X.env:=by rfl):DA X (a :: es) (ae fa fs):=Ei (cG ha hr hs) fun σ H Q ⟨c,δ,S,T,d,δ',s,e,k⟩ => by
 obtain ⟨x,δ1,e1,e⟩:=bind_some e
 obtain ⟨xs,δ2,e2,e⟩:=bind_some e
 obtain ⟨rfl,rfl⟩:=ak e
 refine ⟨c,δ,S,T,x,δ1,s,e1,fun v H1 s1 => ⟨c,δ1,x :: S,v :: T,xs,δ2,s1,e2,fun vs H2 l s2 => k (v :: vs) H2 (by simp [l]) (s2.stk ?_)⟩⟩
 have h1:=s2.st.left l
 have h2:=s2.st.right l
 exact .cons h2.head (h1.append h2.tail)
def few (n:Nat):Option Unit:=if n ≤ 100000 then some () else none
theorem fV {n:Nat} {u:Unit} (h:few n = some u):n ≤ sizeLine ∧ n < sizeLine:= by
 unfold few at h
 split at h
 ·have:(100000:Nat) < sizeLine:=by rw [sizeLine_eq]; decide
  omega
 ·cases h
def fH (fs:M (List D)):M D:=do
 let ds <- fs
 let _ <- lift (few ds.length)
 pure (.tup ds)
def gF (fs:M (List D)):M (List D):=do
 let ds <- fs
 let _ <- lift (few ds.length)
 pure ds
theorem cP {x1} (h:DA X es fs):DE X (.Tuple es x1 pos) (fH fs):=b8 (B7 h) fun σ H Q ⟨c,δ,S,T,d,δ',s,e,k⟩ => by
 obtain ⟨ds,δ1,e1,e⟩:=bind_some e
 obtain ⟨_,δ2,e2,e⟩:=bind_some e
 obtain ⟨e3,rfl⟩:=aw e2
 obtain ⟨rfl,rfl⟩:=ak e
 exact ⟨c,δ,S,T,ds,δ1,s,e1,fun vs H1 l s1 => ⟨by rw [l]; exact (fV e3).1,fun p hp => k _ _ (s1.newTup l hp)⟩⟩
theorem dE (h:DA X es fs):DF X (.List es pos) (gF fs):=b8 (BP h) fun σ H Q ⟨c,δ,S,T,d,δ',s,e,k⟩ => by
 obtain ⟨ds,δ1,e1,e⟩:=bind_some e
 obtain ⟨_,δ2,e2,e⟩:=bind_some e
 obtain ⟨e3,rfl⟩:=aw e2
 obtain ⟨rfl,rfl⟩:=ak e
 refine ⟨c,δ,S,T,ds,δ1,s,e1,fun vs H1 l s1 => ⟨by rw [l]; exact (fV e3).1,fun p hp => ?_⟩⟩
 obtain ⟨f1,f2,f3⟩:=s1.fresh hp
 exact k p vs _ l (s1.hide hp) f1 f2 f3
def jS (r:List V -> Hp -> VK -> Prop) (f:List D -> Option D):Prop:=∀ (c:Ct) (δ:DS) (S:List D) (σ:St) (T:List V) (H:Hp) (ds:List D) (vs:List V) (d:D) (Q:VK),vs.length = ds.length -> Sl c δ (ds ++ S) σ (vs ++ T) H -> f ds = some d -> (∀ z H',Sl c δ (d :: S) σ (z :: T) H' -> Q z H') -> r vs H Q
def wd (r:List V -> Hp -> VK -> Prop) (f:List D -> Option (List D)):Prop:=∀ (c:Ct) (δ:DS) (S:List D) (σ:St) (T:List V) (H:Hp) (ds:List D) (vs:List V) (xs:List D) (Q:VK),vs.length = ds.length -> Sl c δ (ds ++ S) σ (vs ++ T) H -> f ds = some xs ->
 (∀ l ws H',ws.length = xs.length -> Sl { c with Z:=upd c.Z l (.lst ws) } δ (xs ++ S) σ (ws ++ T) H' -> c.Z l = none -> l ∉ c.B -> c.H0 l = none -> Q (.ref l) H') -> r vs H Q
def mC {α:Type} (f:List D -> Option α) (fs:M (List D)):M α:=do
 let ds <- fs
 lift (f ds)
variable {x:Str} {p:Pos} {id T:String} {r:List V -> Hp -> VK -> Prop} {f:List D -> Option D} {g:List D -> Option (List D)}
theorem Av (hd:jS r f):∀ σ H Q,tM (mC f fs) σ H Q -> ET r (EL fs) σ H Q:=fun σ H Q ⟨c,δ,S,T,d,δ',s,e,k⟩ => by
 obtain ⟨ds,δ1,e1,e⟩:=bind_some e
 obtain ⟨e2,rfl⟩:=aw e
 exact ⟨c,δ,S,T,ds,δ1,s,e1,fun vs H1 l s1 => hd _ _ _ _ _ _ _ _ _ _ l s1 e2 k⟩
theorem BF (hd:wd r g):∀ σ H Q,CV (mC g fs) σ H Q -> ET r (EL fs) σ H Q:=fun σ H Q ⟨c,δ,S,T,d,δ',s,e,k⟩ => by
 obtain ⟨ds,δ1,e1,e⟩:=bind_some e
 obtain ⟨e2,rfl⟩:=aw e
 exact ⟨c,δ,S,T,ds,δ1,s,e1,fun vs H1 l s1 => hd _ _ _ _ _ _ _ _ _ _ l s1 e2 k⟩
def bG:List D -> Option D
 | [.tup ds] => some (.int ds.length)
 | [.lst ds] => some (.int ds.length)
 | _ => none
theorem tH {H:Hp} {d:D} {vs:List V} (h:Rs H [d] vs):∃ v,vs = [v] ∧ R H d v:= by
 obtain ⟨v,r,e,h1,h2⟩:=h.inv
 rw [h2.inv0] at e
 exact ⟨v,e,h1⟩
theorem EB {H:Hp} {d d':D} {vs:List V} (h:Rs H [d,d'] vs):∃ v u,vs = [v,u] ∧ R H d v ∧ R H d' u:= by
 obtain ⟨v,r,e,h1,h2⟩:=h.inv
 obtain ⟨u,rfl,h3⟩:=tH h2
 exact ⟨v,u,e,h1,h3⟩
theorem Az {K:PySem.W.Frag}:jS (fun xs H Q => ∃ p ys,xs = [.ref p] ∧ (fI K H p ys ∨ gp K H p ys) ∧ Q (.int ys.length) H) bG:=fun c δ S σ T H ds vs d Q l s e k => by
 have h:=s.st.left l
 have h2:=s.st.right l
 unfold bG at e
 split at e
 ·obtain ⟨v,rfl,r⟩:=tH h
  obtain ⟨p,ws,rfl,h1,h3⟩:=r.tup
  cases e
  exact ⟨p,ws,rfl,.inr (.of (aF _ _ h1)),k _ _ (s.stk (.cons (by rw [h3.length]; exact .mkI) h2))⟩
 ·obtain ⟨v,rfl,r⟩:=tH h
  obtain ⟨p,ws,rfl,h1,h3⟩:=r.lst
  cases e
  exact ⟨p,ws,rfl,.inl (.inl (Rd.mono aF h1)),k _ _ (s.stk (.cons (by rw [h3.length]; exact .mkI) h2))⟩
 ·cases e
theorem gP {f:List D -> Option D} (hc:cQ X (.builtin id) r) (hd:jS r f) (hg:Gl X x) (hm:X.mg x = none) (hv:bootBuiltins x = some (.builtin id)) (ha:DA X (a :: es) fs) (hn:x ≠ "__name__":=by decide) (hdb:(x == ("__debug__":Str)) = false:=by decide)
  (he:starEach (a :: es) X.env = (false,eval a X.env) :: starEach es X.env:=by rfl) (hpl:(backTo pos (starEach es X.env)).any (·.1) = false:=by rfl):DE X (.Call (.Name x p) (a :: es) [] pos) (mC f fs) :=
 b8 (eC hc hg hm hv ha hn hdb he hpl) (Av hd)
end
end Jt
namespace Jt
open PySem L2
inductive Fl where
 | nx | bk | ct | rt (d:D) | rf (xs:List D)
def Fin (c:Ct) (δ:DS) (S:List D) (T:List V) (fl:Fl) (E:Ends):Prop :=
 match fl with
 | .nx => ∀ σ H,Sl c δ S σ T H -> E.nx σ H
 | .bk => ∀ σ H,Sl c δ S σ T H -> E.bk σ H
 | .ct => ∀ σ H,Sl c δ S σ T H -> E.ct σ H
 | .rt d => ∀ v σ H,Sl c δ (d :: S) σ (v :: T) H -> E.rt v H
 | .rf xs => ∀ l vs σ H,vs.length = xs.length -> Sl { c with Z:=upd c.Z l (.lst vs) } δ (xs ++ S) σ (vs ++ T) H -> c.Z l = none -> l ∉ c.B -> c.H0 l = none -> E.rt (.ref l) H
inductive Dt (f:M Fl) (E:Ends) (σ:St) (H:Hp):Prop
 | mk (c:Ct) (δ:DS) (S:List D) (T:List V) (fl:Fl) (δ':DS) (s:Sl c δ S σ T H) (e:f δ = some (fl,δ')) (q:Fin c δ' S T fl E):Dt f E σ H
abbrev o3 (X:Cx) (st:Stmt) (f:M Fl):Prop:=PS X st (Dt f)
abbrev oY (X:Cx) (st:List Stmt) (f:M Fl):Prop:=pw X st (Dt f)
theorem jo {X:Cx} {e:Stmt} {t t':TS} (h:PS X e t) (w:∀ E σ H,t' E σ H -> t E σ H):PS X e t':=fun pins s σ H Q I q => h pins s σ H Q I (w Q σ H q)
theorem zP {X:Cx} {e:List Stmt} {t t':TS} (h:pw X e t) (w:∀ E σ H,t' E σ H -> t E σ H):pw X e t':=fun pins s σ H Q I q => h pins s σ H Q I (w Q σ H q)
section
variable {X:Cx} {a b e:Expr} {fa fb:M D} {fF:M (List D)} {pos:Pos} {st:Stmt} {rest:List Stmt} {f g:M Fl} {tt:M Bool}
theorem ba:oY X [] (pure .nx):=zP yj fun E σ H ⟨c,δ,S,T,fl,δ',s,e,k⟩ => by
 obtain ⟨rfl,rfl⟩:=ak e
 exact k σ H s
def aI (f g:M Fl):M Fl:=do
 let fl <- f
 match fl with
 | .nx => g
 | fl => pure fl
theorem ah (h1:o3 X st f) (h2:oY X rest g):oY X (st :: rest) (aI f g):=zP (vK h1 h2) fun E σ H ⟨c,δ,S,T,fl,δ',s,e,k⟩ => by
 obtain ⟨fl1,δ1,e1,e⟩:=bind_some e
 refine ⟨c,δ,S,T,fl1,δ1,s,e1,?_⟩
 cases fl1 with
 | nx => exact fun σ' H' s' => ⟨c,δ1,S,T,fl,δ',s',e,k⟩
 | bk => obtain ⟨rfl,rfl⟩:=ak e; exact k
 | ct => obtain ⟨rfl,rfl⟩:=ak e; exact k
 | rt d => obtain ⟨rfl,rfl⟩:=ak e; exact k
 | rf xs => obtain ⟨rfl,rfl⟩:=ak e; exact k
theorem ao (h1:o3 X st f):oY X [st] f:=yQ h1
theorem aQ (he:DE X e fa):o3 X (.Return (some e) pos) (do let d <- fa; pure (.rt d)):=jo (v_ he) fun E σ H ⟨c,δ,S,T,fl,δ',s,e,k⟩ => by
 obtain ⟨d,δ1,e1,e⟩:=bind_some e
 obtain ⟨rfl,rfl⟩:=ak e
 exact ⟨c,δ,S,T,d,δ1,s,e1,fun v H' s' => k v σ H' s'⟩
theorem mF (he:DF X e fF):o3 X (.Return (some e) pos) (do let d <- fF; pure (.rf d)):=jo (v_ he) fun E σ H ⟨c,δ,S,T,fl,δ',s,e,k⟩ => by
 obtain ⟨d,δ1,e1,e⟩:=bind_some e
 obtain ⟨rfl,rfl⟩:=ak e
 exact ⟨c,δ,S,T,d,δ1,s,e1,fun l vs H' h1 h2 h3 h4 h5 => k l vs σ H' h1 h2 h3 h4 h5⟩
def F_ (i:Nat):M (List D):=fun δ => match δ[i]? with
 | some (.ow false xs) => some (xs,δ.set i .un)
 | _ => none
theorem b9 {t:Expr} {as bs:List Stmt} (ht:DT X t tt) (ha:oY X as f) (hb:oY X bs g):o3 X (.If t as bs pos) (gh tt f g):=jo (Ew ht ha hb) fun E σ H ⟨c,δ,S,T,fl,δ',s,e,k⟩ => by
 obtain ⟨x,δ1,e1,e⟩:=bind_some e
 refine ⟨c,δ,S,T,x,δ1,s,e1,fun H' s' => ?_⟩
 cases x with
 | true => rw [if_pos rfl] at e ⊢; exact ⟨c,δ1,S,T,fl,δ',s',e,k⟩
 | false => rw [if_neg Bool.false_ne_true] at e ⊢; exact ⟨c,δ1,S,T,fl,δ',s',e,k⟩
theorem mH (he:DE X e fa) (hs:swapsWith e none pos.line X.env = pure false:=by rfl):o3 X (.Expr e pos) (do let _ <- fa; pure .nx):=jo (qD he hs) fun E σ H ⟨c,δ,S,T,fl,δ',s,e,k⟩ => by
 obtain ⟨x,δ1,e1,e⟩:=bind_some e
 obtain ⟨rfl,rfl⟩:=ak e
 exact ⟨c,δ,S,T,x,δ1,s,e1,fun v H' s' => k _ _ s'.pop⟩
def a9 (i:Nat) (d:D):M Unit:=fun δ => if i < δ.length then some ((),δ.set i (.pu d)) else none
def va (i:Nat) (xs:List D):M Unit:=fun δ => if i < δ.length then some ((),δ.set i (.ow false xs)) else none
theorem ee {i:Nat} {d:D} {δ δ':DS} {u:Unit} (h:a9 i d δ = some (u,δ')):i < δ.length ∧ δ' = δ.set i (.pu d):= by
 unfold a9 at h; split at h
 ·cases h; exact ⟨‹_›,rfl⟩
 ·cases h
theorem k5 {i:Nat} {d:List D} {δ δ':DS} {u:Unit} (h:va i d δ = some (u,δ')):i < δ.length ∧ δ' = δ.set i (.ow false d):= by
 unfold va at h; split at h
 ·cases h; exact ⟨‹_›,rfl⟩
 ·cases h
def dH (i:Nat) (fa:M D):M Fl:=do
 let d <- fa
 a9 i d
 pure .nx
def Ak (i:Nat) (fF:M (List D)):M Fl:=do
 let d <- fF
 va i d
 pure .nx
theorem DM {te:TE} {i:Nat} (w:∀ σ H Q,tM fa σ H Q -> te σ H Q):∀ E σ H,Dt (dH i fa) E σ H -> vW te (nr i) E σ H:=fun E σ H ⟨c,δ,S,T,fl,δ',s,e,k⟩ => by
 obtain ⟨d,δ1,e1,e⟩:=bind_some e
 obtain ⟨u,δ2,e2,e⟩:=bind_some e
 obtain ⟨rfl,rfl⟩:=ak e
 obtain ⟨hi,rfl⟩:=ee e2
 exact w _ _ _ ⟨c,δ,S,T,d,δ1,s,e1,fun v H' s' => k _ _ (s'.setPu hi)⟩
theorem E9 {te:TE} {i:Nat} (w:∀ σ H Q,CV fF σ H Q -> te σ H Q):∀ E σ H,Dt (Ak i fF) E σ H -> vW te (nr i) E σ H:=fun E σ H ⟨c,δ,S,T,fl,δ',s,e,k⟩ => by
 obtain ⟨d,δ1,e1,e⟩:=bind_some e
 obtain ⟨u,δ2,e2,e⟩:=bind_some e
 obtain ⟨rfl,rfl⟩:=ak e
 obtain ⟨hi,rfl⟩:=k5 e2
 exact w _ _ _ ⟨c,δ,S,T,d,δ1,s,e1,fun l vs H' h1 h2 h3 h4 h5 => k _ _ (h2.setOw h1 h3 h4 h5 hi)⟩
theorem aR (i:Nat) {x:Str} {pos':Pos} (hN:X.N.Nodup) (he:DE X e fa) (hi:X.N[i]? = some x:=by rfl) (hx:Loc X.env.scope x:=by first | exact Or.inl rfl | exact Or.inr rfl) (hs:swapsWith e (some (.Name x pos')) pos.line X.env = pure false:=by rfl)
  (hf:X.fn x = true ∨ X.env.scope.names.lookup x = some .local:=by first | exact .inl rfl | exact .inr rfl | assumption):o3 X (.Assign [.Name x pos'] e pos) (dH i fa):=jo (vN hN hi hx he hs hf) (DM fun _ _ _ h => h)
theorem jD (i:Nat) {x:Str} {pos':Pos} (hN:X.N.Nodup) (he:DF X e fF) (hi:X.N[i]? = some x:=by rfl) (hx:Loc X.env.scope x:=by first | exact Or.inl rfl | exact Or.inr rfl) (hs:swapsWith e (some (.Name x pos')) pos.line X.env = pure false:=by rfl)
  (hf:X.fn x = true ∨ X.env.scope.names.lookup x = some .local:=by first | exact .inl rfl | exact .inr rfl | assumption):o3 X (.Assign [.Name x pos'] e pos) (Ak i fF):=jo (vN hN hi hx he hs hf) (E9 fun _ _ _ h => h)
inductive EH (lo:Nat) (f:D -> M Unit) (v:V) (σ:St) (H:Hp) (Q:St -> Hp -> Prop):Prop
 | mk (c:Ct) (δ:DS) (S:List D) (T:List V) (d:D) (δ':DS) (s:Sl c δ (d :: S) σ (v :: T) H) (e:f d δ = some ((),δ')) (q:∀ σ' H',(∀ n,n ≤ lo -> σ'.take n = σ.take n) -> Sl c δ' S σ' T H' -> Q σ' H'):EH lo f v σ H Q
inductive Ek (lo:Nat) (f:List D -> M Unit) (vs:List V) (σ:St) (H:Hp) (Q:St -> Hp -> Prop):Prop
 | mk (c:Ct) (δ:DS) (S:List D) (T:List V) (ds:List D) (δ':DS) (l:vs.length = ds.length) (s:Sl c δ (ds ++ S) σ (vs ++ T) H) (e:f ds δ = some ((),δ')) (q:∀ σ' H',(∀ n,n ≤ lo -> σ'.take n = σ.take n) -> Sl c δ' S σ' T H' -> Q σ' H'):Ek lo f vs σ H Q
abbrev DG (X:Cx) (lo:Nat) (tg:Expr) (f:D -> M Unit):Prop:=PG X tg (EH lo f)
abbrev DK (X:Cx) (lo:Nat) (tg:List Expr) (f:List D -> M Unit):Prop:=zH X tg (Ek lo f)
theorem AU {X:Cx} {e:Expr} {t t':TG} (h:PG X e t) (w:∀ v σ H Q,t' v σ H Q -> t v σ H Q):PG X e t':=fun pins s σ H v u Q I r q => h pins s σ H v u Q I r (w v σ H Q q)
theorem z9 {X:Cx} {e:List Expr} {t t':xo} (h:zH X e t) (w:∀ v σ H Q,t' v σ H Q -> t v σ H Q):zH X e t':=fun pins s σ H v u Q I r q => h pins s σ H v u Q I r (w v σ H Q q)
theorem aq {lo:Nat} (i:Nat) {x:Str} {pos:Pos} (hN:X.N.Nodup) (hlo:lo ≤ i:=by decide) (hi:X.N[i]? = some x:=by rfl) (hx:Loc X.env.scope x:=by first | exact Or.inl rfl | exact Or.inr rfl)
  (hf:X.fn x = true ∨ X.env.scope.names.lookup x = some .local:=by first | exact .inl rfl | exact .inr rfl | assumption):DG X lo (.Name x pos) (a9 i):=AU (yT hN hi hx hf) fun v σ H Q ⟨c,δ,S,T,d,δ',s,e,k⟩ => by
 obtain ⟨hi,rfl⟩:=ee e
 exact k _ _ (fun n hn => List.take_set_of_le (Nat.le_trans hn hlo)) (s.setPu hi)
def c9:List D -> M Unit
 | [] => pure ()
 | _ => lift none
def bw (f:D -> M Unit) (g:List D -> M Unit):List D -> M Unit
 | d :: ds => do
  f d
  g ds
 | _ => lift none
theorem dN {lo:Nat}:DK X lo [] c9:=z9 xp fun v σ H Q ⟨c,δ,S,T,ds,δ',l,s,e,k⟩ => by
 cases ds with
 | nil =>
  obtain ⟨_,rfl⟩:=ak e
  have:v = []:=List.eq_nil_of_length_eq_zero l
  subst this
  exact ⟨rfl,k σ H (fun _ _ => rfl) s⟩
 | cons d ds => cases e
theorem bB {lo:Nat} {e:Expr} {es:List Expr} {f:D -> M Unit} {g:List D -> M Unit} (h1:DG X lo e f) (h2:DK X lo es g)
  (hs:(assignEach (e :: es) X.env).map (·.2) = assign e X.env :: (assignEach es X.env).map (·.2):=by rfl):DK X lo (e :: es) (bw f g):=z9 (uw h1 h2 hs) fun vs σ H Q ⟨c,δ,S,T,ds,δ',l,s,e,k⟩ => by
 cases ds with
 | nil => cases e
 | cons d ds =>
  cases vs with
  | nil => cases l
  | cons v vs =>
   obtain ⟨u,δ1,e1,e2⟩:=bind_some e
   exact ⟨v,vs,rfl,c,δ,ds ++ S,vs ++ T,d,δ1,s,e1,fun σ1 H1 t1 s1 => ⟨c,δ1,S,T,ds,δ',by simpa using l,s1,e2,fun σ2 H2 t2 s2 => k σ2 H2 (fun n hn => (t2 n hn).trans (t1 n hn)) s2⟩⟩
def dz (n:Nat) (g:List D -> M Unit):D -> M Unit
 | .tup ds => if ds.length = n then g ds else lift none
 | _ => lift none
theorem gz {lo:Nat} {es:List Expr} {k:Nat} {g:List D -> M Unit} {n:Nat} (h:DK X lo es g) (hc:X.calm = true:=by rfl)
  (hn:(assignEach es X.env).length = n:=by rfl) (hst:(assignEach es X.env).findIdx? (·.1) = none:=by rfl):DG X lo (.Tuple es k pos) (dz n g):=AU (Cb hc h hn hst) fun v σ H Q ⟨c,δ,S,T,d,δ',s,e,k⟩ => by
 cases d with
 | tup ds =>
  have e':(if ds.length = n then g ds else lift none) δ = some ((),δ'):=e
  split at e'
  ·rename_i hl
   obtain ⟨p,vs,rfl,h1,h2⟩:=s.st.head.tup
   exact ⟨p,vs,rfl,.of (aF _ _ h1),by rw [h2.length]; exact hl,c,δ,S,T,ds,δ',h2.length,s.stk (h2.append s.st.tail),e',k⟩
  ·cases e'
 | _ => cases e
theorem jV {tg:Expr} {g:D -> M Unit} (he:DE X e fa) (hg:DG X 0 tg g) (hs:swapsWithSole [tg] e pos.line X.env = pure false:=by rfl) (hw:swappedStores [tg] e X.env = pure none:=by rfl)
  (h1:(assignEach [tg] X.env).map (·.2) = [assign tg X.env]:=by rfl):o3 X (.Assign [tg] e pos) (do let d <- fa; g d; pure .nx):=jo (tR he hg hs hw h1) fun E σ H ⟨c,δ,S,T,fl,δ',s,e,k⟩ => by
 obtain ⟨d,δ1,e1,e⟩:=bind_some e
 obtain ⟨u,δ2,e2,e⟩:=bind_some e
 obtain ⟨rfl,rfl⟩:=ak e
 exact ⟨c,δ,S,T,d,δ1,s,e1,fun v H' s' => ⟨c,δ1,S,T,d,δ2,s',e2,fun σ' H2 _ s2 => k _ _ s2⟩⟩
abbrev jn:=List (DS -> Option D) × (DS -> Bool)
def C3 (J:It) (its:jn) (Sx:List D) (Tx:List V):Prop:=∀ (c:Ct) (δ:DS) (S:List D) (σ:St) (T:List V) (H:Hp) (i:Nat),Sl c δ (Sx ++ S) σ (Tx ++ T) H ->
 (∀ act d,its.1[i]? = some act -> act δ = some d -> J.go i H ∧ ∀ x H',J.yld i H x H' -> Sl c δ (d :: (Sx ++ S)) σ (x :: (Tx ++ T)) H') ∧ (i = its.1.length -> its.2 δ = true -> J.stop i H)
inductive Gj (f:M jn) (σ:St) (H:Hp) (R:It -> Hp -> Prop):Prop
 | mk (c:Ct) (δ:DS) (S:List D) (T:List V) (it:jn) (δ':DS) (s:Sl c δ S σ T H) (e:f δ = some (it,δ')) (q:∀ J Sx Tx H',Tx.length = Sx.length -> C3 J it Sx Tx -> Sl c δ' (Sx ++ S) σ (Tx ++ T) H' -> R J H'):Gj f σ H R
abbrev DI (X:Cx) (tg iter:Expr) (f:M jn):Prop:=PI X tg iter (Gj f)
theorem tf {X:Cx} {tg e:Expr} {t t':TI} (h:PI X tg e t) (w:∀ σ H Q,t' σ H Q -> t σ H Q):PI X tg e t':=fun pins s σ H Q I q => h pins s σ H Q I (w σ H Q q)
def aW (ds:List D):jn:=(ds.map fun d _ => some d,fun _ => true)
theorem d_ {ds:List D} {i:Nat} {act:DS -> Option D} {δ:DS} {d:D} (h:(aW ds).1[i]? = some act) (e:act δ = some d):ds[i]? = some d:= by
 unfold aW at h
 rw [List.getElem?_map] at h
 cases q:ds[i]? with
 | none => rw [q] at h; cases h
 | some d' => rw [q] at h; cases h; exact e
theorem xY {K:PySem.W.Frag} {X:Cx} (hK:X.K = K) {a:Addr} {ds:List D}:C3 (Fc K a) (aW ds) [.tup ds] [.ref a]:=fun c δ S σ T H i s => by
 obtain ⟨p,vs,e,h1,h2⟩:=s.st.head.tup
 cases e
 have hq:gp K H a vs:=.of (aF _ _ h1)
 refine ⟨fun act d ha hd => ?_,fun e _ => ⟨vs,hq,by rw [h2.length,e]; simp [aW]⟩⟩
 obtain ⟨v,hv,r⟩:=h2.get (d_ ha hd)
 refine ⟨⟨vs,v,hq,hv⟩,fun x H' y => ?_⟩
 obtain ⟨rfl,y⟩:=y
 have:=y vs hq
 rw [hv] at this; cases this
 exact s.stk (.cons r s.st)
theorem zp {K:PySem.W.Frag} {a:Addr} {ds:List D}:C3 (EI K a) (aW ds) [.lst ds] [.ref a]:=fun c δ S σ T H i s => by
 obtain ⟨p,vs,e,h1,h2⟩:=s.st.head.lst
 cases e
 have hq:fI K H a vs:=.inl (Rd.mono aF h1)
 refine ⟨fun act d ha hd => ?_,fun e _ => ⟨vs,hq,by rw [h2.length,e]; simp [aW]⟩⟩
 obtain ⟨v,hv,r⟩:=h2.get (d_ ha hd)
 refine ⟨⟨vs,v,hq,hv⟩,fun x H' y => ?_⟩
 obtain ⟨rfl,y⟩:=y
 have:=y vs hq
 rw [hv] at this; cases this
 exact s.stk (.cons r s.st)
def aH:D -> Option jn
 | .tup ds => some (aW ds)
 | .lst ds => some (aW ds)
 | _ => none
theorem BB {tg l:Expr} {tl:TE} (hl:PE X l tl):PI X tg l (fun σ H R => tl σ H fun x H1 => ∃ a,x = .ref a ∧ (((∃ xs,fI X.K H1 a xs) ∧ R (EI X.K a) H1) ∨ ((∃ xs,gp X.K H1 a xs) ∧ R (Fc X.K a) H1))):= by
 intro pins s σ H R I h
 refine bj (hl pins s σ H _ I h) fun v s1 ⟨x,H1,I1,r1,q1⟩ => ?_
 obtain ⟨a,e,q⟩:=q1
 subst e
 cases r1
 rcases q with ⟨⟨xs,hq⟩,q⟩ | ⟨⟨xs,hq⟩,q⟩
 ·obtain ⟨its,rv,p,hz⟩:=I1.list hq
  refine wpAny_pyIter_list p.isList ?_
  refine ⟨s1.heap.objs.size,[s1.heap.objs.size],_,_,H1,rfl,I1.kept (t':=s1.toks) fun b o e => Heap.get?_push_of_some _ e,lB a _,⟨_,Heap.get?_push_size _ rfl,rfl,rfl⟩,fun b hb => ?_,q⟩
  have e:b = s1.heap.objs.size:=by simpa using hb
  subst e
  exact I1.fpOk (Nat.le_refl _) (I1.hok.fresh (Nat.le_refl _))
 ·obtain ⟨its,rv,p,hz⟩:=I1.tuple hq
  refine wpAny_pyIter_tuple (show s1.heap.IsTuple a its.toArray from p) ?_
  refine ⟨s1.heap.objs.size,[s1.heap.objs.size],_,_,H1,rfl,I1.kept (t':=s1.toks) fun b o e => Heap.get?_push_of_some _ e,pJ a _,⟨_,Heap.get?_push_size _ rfl,rfl,rfl⟩,fun b hb => ?_,q⟩
  have e:b = s1.heap.objs.size:=by simpa using hb
  subst e
  exact I1.fpOk (Nat.le_refl _) (I1.hok.fresh (Nat.le_refl _))
theorem bU {tg l:Expr} (hl:DE X l fa):DI X tg l (do let x <- fa; lift (aH x)):=tf (BB hl) fun σ H R ⟨c,δ,S,T,it,δ',s,e,k⟩ => by
 obtain ⟨x,δ1,e1,e⟩:=bind_some e
 obtain ⟨e2,rfl⟩:=aw e
 refine ⟨c,δ,S,T,x,δ1,s,e1,fun v H' s' => ?_⟩
 cases x with
 | tup ds =>
  cases e2
  obtain ⟨p,vs,rfl,h1,h2⟩:=s'.st.head.tup
  exact ⟨p,rfl,.inr ⟨⟨vs,.of (aF _ _ h1)⟩,k _ [.tup ds] [.ref p] H' rfl (xY rfl) s'⟩⟩
 | lst ds =>
  cases e2
  obtain ⟨p,vs,rfl,h1,h2⟩:=s'.st.head.lst
  exact ⟨p,rfl,.inl ⟨⟨vs,.inl (Rd.mono aF h1)⟩,k _ [.lst ds] [.ref p] H' rfl zp s'⟩⟩
 | _ => cases e2
def bC (lo:Int) (n:Nat):List D:=(List.range n).map fun (i:Nat) => D.int (lo + (i:Int))
theorem xV {lo:Int} {n:Nat}:C3 (EO lo n) (aW (bC lo n)) [] []:=fun c δ S σ T H i s => by
 refine ⟨fun act d ha hd => ?_,fun e _ => by
  have:(aW (bC lo n)).1.length = n:=by simp [aW,bC]
  show n ≤ i
  omega⟩
 have h:=d_ ha hd
 unfold bC at h
 rw [List.getElem?_map] at h
 have hi:i < n:= by
  by_cases hi:i < n
  ·exact hi
  ·rw [List.getElem?_eq_none (by simp; omega)] at h; cases h
 rw [List.getElem?_range hi] at h
 cases h
 refine ⟨hi,fun x H' y => ?_⟩
 obtain ⟨rfl,rfl⟩:=y
 exact s.stk (.cons .mkI s.st)
def bH (i:Int):Bool:=decide (-(2 ^ 62) ≤ i) && decide (i < 2 ^ 62)
def cz:List D -> Option jn
 | [.int j] => if bH j = true then some (aW (bC 0 j.toNat)) else none
 | _ => none
theorem bu {tg a:Expr} {p:Pos} {fs:M (List D)} (hg:Gl X "range") (hm:X.mg "range" = none) (ha:DA X [a] fs) (hs:starEach [a] X.env = [(false,eval a X.env)]:=by rfl):DI X tg (.Call (.Name "range" p) [a] [] pos) (mC cz fs) :=
 tf (sY hg hm ha hs) fun σ H R ⟨c,δ,S,T,it,δ',s,e,k⟩ => by
  obtain ⟨ds,δ1,e1,e⟩:=bind_some e
  obtain ⟨e2,rfl⟩:=aw e
  refine ⟨c,δ,S,T,ds,δ1,s,e1,fun vs H' l s' => ?_⟩
  unfold cz at e2
  split at e2
  ·split at e2
   ·rename_i j hj
    cases e2
    obtain ⟨v,rfl,r⟩:=tH (s'.st.left l)
    cases r.int
    simp only [bH,Bool.and_eq_true,decide_eq_true_eq] at hj
    exact ⟨j,rfl,hj.1,hj.2,k _ [] [] H' rfl xV (s'.stk (s'.st.right l))⟩
   ·cases e2
  ·cases e2
def b_ (i n:Nat):jn:=((List.range n).map fun (j:Nat) (δ:DS) => match δ[i]? with
 | some (.ow _ xs) => if xs.length = n then xs[j]? else none
 | _ => none,fun δ => match δ[i]? with
 | some (.ow _ xs) => decide (xs.length = n)
 | _ => false)
def bh (i:Nat):M (List D):=fun δ => match δ[i]? with
 | some (.ow _ xs) => some (xs,δ)
 | _ => none
theorem bz {i:Nat} {xs:List D} {δ δ':DS} (h:bh i δ = some (xs,δ')):(∃ b,δ[i]? = some (.ow b xs)) ∧ δ = δ':= by
 unfold bh at h
 split at h
 ·rename_i b ys e; cases h; exact ⟨⟨b,e⟩,rfl⟩
 ·cases h
end
end Jt
namespace Jt
open PySem L2
section
variable {X:Cx} {a b e tg iter elt:Expr} {fa fb te:M D} {fF:M (List D)} {pos:Pos} {st:Stmt} {rest:List Stmt} {f g body:M Fl} {tt:M Bool} {fi:M jn} {gt:D -> M Unit}
theorem Sl.drop {c:Ct} {δ:DS} {A S:List D} {σ:St} {P T:List V} {H:Hp} (s:Sl c δ (A ++ S) σ (P ++ T) H) (l:P.length = A.length):Sl c δ S σ T H:=s.stk (s.st.right l)
theorem Sl.rot {c:Ct} {δ:DS} {A B S:List D} {σ:St} {P Q T:List V} {H:Hp} (s:Sl c δ (A ++ (B ++ S)) σ (P ++ (Q ++ T)) H) (l:P.length = A.length) (l2:Q.length = B.length):Sl c δ (B ++ (A ++ S)) σ (Q ++ (P ++ T)) H :=
 s.stk (((s.st.right l).left l2).append ((s.st.left l).append ((s.st.right l).right l2)))
def forM (gt:D -> M Unit) (body:M Fl) (fin:DS -> Bool):List (DS -> Option D) -> M Fl
 | [] => fun δ => if fin δ = true then some (.nx,δ) else none
 | a :: r => fun δ => match a δ with
  | none => none
  | some d => (do
   gt d
   let fl <- body
   match fl with
   | .nx => forM gt body fin r
   | .ct => forM gt body fin r
   | .bk => pure .nx
   | .rt d => pure (.rt d)
   | .rf d => pure (.rf d)) δ
theorem eP {sts:List Stmt} (hi:DI X tg iter fi) (hg:DG X 0 tg gt) (hb:oY X sts body) (hp:PassesOwn (model X.prog X.w) X.A X.env X.xe:=by exact PassesOwn.never) (hc:X.calm = true:=by rfl)
  (hs:∀ x,foldedSetIterable iter X.env x = pure x:=by intro _; rfl):o3 X (.For tg iter sts [] pos) (do let it <- fi; forM gt body it.2 it.1):=jo (A3 hp hc hi hg hb hs) fun E σ0 H0 ⟨c,δ0,S,T,fl,δ',s0,e,k⟩ => by
 obtain ⟨it,δ1,e1,e⟩:=bind_some e
 refine ⟨c,δ0,S,T,it,δ1,s0,e1,fun J Sx Tx H1 l hJ s1 => ?_⟩
 obtain ⟨items,fin⟩:=it
 refine ⟨fun i m σ H => ∃ δi,m = items.length - i ∧ i ≤ items.length ∧ Sl c δi (Sx ++ S) σ (Tx ++ T) H ∧ forM gt body fin (items.drop i) δi = some (fl,δ'),⟨_,δ1,rfl,Nat.zero_le _,s1,e⟩,?_⟩
 rintro i m σ H ⟨δi,rfl,hi,s,em⟩
 by_cases hlt:i < items.length
 ·rw [List.drop_eq_getElem_cons hlt] at em
  unfold forM at em
  cases ea:items[i] δi with
  | none => rw [ea] at em; cases em
  | some d =>
   rw [ea] at em
   dsimp only at em
   obtain ⟨u,δ2,e2,em⟩:=bind_some em
   obtain ⟨fl1,δ3,e3,em⟩:=bind_some em
   obtain ⟨go,yld⟩:=(hJ c δi S σ T H i s).1 items[i] d (List.getElem?_eq_getElem hlt) ea
   refine .inr ⟨go,fun σ' H' => ∃ δi,Sl c δi (Sx ++ S) σ' (Tx ++ T) H' ∧ forM gt body fin (items.drop (i + 1)) δi = some (fl,δ'),fun σ' H' ⟨δj,sj,ej⟩ => ⟨items.length - (i + 1),by omega,δj,rfl,hlt,sj,ej⟩,fun x H' y => ?_⟩
   refine ⟨c,δi,Sx ++ S,Tx ++ T,d,δ2,yld x H' y,e2,fun σ2 H2 _ s2 => ⟨c,δ2,Sx ++ S,Tx ++ T,fl1,δ3,s2,e3,?_⟩⟩
   cases fl1 with
   | nx => exact fun σ' H' s' => ⟨δ3,s',em⟩
   | ct => exact fun σ' H' s' => ⟨δ3,s',em⟩
   | bk =>
    obtain ⟨rfl,rfl⟩:=ak em
    exact fun σ' H' s' => k _ _ (s'.drop l)
   | rt d' =>
    obtain ⟨rfl,rfl⟩:=ak em
    exact fun v σ' H' s' => k v σ' H' (s'.stk (.cons s'.st.head (s'.st.tail.right l)))
   | rf xs =>
    obtain ⟨rfl,rfl⟩:=ak em
    exact fun q vs σ' H' h1 h2 h3 h4 h5 => k q vs σ' H' h1 (h2.stk ((h2.st.left h1).append ((h2.st.right h1).right l))) h3 h4 h5
 ·have ei:i = items.length:=by omega
  subst ei
  rw [List.drop_length] at em
  unfold forM at em
  by_cases hf:fin δi = true
  ·rw [if_pos hf] at em
   cases em
   exact .inl ⟨(hJ c _ S σ T H _ s).2 rfl hf,k _ _ (s.drop l)⟩
  ·rw [if_neg hf] at em; cases em
def GB (J:It) (its:jn) (Sx:List D) (Tx:List V) (σ:St):Prop:=∀ (c:Ct) (δ:DS) (S:List D) (T:List V) (H:Hp) (i:Nat),Sl c δ (Sx ++ S) σ (Tx ++ T) H ->
 (∀ act d,its.1[i]? = some act -> act δ = some d -> J.go i H ∧ ∀ x H',J.yld i H x H' -> Sl c δ (d :: (Sx ++ S)) σ (x :: (Tx ++ T)) H') ∧ (i = its.1.length -> its.2 δ = true -> J.stop i H)
inductive EC (f:M jn) (σ:St) (H:Hp) (R:It -> Hp -> Prop):Prop
 | mk (c:Ct) (δ:DS) (S:List D) (T:List V) (it:jn) (δ':DS) (s:Sl c δ S σ T H) (e:f δ = some (it,δ')) (q:∀ J Sx Tx H',Tx.length = Sx.length -> GB J it Sx Tx σ -> Sl c δ' (Sx ++ S) σ (Tx ++ T) H' -> R J H'):EC f σ H R
abbrev DC (X:Cx) (tg iter:Expr) (f:M jn):Prop:=PI X tg iter (EC f)
theorem bR (h:DI X tg iter fi):DC X tg iter fi:=tf h fun σ H R ⟨c,δ,S,T,it,δ',s,e,k⟩ => ⟨c,δ,S,T,it,δ',s,e,fun J Sx Tx H' l hJ s' => k J Sx Tx H' l (fun c δ S T H i => hJ c δ S σ T H i) s'⟩
theorem Cp (i:Nat) {x:Str} {pos:Pos} (hN:X.N[i]? = some x:=by rfl) (hv:tJ X.env.scope x:=by first | exact Or.inl rfl | exact Or.inr (Or.inl rfl) | exact Or.inr (Or.inr rfl)) (hd:(x == ("__debug__":Str)) = false:=by decide)
  (hcd:(x == ("__classdict__":Str)) = false:=by decide):DC X tg (.Name x pos) (do let xs <- bh i; pure (b_ i xs.length)):=tf (yH (eO hN hv hd hcd)) fun σ H R ⟨c,δ,S,T,it,δ',s,e,k⟩ => by
 obtain ⟨xs,δ1,e1,e⟩:=bind_some e
 obtain ⟨rfl,rfl⟩:=ak e
 obtain ⟨⟨b,hi⟩,rfl⟩:=bz e1
 obtain ⟨a,vs,ea,hH,hv,_⟩:=s.ow i b xs hi
 refine ⟨_,ea,a,rfl,⟨vs,.of hH⟩,k _ [] [] H rfl ?_ s⟩
 intro c δ S T H j s
 refine ⟨fun act d ha hd => ?_,fun ej hf => ?_⟩
 ·unfold b_ at ha
  rw [List.getElem?_map] at ha
  have hj:j < xs.length:= by
   by_cases hj:j < xs.length
   ·exact hj
   ·rw [List.getElem?_eq_none (by simp; omega)] at ha; cases ha
  rw [List.getElem?_range hj] at ha
  cases ha
  dsimp only at hd
  split at hd
  ·rename_i b' ys hy
   split at hd
   ·obtain ⟨a',ws,ea',hH',hv',_⟩:=s.ow i b' ys hy
    rw [ea] at ea'; cases ea'
    obtain ⟨v,hv2,r⟩:=hv'.get hd
    refine ⟨⟨ws,v,.of hH',hv2⟩,fun x H' y => ?_⟩
    obtain ⟨rfl,y⟩:=y
    have:=y ws (.of hH')
    rw [hv2] at this; cases this
    exact s.stk (.cons r s.st)
   ·cases hd
  ·cases hd
 ·unfold b_ at hf ej
  dsimp only at hf
  split at hf
  ·rename_i b' ys hy
   obtain ⟨a',ws,ea',hH',hv',_⟩:=s.ow i b' ys hy
   rw [ea] at ea'; cases ea'
   have hl:ys.length = xs.length:=of_decide_eq_true hf
   refine ⟨ws,.of hH',?_⟩
   rw [hv'.length,ej]
   simp
   omega
  ·cases hf
def bc (gt:D -> M Unit) (tt:M Bool) (te:M D) (d:D):M (Option D):=do
 gt d
 let b <- tt
 if b = true then do
  let x <- te
  pure (some x)
 else pure none
def cU (own:Nat) (turn:D -> M (Option D)) (fin:DS -> Bool):List (DS -> Option D) -> M (List D)
 | [] => fun δ => if fin δ = true then some ([],δ) else none
 | a :: r => fun δ => match a δ with
  | none => none
  | some d => match turn d (δ ++ List.replicate own .un) with
   | none => none
   | some (o,δ2) => match cU own turn fin r (δ2.take δ.length) with
    | none => none
    | some (xs,δ3) => some (o.toList ++ xs,δ3)
def h9 (n:Nat):M Unit:=fun δ => if δ.length = n then some ((),δ) else none
def aZ (lo own:Nat) (fi:M jn) (turn:D -> M (Option D)):M (List D):=do
 h9 lo
 let it <- fi
 let _ <- lift (few it.1.length)
 cU own turn it.2 it.1
theorem og {lo own:Nat}:∀ σ H Q,CV (aZ lo own fi (bc gt tt te)) σ H Q -> qH (EC fi) own (EH lo gt) (vp tt) (tM te) σ H Q:=fun σ H Q ⟨c,δ0,S,T,xs,δ',s0,e,k⟩ => by
 obtain ⟨u,δ1,e0,e⟩:=bind_some e
 have hlo:σ.length = lo ∧ δ0 = δ1:= by
  unfold h9 at e0
  split at e0
  ·cases e0; exact ⟨by rw [<- s0.len]; assumption,rfl⟩
  ·cases e0
 obtain ⟨hlo,rfl⟩:=hlo
 obtain ⟨it,δ2,e1,e⟩:=bind_some e
 obtain ⟨u',δ3,e2,e⟩:=bind_some e
 obtain ⟨e3,rfl⟩:=aw e2
 have hfew:=(fV e3).2
 refine ⟨c,δ0,S,T,it,δ2,s0,e1,fun J Sx Tx H1 l hJ s1 q hq => ?_⟩
 obtain ⟨items,fin⟩:=it
 dsimp only at e hfew
 obtain ⟨f1,f2,f3⟩:=s1.fresh hq
 refine ⟨fun i m acc H => ∃ δi accD xsR,m = items.length - i ∧ i ≤ items.length ∧ acc.length = accD.length ∧ acc.length ≤ i ∧ Sl { c with Z:=upd c.Z q (.lst acc) } δi (accD ++ (Sx ++ S)) σ (acc ++ (Tx ++ T)) H ∧
  cU own (bc gt tt te) fin (items.drop i) δi = some (xsR,δ') ∧ accD ++ xsR = xs,⟨_,δ2,[],xs,rfl,Nat.zero_le _,rfl,Nat.le_refl _,s1.hide hq,e,rfl⟩,?_⟩
 rintro i m acc H ⟨δi,accD,xsR,rfl,hi,la,li,s,em,ex⟩
 have hacc:H q = some (.lst acc):=s.zz q _ aA
 refine ⟨hacc,?_⟩
 have sr:=s.rot la l
 by_cases hlt:i < items.length
 ·rw [List.drop_eq_getElem_cons hlt] at em
  unfold cU at em
  cases ea:items[i] δi with
  | none => rw [ea] at em; cases em
  | some d =>
   rw [ea] at em
   dsimp only at em
   cases et:bc gt tt te d (δi ++ List.replicate own .un) with
   | none => rw [et] at em; cases em
   | some p =>
    obtain ⟨o,δt⟩:=p
    rw [et] at em
    dsimp only at em
    cases ec:cU own (bc gt tt te) fin (items.drop (i + 1)) (δt.take δi.length) with
    | none => rw [ec] at em; cases em
    | some p =>
     obtain ⟨xs3,δ3⟩:=p
     rw [ec] at em
     cases em
     obtain ⟨u1,δa,ea1,et⟩:=bind_some et
     obtain ⟨b,δb,eb1,et⟩:=bind_some et
     obtain ⟨go,yld⟩:=(hJ { c with Z:=upd c.Z q (.lst acc) } δi (accD ++ S) (acc ++ T) H i sr).1 items[i] d (List.getElem?_eq_getElem hlt) ea
     refine .inr ⟨go,fun x H' y => ?_⟩
     refine ⟨{ c with Z:=upd c.Z q (.lst acc) },δi ++ List.replicate own .un,Sx ++ (accD ++ S),Tx ++ (acc ++ T),d,δa,(yld x H' y).ext own,ea1,fun σ2 H2 hn s2 => ?_⟩
     have ht:σ2.take σ.length = σ:= by
      rw [hn _ (Nat.le_of_eq hlo)]
      exact List.take_left' rfl
     refine ⟨ht,{ c with Z:=upd c.Z q (.lst acc) },δa,Sx ++ (accD ++ S),Tx ++ (acc ++ T),b,δb,s2,eb1,fun H3 s3 => ?_⟩
     have cutL:δi.length = σ.length:=s.len
     cases b with
     | true =>
      rw [if_pos rfl] at et
      refine AR ?_
      obtain ⟨y1,δy,ey,et⟩:=bind_some et
      obtain ⟨rfl,rfl⟩:=ak et
      refine ⟨{ c with Z:=upd c.Z q (.lst acc) },δb,Sx ++ (accD ++ S),Tx ++ (acc ++ T),y1,δy,s3,ey,fun v H4 s4 => ?_⟩
      refine ⟨s4.zz q _ aA,by omega,items.length - (i + 1),by omega,δy.take δi.length,accD ++ [y1],xs3,rfl,hlt,by simp [la],by simp; omega,?_,ec,by rw [<- ex]; simp⟩
      have s5:=s4.cut σ.length
      rw [ht,<- cutL] at s5
      have s6:=Sl.hideSet (.lst (acc ++ [v])) s5 f2 f3
      refine s6.stk ?_
      have h1:=s6.st.head
      have h2:=s6.st.tail.left l
      have h3:=s6.st.tail.right l
      have h4:=h3.left la
      have h5:=h3.right la
      exact (h4.append (.cons h1 .nil)).append (h2.append h5)
     | false =>
      rw [if_neg Bool.false_ne_true] at et
      refine Cf ?_
      obtain ⟨rfl,rfl⟩:=ak et
      refine ⟨items.length - (i + 1),by omega,δb.take δi.length,accD,xs3,rfl,hlt,la,by omega,?_,ec,ex⟩
      have s5:=s3.cut σ.length
      rw [ht,<- cutL] at s5
      exact s5.rot l la
 ·have ei:i = items.length:=by omega
  subst ei
  rw [List.drop_length] at em
  unfold cU at em
  by_cases hf:fin δi = true
  ·rw [if_pos hf] at em
   cases em
   rw [List.append_nil] at ex
   subst ex
   refine .inl ⟨(hJ { c with Z:=upd c.Z q (.lst acc) } _ (accD ++ S) (acc ++ T) H _ sr).2 rfl hf,k q acc H la ?_ f1 f2 f3⟩
   exact s.stk ((s.st.left la).append ((s.st.right la).right l))
  ·rw [if_neg hf] at em; cases em
theorem bK:tK X [] (vp (pure true)):=fun pins s σ H Q I ⟨c,δ,S,T,b,δ',sl,e,k⟩ => by
 obtain ⟨rfl,rfl⟩:=ak e
 exact xA pins s σ H Q I (k H sl)
theorem cx {t:Expr} (h:DT X t tt):tK X [t] (vp tt):=yV h
variable {N' own:List Str} {scope:Scope} {ifs:List Expr} {lo:Nat}
theorem a0 (hi:DC X tg iter fi) (hg:∀ s H fp pins,DG (blk X N' own scope s H fp pins) lo tg gt) (ht:∀ s H fp pins,tK (blk X N' own scope s H fp pins) ifs (vp tt)) (he:∀ s H fp pins,DE (blk X N' own scope s H fp pins) elt te)
  (hS:dZ N' own X.env.scope scope = true:=by rfl) (hM:dX X.N N' scope = true:=by rfl) (hk:scope.kind = .function:=by rfl) (hc:X.calm = true:=by rfl) (hs:∀ x,foldedSetIterable iter X.env x = pure x:=by intro _; rfl) :
  DF X (.ListComp elt [⟨tg,iter,ifs,0⟩] scope pos) (aZ lo own.length fi (bc gt tt te)):=b8 (xw hi hg ht he hS hM hk hc hs) og
theorem Gq {te:TE} {f:M (List D)} (w:∀ σ H Q,CV f σ H Q -> te σ H Q):∀ σ H Q,tM (do let xs <- f; pure (.lst xs)) σ H Q -> te σ H Q:=fun σ H Q ⟨c,δ,S,T,d,δ',s,e,k⟩ => by
 obtain ⟨xs,δ1,e1,e2⟩:=bind_some e
 obtain ⟨rfl,rfl⟩:=ak e2
 exact w _ _ _ ⟨c,δ,S,T,xs,δ1,s,e1,fun l vs H' hl s' hz _ _ => k _ _ (s'.unhideL hl hz)⟩
theorem fU (i:Nat) {x:Str} {pos'' pos1:Pos} (hN:X.N.Nodup) (hi:DC X tg iter fi) (hg:∀ s H fp pins,DG (blk X N' own scope s H fp pins) lo tg gt) (ht:∀ s H fp pins,tK (blk X N' own scope s H fp pins) ifs (vp tt)) (he:∀ s H fp pins,DE (blk X N' own scope s H fp pins) elt te)
  (hx0:X.N[i]? = some x:=by rfl) (hx:X.env.scope.names.lookup x = some .local:=by rfl)
  (hsw:swapsWith (.ListComp elt [⟨tg,iter,ifs,0⟩] scope pos) (some (.Name x pos'')) pos1.line X.env = pure true:=by rfl)
  (hS:dZ N' own X.env.scope scope = true:=by rfl) (hM:dX X.N N' scope = true:=by rfl) (hk:scope.kind = .function:=by rfl) (hc:X.calm = true:=by rfl) (hs:∀ x,foldedSetIterable iter X.env x = pure x:=by intro _; rfl) :
  o3 X (.Assign [.Name x pos''] (.ListComp elt [⟨tg,iter,ifs,0⟩] scope pos) pos1) (dH i (do let xs <- aZ lo own.length fi (bc gt tt te); pure (.lst xs))) :=
 jo (zb hN hx0 hx hi hg ht he hsw hS hM hk hc hs) (DM (Gq og))
end
end Jt
namespace Jt
open PySem L2
def hz (Z H:Hp):Hp:=xf (fun a => ∃ o,Z a = some o) H
def jl (n:Nat) (mf:List D -> Option D):Sp:=fun vs H Q _ => vs.length = n ∧ ∃ (Z:Hp) (ds:List D) (d:D),(∀ a o,Z a = some o -> H a = some o) ∧ Rs (hz Z H) ds vs ∧ mf ds = some d ∧ ∀ v H',vj H H' -> R (hz Z H') d v -> Q v H'
def CY (n:Nat) (mf:List D -> Option (List D)):Sp:=fun vs H Q _ => vs.length = n ∧ ∃ (Z:Hp) (ds:List D) (xs:List D),(∀ a o,Z a = some o -> H a = some o) ∧ Rs (hz Z H) ds vs ∧ mf ds = some xs ∧
 ∀ l ws H',vj H H' -> H l = none -> H' l = some (.lst ws) -> Rs (hz (upd Z l (.lst ws)) H') xs ws -> Q (.ref l) H'
def Ar (n:Nat) (mf:List D -> List D -> Option (D × List D)):Sp:=fun vs H Q _ => vs.length = n ∧ ∃ (Z:Hp) (a:Addr) (ws:List V) (xs:List D) (us:List V) (ds:List D) (d:D) (xs':List D),vs = .ref a :: us ∧ (∀ b o,Z b = some o -> H b = some o) ∧ Z a = none ∧ H a = some (.lst ws) ∧
 Rs (hz (upd Z a (.lst ws)) H) xs ws ∧ Rs (hz (upd Z a (.lst ws)) H) ds us ∧ mf xs ds = some (d,xs') ∧
 ∀ v ws' H',(∀ b o,b ≠ a -> H b = some o -> H' b = some o) -> H' a = some (.lst ws') -> Rs (hz (upd Z a (.lst ws')) H') xs' ws' -> R (hz (upd Z a (.lst ws')) H') d v -> Q v H'
section
variable {c:Ct} {δ:DS} {S:List D} {σ:St} {T:List V} {H:Hp}
open Classical in
def yN (c:Ct) (δ:DS) (σ:St) (H:Hp):Hp:=fun a => if Hd c δ σ a then H a else none
theorem fX (s:Sl c δ S σ T H) (a:Addr):(∃ o,yN c δ σ H a = some o) ↔ Hd c δ σ a:= by
 unfold yN
 by_cases h:Hd c δ σ a
 ·rw [if_pos h]; exact Iff.intro (fun _ => h) fun _ => s.hdSome h
 ·rw [if_neg h]; exact Iff.intro (fun ⟨o,z⟩ => nomatch z) fun z => absurd z h
theorem pZ (a:Addr) (o:HO) (h:yN c δ σ H a = some o):H a = some o:= by
 unfold yN at h
 split at h
 ·exact h
 ·cases h
end
section
variable {X:Cx} {a b e:Expr} {fa fb:M D} {fs:M (List D)} {pos p:Pos} {es:List Expr} {x:Str} {k:Nat} {f:Addr} {fd:FuncData} {ps:List Str}
theorem zj {mf:List D -> Option D} {n:Nat} (F:c8 X.prog X.w X.K X.mg X.base cT k f fd ps (jl n mf)) (hr:b6 k X.A) (hm:X.mg x = some (.ref f)) (hk:PySem.W.keepIn X.K (.ref f) = true) (hb:Binds X.K fd ps []) (ha:DA X (a :: es) fs)
  (hg:Gl X x:=by rfl) (hdb:(x == ("__debug__":Str)) = false:=by decide) (he:starEach (a :: es) X.env = (false,eval a X.env) :: starEach es X.env:=by rfl) (hpl:(backTo pos (starEach es X.env)).any (·.1) = false:=by rfl) :
  DE X (.Call (.Name x p) (a :: es) [] pos) (mC (fun ds => if ds.length = n then mf ds else none) fs):=b8 (mi F hr hg hm hk hb .nil u3 ha hdb he hpl) fun σ H Q ⟨c,δ,S,T,d,δ',s,e,k⟩ => by
 obtain ⟨ds,δ1,e1,e⟩:=bind_some e
 obtain ⟨e2,rfl⟩:=aw e
 refine ⟨c,δ,S,T,ds,δ1,s,e1,fun vs H1 l s1 => ?_⟩
 dsimp only at e2 ⊢
 split at e2
 ·rename_i hn
  rw [List.append_nil]
  refine ⟨l.trans hn,yN c δ1 σ H1,ds,d,pZ,(s1.st.left l).mono (aU (fun a o _ z => (fX s1 a).mp z) fun _ _ _ h => h),e2,fun v H' g r => k v H' ?_⟩
  have s2:=s1.grow g
  exact s2.stk (.cons (r.mono (aU (fun a o _ z => (fX s1 a).mpr z) fun _ _ _ h => h)) (s2.st.right l))
 ·cases e2
theorem xB {mf:List D -> Option (List D)} {n:Nat} (F:c8 X.prog X.w X.K X.mg X.base cT k f fd ps (CY n mf)) (hr:b6 k X.A) (hm:X.mg x = some (.ref f)) (hk:PySem.W.keepIn X.K (.ref f) = true) (hb:Binds X.K fd ps []) (ha:DA X (a :: es) fs)
  (hg:Gl X x:=by rfl) (hdb:(x == ("__debug__":Str)) = false:=by decide) (he:starEach (a :: es) X.env = (false,eval a X.env) :: starEach es X.env:=by rfl) (hpl:(backTo pos (starEach es X.env)).any (·.1) = false:=by rfl) :
  DF X (.Call (.Name x p) (a :: es) [] pos) (mC (fun ds => if ds.length = n then mf ds else none) fs):=b8 (mi F hr hg hm hk hb .nil u3 ha hdb he hpl) fun σ H Q ⟨c,δ,S,T,d,δ',s,e,k⟩ => by
 obtain ⟨ds,δ1,e1,e⟩:=bind_some e
 obtain ⟨e2,rfl⟩:=aw e
 refine ⟨c,δ,S,T,ds,δ1,s,e1,fun vs H1 l s1 => ?_⟩
 dsimp only at e2 ⊢
 split at e2
 ·rename_i hn
  rw [List.append_nil]
  refine ⟨l.trans hn,yN c δ1 σ H1,ds,d,pZ,(s1.st.left l).mono (aU (fun a o _ z => (fX s1 a).mp z) fun _ _ _ h => h),e2,fun q ws H' g hq hq' r => ?_⟩
  obtain ⟨f1,f2,f3⟩:=s1.fresh hq
  have s2:Sl { c with Z:=upd c.Z q (.lst ws) } δ1 S σ T H':= by
   have h0:=(s1.drop l).hide (o:=.lst ws) hq
   refine h0.grow fun b o hb => ?_
   by_cases eb:b = q
   ·subst eb; rw [aA] at hb; cases hb; exact hq'
   ·rw [av eb] at hb; exact g b o hb
  refine k q ws H' r.length (s2.stk ((r.mono (aU (fun a o ha z => ?_) fun _ _ _ h => h)).append s2.st)) f1 f2 f3
  rcases z with ⟨w,z⟩ | z
  ·have z':upd c.Z q (.lst ws) a = some w:=z
   by_cases ea:a = q
   ·subst ea; exact ⟨_,aA⟩
   ·rw [av ea] at z'
    obtain ⟨o',h'⟩:=(fX s1 a).mpr (.inl ⟨w,z'⟩)
    exact ⟨o',by rw [av ea]; exact h'⟩
  ·have ea:a ≠ q:=fun ea => s1.hdNew hq (.inr (by rw [<- ea]; exact z))
   obtain ⟨o',h'⟩:=(fX s1 a).mpr (.inr z)
   exact ⟨o',by rw [av ea]; exact h'⟩
 ·cases e2
def c_ (i n:Nat) (mf:List D -> List D -> Option (D × List D)) (fs:M (List D)):M D:=fun δ => match fs δ with
 | none => none
 | some (ds,δ1) => match δ1[i]? with
  | some (.ow b xs) => if ds.length + 1 = n then (match mf xs ds with
   | none => none
   | some (d,xs') => some (d,δ1.set i (.ow b xs'))) else none
  | _ => none
theorem rQ (i:Nat) {mf:List D -> List D -> Option (D × List D)} {n:Nat} {y:Str} {py:Pos} (F:c8 X.prog X.w X.K X.mg X.base cT k f fd ps (Ar n mf)) (hr:b6 k X.A) (hm:X.mg x = some (.ref f)) (hk:PySem.W.keepIn X.K (.ref f) = true) (hb:Binds X.K fd ps []) (ha:DA X es fs)
  (hN:X.N[i]? = some y:=by rfl) (hv:tJ X.env.scope y:=by first | exact Or.inl rfl | exact Or.inr (Or.inl rfl) | exact Or.inr (Or.inr rfl)) (hd:(y == ("__debug__":Str)) = false:=by decide) (hcd:(y == ("__classdict__":Str)) = false:=by decide)
  (hg:Gl X x:=by rfl) (hdb:(x == ("__debug__":Str)) = false:=by decide) (he:starEach (.Name y py :: es) X.env = (false,eval (.Name y py) X.env) :: starEach es X.env:=by rfl) (hpl:(backTo pos (starEach es X.env)).any (·.1) = false:=by rfl) :
  DE X (.Call (.Name x p) (.Name y py :: es) [] pos) (do let _ <- bh i; c_ i n mf fs):=b8 (mi F hr hg hm hk hb .nil u3 (cG (eO hN hv hd hcd) ha he) hdb he hpl) fun σ H Q ⟨c,δ,S,T,d,δ',s,e,k⟩ => by
 obtain ⟨xs0,δ0,e0,e⟩:=bind_some e
 obtain ⟨⟨b0,hi0⟩,rfl⟩:=bz e0
 obtain ⟨a,vs0,ea,_⟩:=s.ow i b0 xs0 hi0
 unfold c_ at e
 cases e1:fs δ with
 | none => rw [e1] at e; cases e
 | some q =>
  obtain ⟨ds,δ1⟩:=q
  rw [e1] at e
  dsimp only at e
  split at e
  ·rename_i b xs hi
   split at e
   ·rename_i hn
    cases e2:mf xs ds with
    | none => rw [e2] at e; cases e
    | some q =>
     obtain ⟨d',xs'⟩:=q
     rw [e2] at e
     cases e
     refine ⟨_,ea,c,δ,S,T,ds,δ1,s,e1,fun vs H1 l s1 => ?_⟩
     dsimp only
     rw [List.append_nil]
     obtain ⟨a',ws,ea',hH,hxs,hB,hB',hZ⟩:=s1.ow i b xs hi
     rw [ea] at ea'; cases ea'
     have hda:Hd c δ1 σ a:=.inr ⟨i,b,xs,hi,ea⟩
     have zi:∀ (o:HO) (y:Addr),(∃ u,upd (fun z => if z = a then none else yN c δ1 σ H1 z) a o y = some u) ↔ Hd c δ1 σ y:=fun o y => by
      by_cases ey:y = a
      ·subst ey; rw [aA]; exact Iff.intro (fun _ => hda) fun _ => ⟨o,rfl⟩
      ·rw [av ey,if_neg ey]; exact fX s1 y
     refine ⟨by simp [l]; omega,fun z => if z = a then none else yN c δ1 σ H1 z,a,ws,xs,vs,ds,d,xs',rfl,fun b o h => ?_,if_pos rfl,hH,hxs.mono (aU (fun y o _ z => (zi _ y).mp z) fun _ _ _ h => h),
      (s1.st.left l).mono (aU (fun y o _ z => (zi _ y).mp z) fun _ _ _ h => h),e2,fun v ws' H' g ga r1 r2 => k v H' ?_⟩
     ·dsimp only at h; split at h
      ·cases h
      ·exact pZ _ _ h
     ·have gr:vj H1 (upd H' a (.lst ws)):=fun y o hy => by
       by_cases ey:y = a
       ·subst ey; rw [hH] at hy; cases hy; exact aA
       ·rw [av ey]; exact g y o ey hy
      have s2:=(s1.drop l).grow gr
      have m2:∀ y o,hz (upd (fun z => if z = a then none else yN c δ1 σ H1 z) a (.lst ws')) H' y = some o -> eJ c δ1 σ (upd H' a (.lst ws)) y = some o :=
       aU (fun y o _ z => (zi _ y).mpr z) fun y o hy h => by
        have:y ≠ a:=fun ey => hy (by rw [ey]; exact ⟨_,aA⟩)
        rw [av this]; exact h
      have s3:=(s2.stk (.cons (r2.mono m2) s2.st)).mut hi ea (r1.mono m2)
      have eH:upd (upd H' a (.lst ws)) a (.lst ws') = H':= by
       rw [xy]
       funext y
       by_cases ey:y = a
       ·subst ey; rw [aA,ga]
       ·rw [av ey]
      rw [eH] at s3
      exact s3
   ·cases e
  ·cases e
end
def entry (N:List Str) (ds:List D):DS:=ds.map .pu ++ List.replicate (N.length - ds.length) .un
def aE (N:List Str) (body:M Fl) (ds:List D):Option D:=match body (entry N ds) with
 | some (.rt d,_) => some d
 | some (.nx,_) => some .non
 | _ => none
def ff (N:List Str) (body:M Fl) (ds:List D):Option (List D):=match body (entry N ds) with
 | some (.rf xs,_) => some xs
 | _ => none
def dD (N:List Str) (xs ds:List D):DS:=.ow true xs :: (ds.map .pu ++ List.replicate (N.length - (ds.length + 1)) .un)
def cm (N:List Str) (body:M Fl) (xs ds:List D):Option (D × List D):=match body (dD N xs ds) with
 | some (.rt d,δ) => (match (show DS from δ)[0]? with
  | some (Slot.ow true xs') => some (d,xs')
  | _ => none)
 | _ => none
theorem da {ds:List D} {n:Nat} {i:Nat} {x:Slot} (h:(ds.map Slot.pu ++ List.replicate n .un)[i]? = some x):(∃ d,x = .pu d ∧ ds[i]? = some d) ∨ x = .un:= by
 by_cases hi:i < ds.length
 ·rw [List.getElem?_append_left (by simpa using hi),List.getElem?_map] at h
  cases q:ds[i]? with
  | none => rw [q] at h; cases h
  | some d => rw [q] at h; cases h; exact .inl ⟨d,rfl,rfl⟩
 ·rw [List.getElem?_append_right (by simpa using hi),List.getElem?_replicate] at h
  split at h
  ·cases h; exact .inr rfl
  ·cases h
theorem nv {Z H:Hp} {N:List Str} {ds:List D} {vs:List V} (hZ:∀ a o,Z a = some o -> H a = some o) (r:Rs (hz Z H) ds vs) (hl:vs.length ≤ N.length):Sl ⟨Z,[],H⟩ (entry N ds) [] (L2.start N vs) [] H:= by
 have noow:∀ a,¬ tI (entry N ds) (L2.start N vs) a:=fun a ⟨i,b,xs,h1,_⟩ => by
  rcases da h1 with ⟨d,e,_⟩ | e <;> cases e
 have m:∀ b o,hz Z H b = some o -> eJ ⟨Z,[],H⟩ (entry N ds) (L2.start N vs) H b = some o:=aU (fun a o _ z => z.elim (fun z => z) fun z => absurd z (noow a)) fun _ _ _ h => h
 refine ⟨?_,fun i d h => ?_,fun i b xs h => ?_,fun i j b b' xs ys a h => ?_,.nil,fun b o _ h => h,fun b hb => (nomatch hb),hZ⟩
 ·have:=r.length
  simp only [entry,L2.start,List.length_append,List.length_map,List.length_replicate]
  omega
 ·rcases da h with ⟨d',e,hd⟩ | e
  ·cases e
   obtain ⟨v,hv,rv⟩:=r.get hd
   refine ⟨v,?_,rv.mono m⟩
   have hi:i < vs.length:=(List.getElem?_eq_some_iff.mp hv).1
   unfold L2.start
   rw [List.getElem?_append_left (by simpa using hi),List.getElem?_map,hv]; rfl
  ·cases e
 ·rcases da h with ⟨d',e,hd⟩ | e <;> cases e
 ·rcases da h with ⟨d',e,hd⟩ | e <;> cases e
section
variable {P:Program} {w:World} {K:PySem.W.Frag} {mg:Str -> Option Value} {base:Heap} {x qual:Str} {st:Stmt} {f:Addr} {fd:FuncData} {N ps:List Str} {k:Nat} {body:M Fl}
theorem Gg (F:yw K x qual st f fd) (S:aB N ps (ai st)) (hb:∀ (cdv:Value) (A:Around) (outer:List Env) (s:Shared) (H:Hp) (E:XK),b6 k (A.deeper (PyProof.Rows.envOfC qual (ai st) s.heap.objs.size f cdv)) -> oY (ic cT P w K mg base N qual (ai st) f cdv A outer s H E).nox (bP st) body) :
  c8 P w K mg base cT (k + 1) f fd ps (jl ps.length (aE N body)):= by
 refine F.ok S (fun vs H Q E h => h.1) (fun cdv A outer s H vs Q E hr h => ⟨_,hb cdv A outer s H E hr,?_⟩)
 obtain ⟨hl,Z,ds,d,hZ,r,e,q⟩:=h
 have hpl:ps.length ≤ N.length:=by have:=congrArg List.length S.pre; rw [List.length_take] at this; omega
 have s0:=nv (N:=N) hZ r (by rw [hl]; exact hpl)
 have fin:∀ {δ':DS} {σ':St} {v:V} {H':Hp},Sl ⟨Z,[],H⟩ δ' [d] σ' [v] H' -> Q v H':=fun {δ' σ' v H'} s' =>
  q v H' (fun b o hb => s'.keep b o (by simp) hb) (s'.st.head.mono (aU (fun a o _ z => .inl z) fun _ _ _ h => h))
 unfold aE at e
 split at e
 ·rename_i d' δ' eb
  cases e
  exact ⟨_,_,_,_,_,_,s0,eb,fun v σ' H' s' => fin s'⟩
 ·rename_i δ' eb
  cases e
  exact ⟨_,_,_,_,_,_,s0,eb,fun σ' H' s' => fin (v:=.non) (s'.stk (.cons .mkN .nil))⟩
 ·cases e
theorem Gz (F:yw K x qual st f fd) (S:aB N ps (ai st)) (hb:∀ (cdv:Value) (A:Around) (outer:List Env) (s:Shared) (H:Hp) (E:XK),b6 k (A.deeper (PyProof.Rows.envOfC qual (ai st) s.heap.objs.size f cdv)) -> oY (ic cT P w K mg base N qual (ai st) f cdv A outer s H E).nox (bP st) body) :
  c8 P w K mg base cT (k + 1) f fd ps (CY ps.length (ff N body)):= by
 refine F.ok S (fun vs H Q E h => h.1) (fun cdv A outer s H vs Q E hr h => ⟨_,hb cdv A outer s H E hr,?_⟩)
 obtain ⟨hl,Z,ds,d,hZ,r,e,q⟩:=h
 have hpl:ps.length ≤ N.length:=by have:=congrArg List.length S.pre; rw [List.length_take] at this; omega
 have s0:=nv (N:=N) hZ r (by rw [hl]; exact hpl)
 unfold ff at e
 split at e
 ·rename_i d' δ' eb
  cases e
  refine ⟨_,_,_,_,_,_,s0,eb,fun l vs' σ' H' h1 s' h3 h4 h5 => ?_⟩
  refine q l vs' H' (fun b o hb => s'.keep b o (by simp) hb) h5 (s'.zz l _ aA) ?_
  exact (s'.st.left h1).mono (aU (fun a o _ z => .inl z) fun _ _ _ h => h)
 ·cases e
theorem Gx (F:yw K x qual st f fd) (S:aB N ps (ai st)) (hb:∀ (cdv:Value) (A:Around) (outer:List Env) (s:Shared) (H:Hp) (E:XK),b6 k (A.deeper (PyProof.Rows.envOfC qual (ai st) s.heap.objs.size f cdv)) -> oY (ic cT P w K mg base N qual (ai st) f cdv A outer s H E).nox (bP st) body) :
  c8 P w K mg base cT (k + 1) f fd ps (Ar ps.length (cm N body)):= by
 refine F.ok S (fun vs H Q E h => h.1) (fun cdv A outer s H vs Q E hr h => ⟨_,hb cdv A outer s H E hr,?_⟩)
 obtain ⟨hl,Z,a,ws,xs,us,ds,d,xs',rfl,hZ,hZa,hH,hxs,hds,e,q⟩:=h
 have hpl:ps.length ≤ N.length:=by have:=congrArg List.length S.pre; rw [List.length_take] at this; omega
 have hlu:us.length + 1 ≤ N.length:=by rw [<- hl] at hpl; simpa using hpl
 have ld:=hds.length
 have ow0:∀ b,tI (dD N xs ds) (L2.start N (.ref a :: us)) b -> b = a:=fun b ⟨i,bb,ys,h1,h2⟩ => by
  cases i with
  | zero => cases h2; rfl
  | succ i =>
   have h1':(ds.map Slot.pu ++ List.replicate (N.length - (ds.length + 1)) .un)[i]? = some (.ow bb ys):=by simpa [dD] using h1
   rcases da h1' with ⟨d,e,_⟩ | e <;> cases e
 have m:∀ b o,hz (upd Z a (.lst ws)) H b = some o -> eJ ⟨Z,[a],H⟩ (dD N xs ds) (L2.start N (.ref a :: us)) H b = some o:=aU (fun b o _ z => by
  rcases z with ⟨o',z⟩ | z
  ·have z':Z b = some o':=z
   by_cases eb:b = a
   ·rw [eb,hZa] at z'; cases z'
   ·exact ⟨o',by rw [av eb]; exact z'⟩
  ·rw [ow0 b z]; exact ⟨_,aA⟩) fun _ _ _ h => h
 have s0:Sl ⟨Z,[a],H⟩ (dD N xs ds) [] (L2.start N (.ref a :: us)) [] H:= by
  refine ⟨?_,fun i d h => ?_,fun i b ys h => ?_,fun i j b b' ys zs y h h' => ?_,.nil,fun b o _ h => h,fun b hb => ?_,hZ⟩
  ·simp only [dD,L2.start,List.length_append,List.length_map,List.length_replicate,List.length_cons]
   omega
  ·cases i with
   | zero => cases h
   | succ i =>
    have h':(ds.map Slot.pu ++ List.replicate (N.length - (ds.length + 1)) .un)[i]? = some (.pu d):=by simpa [dD] using h
    rcases da h' with ⟨d',e,hd⟩ | e
    ·cases e
     obtain ⟨v,hv,rv⟩:=hds.get hd
     refine ⟨v,?_,rv.mono m⟩
     have hi:i < us.length:=(List.getElem?_eq_some_iff.mp hv).1
     have:(L2.start N (.ref a :: us))[i + 1]? = some (some v):= by
      unfold L2.start
      rw [List.getElem?_append_left (by simpa using hi),List.getElem?_map,List.getElem?_cons_succ,hv]; rfl
     exact this
    ·cases e
  ·cases i with
   | zero =>
    cases h
    exact ⟨a,ws,rfl,hH,hxs.mono m,(fun _ => List.mem_singleton.mpr rfl),(fun z => absurd z (by simp)),hZa⟩
   | succ i =>
    have h':(ds.map Slot.pu ++ List.replicate (N.length - (ds.length + 1)) .un)[i]? = some (.ow b ys):=by simpa [dD] using h
    rcases da h' with ⟨d',e,hd⟩ | e <;> cases e
  ·intro _ _
   have z:∀ (i:Nat) b ys,(dD N xs ds)[i]? = some (.ow b ys) -> i = 0:=fun i b ys h => by
    cases i with
    | zero => rfl
    | succ i =>
     have h':(ds.map Slot.pu ++ List.replicate (N.length - (ds.length + 1)) .un)[i]? = some (.ow b ys):=by simpa [dD] using h
     rcases da h' with ⟨d',e,hd⟩ | e <;> cases e
   rw [z i b ys h,z j b' zs h']
  ·rw [List.mem_singleton.mp hb]; exact ⟨_,hH⟩
 unfold cm at e
 split at e
 ·rename_i d' δ' eb
  split at e
  ·rename_i ys hy
   cases e
   refine ⟨_,_,_,_,_,_,s0,eb,fun v σ' H' s' => ?_⟩
   obtain ⟨a',ws',ea,hH',hv',hB',_,_⟩:=s'.ow 0 true _ hy
   have ea2:a' = a:=List.mem_singleton.mp (hB' rfl)
   subst ea2
   have m':∀ b o,eJ ⟨Z,[a'],H⟩ δ' σ' H' b = some o -> hz (upd Z a' (.lst ws')) H' b = some o:=aU (fun b o _ z => by
    obtain ⟨o',z⟩:=z
    by_cases eb:b = a'
    ·subst eb; exact .inr ⟨0,true,_,hy,ea⟩
    ·rw [av eb] at z; exact .inl ⟨o',z⟩) fun _ _ _ h => h
   exact q v ws' H' (fun b o hb h => s'.keep b o (fun z => hb (List.mem_singleton.mp z)) h) hH' (hv'.mono m') (s'.st.head.mono m')
  ·cases e
 ·cases e
end
end Jt
namespace Jt
open PySem L2
section
variable {X:Cx} {a b e:Expr} {fa fb:M D} {fs:M (List D)} {pos p apos cpos:Pos} {es:List Expr} {x:Str}
theorem Sl.own {c:Ct} {δ:DS} {S:List D} {σ:St} {T:List V} {H:Hp} (s:Sl c δ S σ T H) {i:Nat} {b:Bool} {xs:List D} (hi:δ[i]? = some (.ow b xs)):∃ a vs,σ[i]? = some (some (.ref a)) ∧ H a = some (.lst vs) ∧ Rs (eJ c δ σ H) xs vs:= by
 obtain ⟨a,vs,h1,h2,h3,_⟩:=s.ow i b xs hi
 exact ⟨a,vs,h1,h2,h3⟩
def setOw (i:Nat) (xs:List D):M Unit:=fun δ => match δ[i]? with
 | some (.ow b _) => some ((),δ.set i (.ow b xs))
 | _ => none
theorem eT {i:Nat} {xs:List D} {δ δ':DS} {u:Unit} (h:setOw i xs δ = some (u,δ')):∃ b ys,δ[i]? = some (.ow b ys) ∧ δ' = δ.set i (.ow b xs):= by
 unfold setOw at h
 split at h
 ·rename_i b ys e; cases h; exact ⟨b,ys,e,rfl⟩
 ·cases h
def jx (i:Nat) (fs:M (List D)):M Fl:=do
 let _ <- bh i
 let ds <- fs
 match ds with
 | [d] => do
  let xs <- bh i
  let _ <- lift (few xs.length)
  setOw i (xs ++ [d])
  pure .nx
 | _ => lift none
theorem tm (i:Nat) (ha:DA X [a] fs) (hN:X.N[i]? = some x:=by rfl) (hv:tJ X.env.scope x:=by first | exact Or.inl rfl | exact Or.inr (Or.inl rfl) | exact Or.inr (Or.inr rfl)) (hd:(x == ("__debug__":Str)) = false:=by decide) (hcd:(x == ("__classdict__":Str)) = false:=by decide)
  (hfew:((backTo cpos (starEach [a] X.env)).all (fun x => !x.1) && (backToKw cpos (keywordEach [] X.env)).all (fun x => x.1.isSome)
   && decide (([a]:List Expr).length + ([]:List Keyword).length + (if ([]:List Keyword).isEmpty then 0 else 1) < 30)) = true:=by rfl)
  (hline:(apos.endLine == cpos.line) = true:=by rfl) (hs:starEach [a] X.env = [(false,eval a X.env)]:=by rfl) (hsw:swapsWith (.Call (.Attribute (.Name x p) "append" apos) [a] [] cpos) none pos.line X.env = pure false:=by rfl) :
  o3 X (.Expr (.Call (.Attribute (.Name x p) "append" apos) [a] [] cpos) pos) (jx i fs) :=
 jo (qD (Ab PySem.F.plainAttrs_list PySem.F.slot_list_append PySem.F.type_list_append lb (eO hN hv hd hcd) ha rfl hfew hline hs rfl) hsw) fun E σ H ⟨c,δ,S,T,fl,δ',s,e,k⟩ => by
  obtain ⟨xs0,δ0,e0,e⟩:=bind_some e
  obtain ⟨⟨b0,hi0⟩,rfl⟩:=bz e0
  obtain ⟨q,vs0,eq,hq,_⟩:=s.own hi0
  obtain ⟨ds,δ1,e1,e⟩:=bind_some e
  refine ⟨_,eq,.inl ⟨rfl,vs0,.of hq⟩,c,δ,S,T,ds,δ1,s,e1,fun vs H1 l s1 => ?_⟩
  split at e
  ·rename_i d
   obtain ⟨xs,δ2,e2,e⟩:=bind_some e
   obtain ⟨⟨b1,hi1⟩,rfl⟩:=bz e2
   obtain ⟨_,δ3,e3,e⟩:=bind_some e
   obtain ⟨e4,rfl⟩:=aw e3
   obtain ⟨_,δ4,e5,e⟩:=bind_some e
   obtain ⟨rfl,rfl⟩:=ak e
   obtain ⟨b2,ys,hi2,rfl⟩:=eT e5
   rw [hi1] at hi2; cases hi2
   obtain ⟨q',ws,eq',hq',hx⟩:=s1.own hi1
   rw [eq] at eq'; cases eq'
   obtain ⟨v,rfl,r⟩:=tH (s1.st.left l)
   refine ⟨q,ws,v,rfl,rfl,hq',by rw [hx.length]; exact (fV e4).2,k _ _ ?_⟩
   exact (s1.drop l).mut hi1 eq (hx.append (.cons r .nil))
  ·cases e
def v7 (i:Nat) (fs:M (List D)):M D:=do
 let _ <- bh i
 let ds <- fs
 match ds with
 | [.int j] => do
  let xs <- bh i
  let d <- lift (if 0 ≤ j ∧ j < 100000 then xs[j.toNat]? else none)
  setOw i (xs.eraseIdx j.toNat)
  pure d
 | _ => lift none
theorem Rs.erase {H:Hp}:∀ {ds:List D} {vs:List V} (i:Nat),Rs H ds vs -> Rs H (ds.eraseIdx i) (vs.eraseIdx i)
 | [],vs,i,h => by rw [h.inv0]; simpa using Rs.nil
 | d :: ds,vs,0,h => by obtain ⟨v,r,e,_,h2⟩:=h.inv; subst e; exact h2
 | d :: ds,vs,i + 1,h => by obtain ⟨v,r,e,h1,h2⟩:=h.inv; subst e; exact .cons h1 (Rs.erase i h2)
theorem wD (i:Nat) (ha:DA X [a] fs) (hN:X.N[i]? = some x:=by rfl) (hv:tJ X.env.scope x:=by first | exact Or.inl rfl | exact Or.inr (Or.inl rfl) | exact Or.inr (Or.inr rfl)) (hd:(x == ("__debug__":Str)) = false:=by decide) (hcd:(x == ("__classdict__":Str)) = false:=by decide)
  (hfew:((backTo cpos (starEach [a] X.env)).all (fun x => !x.1) && (backToKw cpos (keywordEach [] X.env)).all (fun x => x.1.isSome)
   && decide (([a]:List Expr).length + ([]:List Keyword).length + (if ([]:List Keyword).isEmpty then 0 else 1) < 30)) = true:=by rfl)
  (hline:(apos.endLine == cpos.line) = true:=by rfl) (hs:starEach [a] X.env = [(false,eval a X.env)]:=by rfl) :
  DE X (.Call (.Attribute (.Name x p) "pop" apos) [a] [] cpos) (v7 i fs) :=
 b8 (Ab PySem.F.plainAttrs_list PySem.F.slot_list_pop PySem.F.type_list_pop vC (eO hN hv hd hcd) ha rfl hfew hline hs rfl) fun σ H Q ⟨c,δ,S,T,fl,δ',s,e,k⟩ => by
  obtain ⟨xs0,δ0,e0,e⟩:=bind_some e
  obtain ⟨⟨b0,hi0⟩,rfl⟩:=bz e0
  obtain ⟨q,vs0,eq,hq,_⟩:=s.own hi0
  obtain ⟨ds,δ1,e1,e⟩:=bind_some e
  refine ⟨_,eq,.inl ⟨rfl,vs0,.of hq⟩,c,δ,S,T,ds,δ1,s,e1,fun vs H1 l s1 => ?_⟩
  split at e
  ·rename_i j
   obtain ⟨xs,δ2,e2,e⟩:=bind_some e
   obtain ⟨⟨b1,hi1⟩,rfl⟩:=bz e2
   obtain ⟨d,δ3,e3,e⟩:=bind_some e
   obtain ⟨e4,rfl⟩:=aw e3
   obtain ⟨_,δ4,e5,e⟩:=bind_some e
   obtain ⟨rfl,rfl⟩:=ak e
   obtain ⟨b2,ys,hi2,rfl⟩:=eT e5
   rw [hi1] at hi2; cases hi2
   obtain ⟨q',ws,eq',hq',hx⟩:=s1.own hi1
   rw [eq] at eq'; cases eq'
   obtain ⟨v,rfl,r⟩:=tH (s1.st.left l)
   cases r.int
   split at e4
   ·rename_i hj
    obtain ⟨y,hy,ry⟩:=hx.get e4
    have hjl:j.toNat < ws.length:=(List.getElem?_eq_some_iff.mp hy).1
    refine ⟨q,ws,j,j.toNat,y,rfl,rfl,hq',by omega,by omega,?_,hy,k _ _ ?_⟩
    ·unfold seqIndex?
     have h1:¬ j < 0:=by omega
     simp only [h1,if_false]
     rw [if_pos]
     simp only [Bool.and_eq_true,decide_eq_true_eq]
     omega
    ·have s2:=s1.drop l
     exact (s2.stk (.cons ry s2.st)).mut hi1 eq (hx.erase j.toNat)
   ·cases e4
  ·cases e
def mr (i:Nat) (fa:M D) (k:Int):M Fl:=do
 let d <- fa
 let xs <- bh i
 let j <- lift (tG xs.length k)
 setOw i (xs.set j d)
 pure .nx
theorem Rs.set {H:Hp} {d:D} {v:V} (r:R H d v):∀ {ds:List D} {vs:List V} (i:Nat),Rs H ds vs -> Rs H (ds.set i d) (vs.set i v)
 | [],vs,i,h => by rw [h.inv0]; simpa using Rs.nil
 | d :: ds,vs,0,h => by obtain ⟨v,q,e,_,h2⟩:=h.inv; subst e; exact .cons r h2
 | d :: ds,vs,i + 1,h => by obtain ⟨v,q,e,h1,h2⟩:=h.inv; subst e; exact .cons h1 (Rs.set r i h2)
theorem ug (i:Nat) {k:Int} {j:Nat} {pc psub:Pos} (he:DE X e fa) (hN:X.N[i]? = some x:=by rfl) (hv:tJ X.env.scope x:=by first | exact Or.inl rfl | exact Or.inr (Or.inl rfl) | exact Or.inr (Or.inr rfl)) (hd:(x == ("__debug__":Str)) = false:=by decide) (hcd:(x == ("__classdict__":Str)) = false:=by decide)
  (ha:∀ v,assign (.Subscript (.Name x p) (.Constant (.int k) j pc) psub) X.env v = (do
   let ov <- holding [v] (eval (.Name x p) X.env)
   let iv <- holding [v,ov] (eval (.Constant (.int k) j pc) X.env)
   standAt psub
   holding [v,ov,iv] (setItem ov iv v)
   release [v,ov,iv] []):=by intro _; rfl)
  (hs:swapsWithSole [.Subscript (.Name x p) (.Constant (.int k) j pc) psub] e pos.line X.env = pure false:=by rfl) (hw:swappedStores [.Subscript (.Name x p) (.Constant (.int k) j pc) psub] e X.env = pure none:=by rfl)
  (h1:(assignEach [.Subscript (.Name x p) (.Constant (.int k) j pc) psub] X.env).map (·.2) = [assign (.Subscript (.Name x p) (.Constant (.int k) j pc) psub) X.env]:=by rfl) :
  o3 X (.Assign [.Subscript (.Name x p) (.Constant (.int k) j pc) psub] e pos) (mr i fa k) :=
 jo (tR he (Bg (eO hN hv hd hcd) u4 set_list ha) hs hw h1) fun E σ H ⟨c,δ,S,T,fl,δ',s,e,kk⟩ => by
  obtain ⟨d,δ1,e1,e⟩:=bind_some e
  obtain ⟨xs,δ2,e2,e⟩:=bind_some e
  obtain ⟨⟨b1,hi1⟩,rfl⟩:=bz e2
  obtain ⟨jj,δ3,e3,e⟩:=bind_some e
  obtain ⟨e4,rfl⟩:=aw e3
  obtain ⟨_,δ4,e5,e⟩:=bind_some e
  obtain ⟨rfl,rfl⟩:=ak e
  obtain ⟨b2,ys,hi2,rfl⟩:=eT e5
  rw [hi1] at hi2; cases hi2
  refine ⟨c,δ,S,T,d,δ1,s,e1,fun v H1 s1 => ?_⟩
  obtain ⟨q,ws,eq,hq,hx⟩:=s1.own hi1
  refine ⟨_,eq,q,ws,k,jj,rfl,rfl,hq,by rw [hx.length]; exact e4,kk _ _ ?_⟩
  exact s1.pop.mut hi1 eq (hx.set s1.st.head jj)
def oH (i:Nat) (fb:M D):M D:=do
 let _ <- bh i
 let y <- fb
 let xs <- bh i
 lift (dj (.lst xs) y)
theorem jY (i:Nat) {px:Pos} (hb:DE X b fb) (hN:X.N[i]? = some x:=by rfl) (hv:tJ X.env.scope x:=by first | exact Or.inl rfl | exact Or.inr (Or.inl rfl) | exact Or.inr (Or.inr rfl)) (hd:(x == ("__debug__":Str)) = false:=by decide) (hcd:(x == ("__classdict__":Str)) = false:=by decide)
  (hs:gQ b:=by exact fun _ _ => rfl):DE X (.Subscript (.Name x px) b pos) (oH i fb):=b8 (Ah qt (eO hN hv hd hcd) hb hs) fun σ H Q ⟨c,δ,S,T,fl,δ',s,e,k⟩ => by
 obtain ⟨xs0,δ0,e0,e⟩:=bind_some e
 obtain ⟨⟨b0,hi0⟩,rfl⟩:=bz e0
 obtain ⟨q,vs0,eq,hq,_⟩:=s.own hi0
 obtain ⟨y,δ1,e1,e⟩:=bind_some e
 obtain ⟨xs,δ2,e2,e⟩:=bind_some e
 obtain ⟨⟨b1,hi1⟩,rfl⟩:=bz e2
 obtain ⟨e3,rfl⟩:=aw e
 refine ⟨_,eq,c,δ,S,T,y,δ1,s,e1,fun u H2 s2 => ?_⟩
 obtain ⟨q',ws,eq',hq',hx⟩:=s2.own hi1
 rw [eq] at eq'; cases eq'
 cases y with
 | int j =>
  have e':jC xs j = some fl:=e3
  obtain ⟨z,e4,r⟩:=pk hx e'
  exact ⟨q,ws,j,z,rfl,s2.st.head.int,.of hq',e4,k _ _ (s2.stk (.cons r s2.st.tail))⟩
 | _ => cases e3
def jf (i:Nat):M D:=do
 let xs <- bh i
 pure (.int xs.length)
theorem jt (i:Nat) {px:Pos} (hm:X.mg "len" = none) (hg:Gl X "len":=by rfl) (hN:X.N[i]? = some x:=by rfl) (hv:tJ X.env.scope x:=by first | exact Or.inl rfl | exact Or.inr (Or.inl rfl) | exact Or.inr (Or.inr rfl)) (hd:(x == ("__debug__":Str)) = false:=by decide) (hcd:(x == ("__classdict__":Str)) = false:=by decide) :
  DE X (.Call (.Name "len" p) [.Name x px] [] pos) (jf i):=b8 (eC h_ hg hm PySem.boot_len (cG (eO hN hv hd hcd) eZ) (by decide) (by decide) rfl rfl) fun σ H Q ⟨c,δ,S,T,fl,δ',s,e,k⟩ => by
 obtain ⟨xs,δ1,e1,e⟩:=bind_some e
 obtain ⟨rfl,rfl⟩:=ak e
 obtain ⟨⟨b1,hi1⟩,rfl⟩:=bz e1
 obtain ⟨q,ws,eq,hq,hx⟩:=s.own hi1
 refine ⟨_,eq,q,ws,rfl,.inl (.of hq),k _ _ (s.stk (.cons ?_ s.st))⟩
 rw [hx.length]; exact .mkI
theorem b4 (hm:X.mg "len" = none) (ha:DA X [a] fs) (hg:Gl X "len":=by rfl) (he:starEach [a] X.env = [(false,eval a X.env)]:=by rfl):DE X (.Call (.Name "len" p) [a] [] pos) (mC bG fs) :=
 gP h_ Az hg hm PySem.boot_len ha (by decide) (by decide) he rfl
theorem tj:∀ {bs:List Bool} {its:List Value} {i:Nat} {v:Value},Vals (bs.map V.bl) its -> its[i]? = some v -> ∃ b,bs[i]? = some b ∧ v = .bool b:=fun {bs its i v} h e => by
 have hl:=h.length
 rw [List.length_map] at hl
 have hi:i < bs.length:=by rw [hl]; exact (List.getElem?_eq_some_iff.mp e).1
 obtain ⟨u,eu,r⟩:=h.get (i:=i) (x:=V.bl bs[i]) (by rw [List.getElem?_map,List.getElem?_eq_getElem hi]; rfl)
 rw [e] at eu; cases eu
 exact ⟨bs[i],List.getElem?_eq_getElem hi,r⟩
theorem pj (bs:List Bool):((List.range bs.length).all fun i => (bs[i]?).getD true) = bs.all id:= by
 rw [Bool.eq_iff_iff,List.all_eq_true,List.all_eq_true]
 constructor
 ·intro h b hb
  obtain ⟨i,hi,rfl⟩:=List.getElem_of_mem hb
  simpa [List.getElem?_eq_getElem hi] using h i (List.mem_range.mpr hi)
 ·intro h i hi
  have hi':=List.mem_range.mp hi
  simpa [List.getElem?_eq_getElem hi'] using h _ (List.getElem_mem hi')
theorem uU (hc:X.calm = true):cQ X (.builtin "all") (fun xs H Q => ∃ (p:Addr) (bs:List Bool),xs = [.ref p] ∧ fI X.K H p (bs.map V.bl) ∧ Q (.bl (bs.all id)) H):= by
 intro pins s σ H xs us Q I r h
 obtain ⟨p,bs,rfl,hq,q⟩:=h
 obtain ⟨u,rfl,rx⟩:=r.one
 cases rx
 obtain ⟨its,rv,pl,hz⟩:=I.list hq
 have hlt:p < s.heap.objs.size:=by obtain ⟨_,e,_⟩:=pl.isList; exact Heap.lt_size e
 refine call_all_walk (wpAny_pyIter_list pl.isList ?_)
 refine ⟨s.heap.objs.size,[s.heap.objs.size,p],[s.heap.objs.size],its.toArray.size,_,_,fun i => (bs[i]?).getD true,rfl,Walks.list (A:=X.A.in1) (I.ok.hd hc) _ p (Nat.ne_of_lt hlt) its.toArray,
  ⟨⟨_,Heap.get?_push_size _ rfl,rfl,rfl⟩,pl.isList.push _⟩,fun i v s' Q' E' hP hQ => ?_,fun h' tk hk => ?_⟩
 ·obtain ⟨b,e,rfl⟩:=tj rv (by simpa using hP)
  simp only [e,Option.getD_some] at hQ
  exact wpAny_truthy_bool hQ
 ·have e:((List.range its.toArray.size).all fun i => (bs[i]?).getD true) = bs.all id:= by
   rw [List.size_toArray,<- rv.length,List.length_map]; exact pj bs
  rw [e]
  exact ⟨.bl _,H,I.kept fun b o eb => hk b o (fun hm => absurd (Heap.lt_size eb) (by rw [List.mem_singleton.mp hm]; exact Nat.lt_irrefl _)) (Heap.get?_push_of_some _ eb),rfl,q⟩
def boolsOf:List D -> Option (List Bool)
 | [] => some []
 | .bl b :: r => (boolsOf r).map (b :: ·)
 | _ => none
theorem nV {H:Hp}:∀ {ds:List D} {vs:List V} {bs:List Bool},Rs H ds vs -> boolsOf ds = some bs -> vs = bs.map V.bl
 | [],vs,bs,h,e => by cases e; exact h.inv0
 | d :: ds,vs,bs,h,e => by
  obtain ⟨v,r,ev,h1,h2⟩:=h.inv
  cases d with
  | bl b =>
   unfold boolsOf at e
   cases q:boolsOf ds with
   | none => rw [q] at e; cases e
   | some bs' =>
    rw [q] at e; cases e
    rw [ev,h1.bl,nV h2 q]; rfl
  | _ => cases e
def kP:List D -> Option D
 | [.lst ds] => (boolsOf ds).map fun bs => .bl (bs.all id)
 | _ => none
theorem tU {K:PySem.W.Frag} (g:List Bool -> Bool) (f:List D -> Option D) (hf:∀ ds d,f ds = some d -> ∃ es bs,ds = [.lst es] ∧ boolsOf es = some bs ∧ d = .bl (g bs)) :
  jS (fun xs H Q => ∃ (p:Addr) (bs:List Bool),xs = [.ref p] ∧ fI K H p (bs.map V.bl) ∧ Q (.bl (g bs)) H) f:=fun c δ S σ T H ds vs d Q l s e k => by
 obtain ⟨es,bs,rfl,e2,rfl⟩:=hf _ _ e
 have h:=s.st.left l
 have h2:=s.st.right l
 obtain ⟨v,rfl,r⟩:=tH h
 obtain ⟨p,ws,rfl,h1,h3⟩:=r.lst
 have:=nV h3 e2
 subst this
 exact ⟨p,bs,rfl,.inl (Rd.mono aF h1),k _ _ (s.stk (.cons .mkB h2))⟩
theorem sI (ds:List D) (d:D) (h:kP ds = some d):∃ es bs,ds = [.lst es] ∧ boolsOf es = some bs ∧ d = .bl (bs.all id):= by
 unfold kP at h
 split at h
 ·rename_i es
  cases q:boolsOf es with
  | none => rw [q] at h; cases h
  | some bs => rw [q] at h; cases h; exact ⟨es,bs,rfl,q,rfl⟩
 ·cases h
theorem pB (hm:X.mg "all" = none) (ha:DA X [a] fs) (hg:Gl X "all":=by rfl) (hc:X.calm = true:=by rfl) (he:starEach [a] X.env = [(false,eval a X.env)]:=by rfl):DE X (.Call (.Name "all" p) [a] [] pos) (mC kP fs) :=
 gP (uU hc) (tU _ kP sI) hg hm PyProof.Rows.boot_all ha (by decide) (by decide) he rfl
theorem sg {T:String} {r:List V -> Hp -> VK -> Prop} {f:List D -> Option D} (hc:cQ X (.type T) r) (hd:jS r f) (hg:Gl X x) (hm:X.mg x = none) (hv:bootBuiltins x = some (.type T)) (ha:DA X (a :: es) fs) (hn:x ≠ "__name__":=by decide) (hdb:(x == ("__debug__":Str)) = false:=by decide)
  (he:starEach (a :: es) X.env = (false,eval a X.env) :: starEach es X.env:=by rfl) (hpl:(backTo pos (starEach es X.env)).any (·.1) = false:=by rfl):DE X (.Call (.Name x p) (a :: es) [] pos) (mC f fs) :=
 b8 (d9 hc hg hm hv ha hn hdb he hpl) (Av hd)
theorem sk {T:String} {r:List V -> Hp -> VK -> Prop} {f:List D -> Option (List D)} (hc:cQ X (.type T) r) (hd:wd r f) (hg:Gl X x) (hm:X.mg x = none) (hv:bootBuiltins x = some (.type T)) (ha:DA X (a :: es) fs) (hn:x ≠ "__name__":=by decide) (hdb:(x == ("__debug__":Str)) = false:=by decide)
  (he:starEach (a :: es) X.env = (false,eval a X.env) :: starEach es X.env:=by rfl) (hpl:(backTo pos (starEach es X.env)).any (·.1) = false:=by rfl):DF X (.Call (.Name x p) (a :: es) [] pos) (mC f fs) :=
 b8 (d9 hc hg hm hv ha hn hdb he hpl) (BF hd)
def b5:D -> Option (List D)
 | .tup ds => some ds
 | .lst ds => some ds
 | _ => none
def bf:List D -> Option D
 | [x] => (b5 x).map .tup
 | _ => none
theorem uu {K:PySem.W.Frag}:jS (fun xs H Q => ∃ p ys,xs = [.ref p] ∧ ((fI K H p ys ∧ ∀ l,H l = none -> Q (.ref l) (upd H l (.tup ys))) ∨ (gp K H p ys ∧ Q (.ref p) H))) bf:=fun c δ S σ T H ds vs d Q l s e k => by
 unfold bf at e
 split at e
 ·rename_i x
  have h:=s.st.left l
  have h2:=s.st.right l
  obtain ⟨v,rfl,r⟩:=tH h
  cases x with
  | tup es =>
   cases e
   obtain ⟨p,ws,rfl,h1,h3⟩:=r.tup
   exact ⟨p,ws,rfl,.inr ⟨.of (aF _ _ h1),k _ _ (s.stk (.cons (.mkT h1 h3) h2))⟩⟩
  | lst es =>
   cases e
   obtain ⟨p,ws,rfl,h1,h3⟩:=r.lst
   exact ⟨p,ws,rfl,.inl ⟨.inl (Rd.mono aF h1),fun q hq => k _ _ ((s.stk (h3.append h2)).newTup h3.length hq)⟩⟩
  | _ => cases e
 ·cases e
theorem bg (hm:X.mg "tuple" = none) (ha:DA X [a] fs) (hg:Gl X "tuple":=by rfl) (he:starEach [a] X.env = [(false,eval a X.env)]:=by rfl):DE X (.Call (.Name "tuple" p) [a] [] pos) (mC bf fs) :=
 sg kN uu hg hm (by decide +kernel) ha (by decide) (by decide) he rfl
def dList:List D -> Option (List D)
 | [x] => b5 x
 | _ => none
theorem y8 {K:PySem.W.Frag}:wd (fun xs H Q => ∃ p ys,xs = [.ref p] ∧ (fI K H p ys ∨ gp K H p ys) ∧ ∀ l,H l = none -> Q (.ref l) (upd H l (.lst ys))) dList:=fun c δ S σ T H ds vs d Q l s e k => by
 unfold dList at e
 split at e
 ·rename_i x
  have h:=s.st.left l
  have h2:=s.st.right l
  obtain ⟨v,rfl,r⟩:=tH h
  cases x with
  | tup es =>
   cases e
   obtain ⟨p,ws,rfl,h1,h3⟩:=r.tup
   refine ⟨p,ws,rfl,.inr (.of (aF _ _ h1)),fun q hq => ?_⟩
   have s1:=s.stk (h3.append h2)
   obtain ⟨f1,f2,f3⟩:=s1.fresh hq
   exact k q ws _ h3.length (s1.hide hq) f1 f2 f3
  | lst es =>
   cases e
   obtain ⟨p,ws,rfl,h1,h3⟩:=r.lst
   refine ⟨p,ws,rfl,.inl (.inl (Rd.mono aF h1)),fun q hq => ?_⟩
   have s1:=s.stk (h3.append h2)
   obtain ⟨f1,f2,f3⟩:=s1.fresh hq
   exact k q ws _ h3.length (s1.hide hq) f1 f2 f3
  | _ => cases e
 ·cases e
theorem za (hm:X.mg "list" = none) (ha:DA X [a] fs) (hg:Gl X "list":=by rfl) (he:starEach [a] X.env = [(false,eval a X.env)]:=by rfl):DF X (.Call (.Name "list" p) [a] [] pos) (mC dList fs) :=
 sk lX y8 hg hm (by decide +kernel) ha (by decide) (by decide) he rfl
def flat:D -> Option V
 | .non => some .non
 | .bl b => some (.bl b)
 | .int i => some (.int i)
 | .str x => some (.str x)
 | _ => none
theorem c5 {H:Hp} {d:D} {v u:V} (r:R H d v) (e:flat d = some u):v = u ∧ fQ u = true:= by
 cases d with
 | non => cases e; exact ⟨r.non,rfl⟩
 | bl b => cases e; exact ⟨r.bl,rfl⟩
 | int b => cases e; exact ⟨r.int,rfl⟩
 | str b => cases e; exact ⟨r.str,rfl⟩
 | _ => cases e
def ke:List D -> Option (List V)
 | [] => some []
 | d :: ds => match flat d,ke ds with
  | some v,some vs => some (v :: vs)
  | _,_ => none
theorem jK {H:Hp}:∀ {ds:List D} {vs us:List V},Rs H ds vs -> ke ds = some us -> vs = us ∧ us.all fQ = true
 | [],vs,us,h,e => by cases e; exact ⟨h.inv0,rfl⟩
 | d :: ds,vs,us,h,e => by
  obtain ⟨v,r,ev,h1,h2⟩:=h.inv
  unfold ke at e
  split at e
  ·rename_i w ws e1 e2
   cases e
   obtain ⟨a1,a2⟩:=c5 h1 e1
   obtain ⟨b1,b2⟩:=jK h2 e2
   refine ⟨by rw [ev,a1,b1],?_⟩
   rw [List.all_cons,a2,b2]; rfl
  ·cases e
def qk (neg:Bool) (x y:D):Option D:=match flat x,b5 y with
 | some v,some ds => (ke ds).map fun vs => .bl (if neg then !CZ v vs else CZ v vs)
 | _,_ => none
theorem pz {K:PySem.W.Frag} {neg:Bool}:oQ (FA K neg) (qk neg):=fun c δ S σ T H x y v u d Q s e k => by
 unfold qk at e
 split at e
 ·rename_i w ds e1 e2
  cases e3:ke ds with
  | none => rw [e3] at e; cases e
  | some vs =>
   rw [e3] at e; cases e
   obtain ⟨rfl,f1⟩:=c5 s.st.tail.head e1
   cases y with
   | tup es =>
    cases e2
    obtain ⟨p,ws,rfl,h1,h3⟩:=s.st.head.tup
    obtain ⟨rfl,f2⟩:=jK h3 e3
    exact ⟨p,ws,rfl,.inr (.of (aF _ _ h1)),f1,f2,k _ _ (s.stk (.cons .mkB s.st.tail.tail))⟩
   | lst es =>
    cases e2
    obtain ⟨p,ws,rfl,h1,h3⟩:=s.st.head.lst
    obtain ⟨rfl,f2⟩:=jK h3 e3
    exact ⟨p,ws,rfl,.inl (.inl (Rd.mono aF h1)),f1,f2,k _ _ (s.stk (.cons .mkB s.st.tail.tail))⟩
   | _ => cases e2
 ·cases e
theorem zU (ha:DE X a fa) (hb:DE X b fb) (hm:behindInMarks .In b = false:=by rfl):DE X (.Compare a [.In] [b] pos) (m2 (qk false) fa fb):=kE k3 pz ha hb hm
theorem wH (ha:DE X a fa) (hb:DE X b fb) (hm:behindInMarks .In b = false:=by rfl):DT X (.Compare a [.In] [b] pos) (m2 (qk false) fa fb >>= cB):=ft k3 pz ha hb hm
theorem ui (ha:DE X a fa) (hb:DE X b fb) (hm:behindInMarks .NotIn b = false:=by rfl):DT X (.Compare a [.NotIn] [b] pos) (m2 (qk true) fa fb >>= cB):=ft l5 pz ha hb hm
def cn (neg:Bool) (x y:D):Option D:=match flat x,flat y with
 | some v,some u => if kc v u = true then some (.bl (if neg then !decide (v = u) else decide (v = u))) else none
 | _,_ => none
theorem mD:oQ Fj (cn false):=fun c δ S σ T H x y v u d Q s e k => by
 unfold cn at e
 split at e
 ·rename_i w z e1 e2
  split at e
  ·rename_i hs
   cases e
   obtain ⟨rfl,_⟩:=c5 s.st.tail.head e1
   obtain ⟨rfl,_⟩:=c5 s.st.head e2
   exact ⟨hs,k _ _ (s.stk (.cons .mkB s.st.tail.tail))⟩
  ·cases e
 ·cases e
theorem rn:oQ Fw (cn true):=fun c δ S σ T H x y v u d Q s e k => by
 unfold cn at e
 split at e
 ·rename_i w z e1 e2
  split at e
  ·rename_i hs
   cases e
   obtain ⟨rfl,_⟩:=c5 s.st.tail.head e1
   obtain ⟨rfl,_⟩:=c5 s.st.head e2
   exact ⟨hs,k _ _ (s.stk (.cons .mkB s.st.tail.tail))⟩
  ·cases e
 ·cases e
theorem w6 (ha:DE X a fa) (hb:DE X b fb):DE X (.Compare a [.Eq] [b] pos) (m2 (cn false) fa fb):=kE uA mD ha hb
theorem fw (ha:DE X a fa) (hb:DE X b fb):DT X (.Compare a [.Eq] [b] pos) (m2 (cn false) fa fb >>= cB):=ft uA mD ha hb
theorem wB (ha:DE X a fa) (hb:DE X b fb):DT X (.Compare a [.NotEq] [b] pos) (m2 (cn true) fa fb >>= cB):=ft zT rn ha hb
end
end Jt
namespace Jt
open PySem L2
section
variable {X:Cx} {a b e:Expr} {fa fb:M D} {fs:M (List D)} {fF:M (List D)} {pos p apos cpos:Pos} {es rest:List Expr} {x:Str}
def jm:List D -> Option D
 | [.int i,.int j] => some (.int (if j < i then j else i))
 | _ => none
def oy:List D -> Option D
 | [.int i,.int j] => some (.int (if j > i then j else i))
 | _ => none
theorem Ax (g:Int -> Int -> Int) (f:List D -> Option D) (hf:∀ ds d,f ds = some d -> ∃ i j,ds = [.int i,.int j] ∧ d = .int (g i j)):jS (fun xs H Q => ∃ i j,xs = [.int i,.int j] ∧ Q (.int (g i j)) H) f:=fun c δ S σ T H ds vs d Q l s e k => by
 obtain ⟨i,j,rfl,rfl⟩:=hf _ _ e
 obtain ⟨v,u,rfl,r1,r2⟩:=EB (s.st.left l)
 cases r1.int
 cases r2.int
 exact ⟨i,j,rfl,k _ _ (s.stk (.cons .mkI (s.st.right l)))⟩
theorem sG (ds:List D) (d:D) (h:jm ds = some d):∃ i j,ds = [.int i,.int j] ∧ d = .int (if j < i then j else i):= by
 unfold jm at h
 split at h
 ·cases h; exact ⟨_,_,rfl,rfl⟩
 ·cases h
theorem r8 (ds:List D) (d:D) (h:oy ds = some d):∃ i j,ds = [.int i,.int j] ∧ d = .int (if j > i then j else i):= by
 unfold oy at h
 split at h
 ·cases h; exact ⟨_,_,rfl,rfl⟩
 ·cases h
theorem mY (hm:X.mg "min" = none) (ha:DA X [a,b] fs) (hg:Gl X "min":=by rfl) (hc:X.calm = true:=by rfl) (he:starEach [a,b] X.env = (false,eval a X.env) :: starEach [b] X.env:=by rfl) (hp:(backTo pos (starEach [b] X.env)).any (·.1) = false:=by rfl):DE X (.Call (.Name "min" p) [a,b] [] pos) (mC jm fs) :=
 gP (r_ hc) (Ax _ jm sG) hg hm (by decide +kernel) ha (by decide) (by decide) he hp
theorem uB (hm:X.mg "max" = none) (ha:DA X [a,b] fs) (hg:Gl X "max":=by rfl) (hc:X.calm = true:=by rfl) (he:starEach [a,b] X.env = (false,eval a X.env) :: starEach [b] X.env:=by rfl) (hp:(backTo pos (starEach [b] X.env)).any (·.1) = false:=by rfl):DE X (.Call (.Name "max" p) [a,b] [] pos) (mC oy fs) :=
 gP (tq hc) (Ax _ oy r8) hg hm (by decide +kernel) ha (by decide) (by decide) he hp
def EJ (fa fb:M D):M D:=do
 let v <- fa
 let t <- lift (cv v)
 if t = true then pure v else fb
theorem B5 (ha:DE X a fa) (hb:DE X (.BoolOp .Or (b :: rest) pos) fb):DE X (.BoolOp .Or (a :: b :: rest) pos) (EJ fa fb):=fun pins s σ H Q I ⟨c,δ,S,T,d,δ',sl,e,k⟩ => by
 obtain ⟨v,δ1,e1,e⟩:=bind_some e
 obtain ⟨t,δ2,e2,e⟩:=bind_some e
 obtain ⟨e3,rfl⟩:=aw e2
 refine PyProof.Rows.BoolOp_or (bj (ha pins s σ H (fun y H1 => Sl c δ1 (v :: S) σ (y :: T) H1) I ⟨c,δ,S,T,v,δ1,sl,e1,fun y H1 s1 => s1⟩) fun u s1 ⟨y,H1,I1,r1,q1⟩ => ?_)
 refine bj (u5 pins s1 σ H1 y u (fun k' H2 => k' = t ∧ H2 = H1) I1 r1 ⟨t,qq aF q1.st.head e3,rfl,rfl⟩) fun k' s2 ⟨H2,I2,ek,eH⟩ => ?_
 subst ek eH
 cases k' with
 | true =>
  rw [if_pos rfl] at e
  obtain ⟨rfl,rfl⟩:=ak e
  rw [if_pos rfl]
  exact ⟨y,H2,I2,r1,k _ _ q1⟩
 | false =>
  rw [if_neg Bool.false_ne_true] at e
  rw [if_neg Bool.false_ne_true]
  exact hb pins s2 σ H2 Q I2 ⟨c,δ1,S,T,d,δ',q1.pop,e,k⟩
def z_:D -> D -> Option D
 | .tup (x :: xs),.tup ys => if xs.length + 1 + ys.length ≤ 100000 then some (.tup ((x :: xs) ++ ys)) else none
 | _,_ => none
theorem vB {K:PySem.W.Frag}:oQ (wX K) z_:=fun c δ S σ T H x y v u d Q s e k => by
 unfold z_ at e
 split at e
 ·rename_i x xs ys
  split at e
  ·rename_i hn
   cases e
   obtain ⟨p,ws,rfl,h1,h3⟩:=s.st.tail.head.tup
   obtain ⟨q,zs,rfl,h4,h5⟩:=s.st.head.tup
   have hl:(100000:Nat) < sizeLine:=by rw [sizeLine_eq]; decide
   have l1:=h3.length
   have l2:=h5.length
   rw [List.length_cons] at l1
   refine ⟨p,q,ws,zs,rfl,rfl,.of (aF _ _ h1),.of (aF _ _ h4),fun z => (by rw [z] at l1; simp at l1),by omega,fun z => ?_,fun z r hr => ?_⟩
   ·rw [z] at h5
    cases ys with
    | nil =>
     rw [List.append_nil] at k
     exact k _ _ (s.stk (.cons s.st.tail.head s.st.tail.tail))
    | cons y ys => obtain ⟨_,_,e,_⟩:=h5.inv; cases e
   ·have s1:=s.stk ((h3.append h5).append s.st.tail.tail)
    exact k _ _ (s1.newTup (by rw [List.length_append,List.length_append,h5.length,h3.length]) hr)
  ·cases e
 ·cases e
def cf:Nat -> D -> D -> Option Bool
 | 0,_,_ => none
 | n + 1,.tup xs,.tup ys => (go n xs ys).map fun b => b && xs.length == ys.length
 | n + 1,.lst xs,.lst ys => if xs.length = ys.length then go n xs ys else some false
 | _ + 1,x,y => match flat x,flat y with
  | some v,some u => some (tQ v u)
  | _,_ => none
where
 go (n:Nat):List D -> List D -> Option Bool
  | x :: xs,y :: ys => match cf n x y,go n xs ys with
   | some a,some b => some (a && b)
   | _,_ => none
  | _,_ => some true
theorem rp:∀ {a b:List (Int × Int)},(a.map fun p => ((.inl p.1,.int p.2):Key × V)) = b.map (fun p => (.inl p.1,.int p.2)) -> a = b
 | [],[],_ => rfl
 | [],_ :: _,h => by cases h
 | _ :: _,[],h => by cases h
 | (x,y) :: a,(z,w) :: b,h => by
  simp only [List.map_cons,List.cons.injEq,Prod.mk.injEq,Sum.inl.injEq,V.int.injEq] at h
  rw [rp h.2,h.1.1,h.1.2]
theorem rj:∀ {a b:List ((Int × Int) × Int)},(a.map fun p => (([.inl p.1.1,.inl p.1.2],.int p.2):List Key × V)) = b.map (fun p => ([.inl p.1.1,.inl p.1.2],.int p.2)) -> a = b
 | [],[],_ => rfl
 | [],_ :: _,h => by cases h
 | _ :: _,[],h => by cases h
 | ((x,x'),y) :: a,((z,z'),w) :: b,h => by
  simp only [List.map_cons,List.cons.injEq,Prod.mk.injEq,Sum.inl.injEq,V.int.injEq,and_true] at h
  rw [rj h.2,h.1.1.1,h.1.1.2,h.1.2]
mutual
theorem R.inj {H:Hp}:∀ (x y:D) (v:V),R H x v -> R H y v -> x = y
 | .non,y,v,h,g => by
  cases h.non
  cases y with
  | non => rfl
  | bl b => cases g.bl
  | int b => cases g.int
  | str b => cases g.str
  | tup b => obtain ⟨_,_,e,_⟩:=g.tup; cases e
  | lst b => obtain ⟨_,_,e,_⟩:=g.lst; cases e
  | dct => obtain ⟨_,e,_⟩:=g.dct; cases e
  | dic _ => obtain ⟨_,e,_⟩:=g.dic; cases e
  | dip _ => obtain ⟨_,e,_⟩:=g.dip; cases e
 | .bl x,y,v,h,g => by
  cases h.bl
  cases y with
  | non => cases g.non
  | bl b => cases g.bl; rfl
  | int b => cases g.int
  | str b => cases g.str
  | tup b => obtain ⟨_,_,e,_⟩:=g.tup; cases e
  | lst b => obtain ⟨_,_,e,_⟩:=g.lst; cases e
  | dct => obtain ⟨_,e,_⟩:=g.dct; cases e
  | dic _ => obtain ⟨_,e,_⟩:=g.dic; cases e
  | dip _ => obtain ⟨_,e,_⟩:=g.dip; cases e
 | .int x,y,v,h,g => by
  cases h.int
  cases y with
  | non => cases g.non
  | bl b => cases g.bl
  | int b => cases g.int; rfl
  | str b => cases g.str
  | tup b => obtain ⟨_,_,e,_⟩:=g.tup; cases e
  | lst b => obtain ⟨_,_,e,_⟩:=g.lst; cases e
  | dct => obtain ⟨_,e,_⟩:=g.dct; cases e
  | dic _ => obtain ⟨_,e,_⟩:=g.dic; cases e
  | dip _ => obtain ⟨_,e,_⟩:=g.dip; cases e
 | .str x,y,v,h,g => by
  cases h.str
  cases y with
  | non => cases g.non
  | bl b => cases g.bl
  | int b => cases g.int
  | str b => cases g.str; rfl
  | tup b => obtain ⟨_,_,e,_⟩:=g.tup; cases e
  | lst b => obtain ⟨_,_,e,_⟩:=g.lst; cases e
  | dct => obtain ⟨_,e,_⟩:=g.dct; cases e
  | dic _ => obtain ⟨_,e,_⟩:=g.dic; cases e
  | dip _ => obtain ⟨_,e,_⟩:=g.dip; cases e
 | .tup xs,y,v,h,g => by
  obtain ⟨a,vs,rfl,h1,h2⟩:=h.tup
  cases y with
  | non => cases g.non
  | bl b => cases g.bl
  | int b => cases g.int
  | str b => cases g.str
  | tup ys =>
   obtain ⟨a',vs',e,g1,g2⟩:=g.tup
   cases e
   rw [h1] at g1; cases g1
   rw [Rs.inj xs ys vs h2 g2]
  | lst ys =>
   obtain ⟨a',vs',e,g1,g2⟩:=g.lst
   cases e
   rcases g1 with g1 | ⟨o,g1⟩ <;> (rw [h1] at g1; cases g1)
  | dct =>
   obtain ⟨a',e,g1⟩:=g.dct
   cases e
   rw [h1] at g1; cases g1
  | dic _ =>
   obtain ⟨a',e,g1⟩:=g.dic
   cases e
   rw [h1] at g1; cases g1
  | dip _ =>
   obtain ⟨a',e,g1⟩:=g.dip
   cases e
   rw [h1] at g1; cases g1
 | .lst xs,y,v,h,g => by
  obtain ⟨a,vs,rfl,h1,h2⟩:=h.lst
  cases y with
  | non => cases g.non
  | bl b => cases g.bl
  | int b => cases g.int
  | str b => cases g.str
  | tup ys =>
   obtain ⟨a',vs',e,g1,g2⟩:=g.tup
   cases e
   rcases h1 with h1 | ⟨o,h1⟩ <;> (rw [h1] at g1; cases g1)
  | lst ys =>
   obtain ⟨a',vs',e,g1,g2⟩:=g.lst
   cases e
   have:vs' = vs:= by
    rcases h1 with h1 | ⟨o,h1⟩ <;> rcases g1 with g1 | ⟨o',g1⟩ <;> (rw [h1] at g1; first | (cases g1; rfl) | cases g1)
   subst this
   rw [Rs.inj xs ys _ h2 g2]
  | dct =>
   obtain ⟨a',e,g1⟩:=g.dct
   cases e
   rcases h1 with h1 | ⟨o,h1⟩ <;> (rw [h1] at g1; cases g1)
  | dic _ =>
   obtain ⟨a',e,g1⟩:=g.dic
   cases e
   rcases h1 with h1 | ⟨o,h1⟩ <;> (rw [h1] at g1; cases g1)
  | dip _ =>
   obtain ⟨a',e,g1⟩:=g.dip
   cases e
   rcases h1 with h1 | ⟨o,h1⟩ <;> (rw [h1] at g1; cases g1)
 | .dct,y,v,h,g => by
  obtain ⟨a,rfl,h1⟩:=h.dct
  cases y with
  | non => cases g.non
  | bl b => cases g.bl
  | int b => cases g.int
  | str b => cases g.str
  | tup ys =>
   obtain ⟨a',vs',e,g1,g2⟩:=g.tup
   cases e
   rw [h1] at g1; cases g1
  | lst ys =>
   obtain ⟨a',vs',e,g1,g2⟩:=g.lst
   cases e
   rcases g1 with g1 | ⟨o,g1⟩ <;> (rw [h1] at g1; cases g1)
  | dct => rfl
  | dic _ =>
   obtain ⟨a',e,g1⟩:=g.dic
   cases e
   rw [h1] at g1; cases g1
  | dip _ =>
   obtain ⟨a',e,g1⟩:=g.dip
   cases e
   rw [h1] at g1; cases g1
 | .dic xs,y,v,h,g => by
  obtain ⟨a,rfl,h1⟩:=h.dic
  cases y with
  | non => cases g.non
  | bl b => cases g.bl
  | int b => cases g.int
  | str b => cases g.str
  | tup ys =>
   obtain ⟨a',vs',e,g1,g2⟩:=g.tup
   cases e
   rw [h1] at g1; cases g1
  | lst ys =>
   obtain ⟨a',vs',e,g1,g2⟩:=g.lst
   cases e
   rcases g1 with g1 | ⟨o,g1⟩ <;> (rw [h1] at g1; cases g1)
  | dct =>
   obtain ⟨a',e,g1⟩:=g.dct
   cases e
   rw [h1] at g1; cases g1
  | dic ys =>
   obtain ⟨a',e,g1⟩:=g.dic
   cases e
   rw [h1] at g1
   rw [rp (HO.dK.inj (Option.some.inj g1))]
  | dip ys =>
   obtain ⟨a',e,g1⟩:=g.dip
   cases e
   rw [h1] at g1; cases g1
 | .dip xs,y,v,h,g => by
  obtain ⟨a,rfl,h1⟩:=h.dip
  cases y with
  | non => cases g.non
  | bl b => cases g.bl
  | int b => cases g.int
  | str b => cases g.str
  | tup ys =>
   obtain ⟨a',vs',e,g1,g2⟩:=g.tup
   cases e
   rw [h1] at g1; cases g1
  | lst ys =>
   obtain ⟨a',vs',e,g1,g2⟩:=g.lst
   cases e
   rcases g1 with g1 | ⟨o,g1⟩ <;> (rw [h1] at g1; cases g1)
  | dct =>
   obtain ⟨a',e,g1⟩:=g.dct
   cases e
   rw [h1] at g1; cases g1
  | dic ys =>
   obtain ⟨a',e,g1⟩:=g.dic
   cases e
   rw [h1] at g1; cases g1
  | dip ys =>
   obtain ⟨a',e,g1⟩:=g.dip
   cases e
   rw [h1] at g1
   rw [rj (HO.dT.inj (Option.some.inj g1))]
theorem Rs.inj {H:Hp}:∀ (xs ys:List D) (vs:List V),Rs H xs vs -> Rs H ys vs -> xs = ys
 | [],ys,vs,h,g => by
  cases h.inv0
  cases ys with
  | nil => rfl
  | cons y ys => obtain ⟨_,_,e,_⟩:=g.inv; cases e
 | x :: xs,ys,vs,h,g => by
  obtain ⟨v,r,rfl,h1,h2⟩:=h.inv
  cases ys with
  | nil => cases g.inv0
  | cons y ys => rw [R.inj x y v h1 g.head,Rs.inj xs ys r h2 g.tail]
end
theorem iY {n:Nat}:∀ {xs ys:List D} {b:Bool},cf.go n xs ys = some b -> ∃ e:Nat -> Bool,(∀ (j:Nat) x y,xs[j]? = some x -> ys[j]? = some y -> cf n x y = some (e j)) ∧ b = (List.range (min xs.length ys.length)).all e
 | [],ys,b,h => by
  unfold cf.go at h
  cases h; exact ⟨fun _ => true,fun j x y h1 => by simp at h1,by simp⟩
 | x :: xs,[],b,h => by
  unfold cf.go at h
  cases h; exact ⟨fun _ => true,fun j x y h1 h2 => by simp at h2,by simp⟩
 | x :: xs,y :: ys,b,h => by
  unfold cf.go at h
  split at h
  ·rename_i b1 b2 e1 e2
   cases h
   obtain ⟨e,he,hb⟩:=iY e2
   refine ⟨fun j => match j with | 0 => b1 | j + 1 => e j,fun j x' y' h1 h2 => ?_,?_⟩
   ·cases j with
    | zero => cases h1; cases h2; exact e1
    | succ j => exact he j x' y' (by simpa using h1) (by simpa using h2)
   ·rw [List.length_cons,List.length_cons,Nat.add_min_add_right,List.range_succ_eq_map,List.all_cons,List.all_map,hb]; rfl
  ·cases h
theorem gW {v:V} (h:fQ v = true):tQ v v = true:= by
 cases v with
 | non => rfl
 | bl b => cases b <;> rfl
 | int i => exact beq_self_eq_true i
 | str x => exact beq_self_eq_true x
 | _ => cases h
theorem uj:∀ (n:Nat) (x:D) (b:Bool),cf n x x = some b -> b = true:= by
 intro n
 induction n with
 | zero => intro x b h; simp [cf] at h
 | succ n ih =>
  have go:∀ (xs:List D) (b:Bool),cf.go n xs xs = some b -> b = true:=fun xs b h => by
   obtain ⟨e,he,hb⟩:=iY h
   rw [Nat.min_self] at hb
   subst hb
   rw [List.all_eq_true]
   intro j hj
   have hj':=List.mem_range.mp hj
   exact ih _ _ (he j _ _ (List.getElem?_eq_getElem hj') (List.getElem?_eq_getElem hj'))
  intro x b h
  cases x with
  | tup xs =>
   unfold cf at h
   cases q:cf.go n xs xs with
   | none => rw [q] at h; cases h
   | some b' => rw [q] at h; cases h; rw [go xs b' q]; simp
  | lst xs => unfold cf at h; rw [if_pos rfl] at h; exact go xs b h
  | non => simp [cf,flat] at h; rw [<- h]; exact gW rfl
  | bl q => simp [cf,flat] at h; rw [<- h]; exact gW rfl
  | int q => simp [cf,flat] at h; rw [<- h]; exact gW rfl
  | str q => simp [cf,flat] at h; rw [<- h]; exact gW rfl
  | dct => simp [cf,flat] at h
  | dic _ => simp [cf,flat] at h
  | dip _ => simp [cf,flat] at h
open SeqAt in
theorem vH {pins:List (Addr × Obj)} {σ:St} {H Hh:Hp} {s:Shared} (I:Inv X pins σ H s) (m:∀ b o,Hh b = some o -> H b = some o):∀ (n:Nat) (A:Around),A.units + n < cLine -> ∀ (x y:D) (v w:V) (u z:Value) (b:Bool),R Hh x v -> R Hh y w -> RelV v u -> RelV w z -> cf n x y = some b ->
  EqAt A s u z b ∧ ((∃ xs,x = .tup xs ∨ x = .lst xs) -> RcAt A s u z b):= by
 intro n
 induction n with
 | zero => intro A _ x y v w u z b _ _ _ _ h; simp [cf] at h
 | succ n ih =>
  intro A hu x y v w u z b rx ry ru rz h
  have hu':A.units < cLine:=by omega
  have items:∀ {xs ys:List D} {vs ws:List V} {is js:List Value} {e:Nat -> Bool},Rs Hh xs vs -> Rs Hh ys ws -> Vals vs is -> Vals ws js -> (∀ (j:Nat) x y,xs[j]? = some x -> ys[j]? = some y -> cf n x y = some (e j)) ->
    ∀ j (h1:j < is.toArray.size) (h2:j < js.toArray.size),EqAt A.in1 s is.toArray[j] js.toArray[j] (e j):=fun {xs ys vs ws is js e} r1 r2 v1 v2 he j h1 h2 => by
   have l1:j < xs.length:=by rw [<- r1.length,v1.length]; simpa using h1
   have l2:j < ys.length:=by rw [<- r2.length,v2.length]; simpa using h2
   obtain ⟨v',e1,q1⟩:=r1.get (List.getElem?_eq_getElem l1)
   obtain ⟨w',e2,q2⟩:=r2.get (List.getElem?_eq_getElem l2)
   obtain ⟨u',e3,q3⟩:=v1.get e1
   obtain ⟨z',e4,q4⟩:=v2.get e2
   have:=(ih A.in1 (by show A.units + 1 + n < _; omega) _ _ v' w' u' z' (e j) q1 q2 q3 q4 (he j _ _ (List.getElem?_eq_getElem l1) (List.getElem?_eq_getElem l2))).1
   have a1:is.toArray[j] = u':= by
    have:=(List.getElem?_eq_some_iff.mp e3).2
    simpa using this
   have a2:js.toArray[j] = z':= by
    have:=(List.getElem?_eq_some_iff.mp e4).2
    simpa using this
   rw [a1,a2]; exact this
  have refs:∀ {l k:Addr},u = .ref l -> z = .ref k -> v = .ref l -> w = .ref k -> RcAt A s u z b -> EqAt A s u z b:=fun {l k} eu ez ev ew rc => by
   by_cases hlk:l = k
   ·subst hlk
    rw [ev] at rx; rw [ew] at ry
    have:=R.inj x y _ rx ry
    subst this
    rw [uj _ _ _ h,eu,ez]
    exact EqAt.same _
   ·rw [eu,ez] at rc ⊢; exact EqAt.of_refs hlk rc
  have flatCase:∀ {p q:V},flat x = some p -> flat y = some q -> b = tQ p q -> EqAt A s u z b:=fun {p q} e1 e2 eb => by
   obtain ⟨rfl,f1⟩:=c5 rx e1
   obtain ⟨rfl,f2⟩:=c5 ry e2
   rw [eb]; exact uO ru rz f1 f2
  have flatAll:(∀ xs,x ≠ .tup xs) -> (∀ xs,x ≠ .lst xs) -> ∀ p,flat x = some p -> EqAt A s u z b:=fun _ _ p e1 => by
   cases y with
   | tup ys => cases x <;> first | (simp [cf,flat] at h; done) | (cases e1; done)
   | lst ys => cases x <;> first | (simp [cf,flat] at h; done) | (cases e1; done)
   | dct => cases x <;> first | (simp [cf,flat] at h; done) | (cases e1; done)
   | dic _ => cases x <;> first | (simp [cf,flat] at h; done) | (cases e1; done)
   | dip _ => cases x <;> first | (simp [cf,flat] at h; done) | (cases e1; done)
   | non => exact flatCase e1 rfl (by cases x <;> first | (cases e1; simpa [cf,flat] using h.symm) | cases e1)
   | bl q => exact flatCase e1 rfl (by cases x <;> first | (cases e1; simpa [cf,flat] using h.symm) | cases e1)
   | int q => exact flatCase e1 rfl (by cases x <;> first | (cases e1; simpa [cf,flat] using h.symm) | cases e1)
   | str q => exact flatCase e1 rfl (by cases x <;> first | (cases e1; simpa [cf,flat] using h.symm) | cases e1)
  cases x with
  | dct => simp [cf,flat] at h
  | dic _ => simp [cf,flat] at h
  | dip _ => simp [cf,flat] at h
  | non => exact ⟨flatAll (fun _ z => nomatch z) (fun _ z => nomatch z) _ rfl,fun ⟨xs,z⟩ => by rcases z with z | z <;> cases z⟩
  | bl q => exact ⟨flatAll (fun _ z => nomatch z) (fun _ z => nomatch z) _ rfl,fun ⟨xs,z⟩ => by rcases z with z | z <;> cases z⟩
  | int q => exact ⟨flatAll (fun _ z => nomatch z) (fun _ z => nomatch z) _ rfl,fun ⟨xs,z⟩ => by rcases z with z | z <;> cases z⟩
  | str q => exact ⟨flatAll (fun _ z => nomatch z) (fun _ z => nomatch z) _ rfl,fun ⟨xs,z⟩ => by rcases z with z | z <;> cases z⟩
  | tup xs =>
   cases y with
   | tup ys =>
    obtain ⟨l,vs,rfl,h1,h2⟩:=rx.tup
    obtain ⟨k,ws,rfl,g1,g2⟩:=ry.tup
    cases ru; cases rz
    obtain ⟨is,v1,p1,_⟩:=I.tuple (.of (m _ _ h1))
    obtain ⟨js,v2,p2,_⟩:=I.tuple (.of (m _ _ g1))
    have s1:is.toArray.size = xs.length:=by rw [List.size_toArray,<- v1.length,h2.length]
    have s2:js.toArray.size = ys.length:=by rw [List.size_toArray,<- v2.length,g2.length]
    have rc:RcAt A s (.ref l) (.ref k) b:= by
     unfold cf at h
     cases q:cf.go n xs ys with
     | none => rw [q] at h; cases h
     | some b' =>
      rw [q] at h; cases h
      obtain ⟨e,he,hb⟩:=iY q
      have:=RcAt.tuples p1 p2 hu' (items h2 g2 v1 v2 he)
      rw [s1,s2,<- hb] at this
      exact this
    exact ⟨refs rfl rfl rfl rfl rc,fun _ => rc⟩
   | _ => simp [cf,flat] at h
  | lst xs =>
   cases y with
   | lst ys =>
    obtain ⟨l,vs,rfl,h1,h2⟩:=rx.lst
    obtain ⟨k,ws,rfl,g1,g2⟩:=ry.lst
    cases ru; cases rz
    obtain ⟨is,v1,p1,_⟩:=I.list (.inl (Rd.mono m h1))
    obtain ⟨js,v2,p2,_⟩:=I.list (.inl (Rd.mono m g1))
    have s1:is.toArray.size = xs.length:=by rw [List.size_toArray,<- v1.length,h2.length]
    have s2:js.toArray.size = ys.length:=by rw [List.size_toArray,<- v2.length,g2.length]
    have rc:RcAt A s (.ref l) (.ref k) b:= by
     unfold cf at h
     split at h
     ·rename_i hl
      obtain ⟨e,he,hb⟩:=iY h
      have:=RcAt.lists p1.isList p2.isList (by rw [s1,s2,hl]) hu' (items h2 g2 v1 v2 he)
      rw [hb,<- hl,Nat.min_self,<- s1]; exact this
     ·rename_i hl
      cases h
      exact RcAt.lists_lengths p1.isList p2.isList (by rw [s1,s2]; simpa using hl) hu'
    exact ⟨refs rfl rfl rfl rfl rc,fun _ => rc⟩
   | _ => simp [cf,flat] at h
theorem gH {k:Nat} {A:Around} (hr:b6 k A):A.units + 20 < cLine:=by have:=hr.un; omega
def g8:D -> D -> Bool
 | .tup _,.tup _ => true
 | .lst _,.lst _ => true
 | _,_ => false
def dP (neg:Bool) (x y:D):Option D:=if g8 x y = true then (cf 9 x y).map fun b => .bl (if neg then !b else b) else cn neg x y
def En:R2:=fun v u H Q => Fj v u H Q ∨ ∃ (Hh:Hp) (x y:D) (b:Bool),(∀ b o,Hh b = some o -> H b = some o) ∧ R Hh x v ∧ R Hh y u ∧ g8 x y = true ∧ cf 9 x y = some b ∧ Q (.bl b) H
theorem uY (hu:X.A.units + 20 < cLine):f9 X (compareOp .Eq) En:= by
 intro pins s σ H v w u z Q I ru rz h
 rcases h with h | ⟨Hh,x,y,b,m,rx,ry,hs,e,q⟩
 ·exact uA pins s σ H v w u z Q I ru rz h
 ·have:=(vH I m 9 X.A (by omega) x y v w u z b rx ry ru rz e).2 (by
   cases x <;> first | exact ⟨_,.inl rfl⟩ | exact ⟨_,.inr rfl⟩ | (simp [g8] at hs))
  exact this _ _ _ _ ⟨.bl b,H,I,rfl,q⟩
theorem rl:oQ En (dP false):=fun c δ S σ T H x y v u d Q s e k => by
 unfold dP at e
 split at e
 ·rename_i hs
  cases q:cf 9 x y with
  | none => rw [q] at e; cases e
  | some b =>
   rw [q] at e; cases e
   exact .inr ⟨_,x,y,b,aF,s.st.tail.head,s.st.head,hs,q,k _ _ (s.stk (.cons .mkB s.st.tail.tail))⟩
 ·exact .inl (mD c δ S σ T H x y v u d Q s e k)
theorem q_ {k:Nat} (hr:b6 k X.A) (ha:DE X a fa) (hb:DE X b fb):DE X (.Compare a [.Eq] [b] pos) (m2 (dP false) fa fb):=kE (uY (gH hr)) rl ha hb
theorem rB {k:Nat} (hr:b6 k X.A) (ha:DE X a fa) (hb:DE X b fb):DT X (.Compare a [.Eq] [b] pos) (m2 (dP false) fa fb >>= cB):=ft (uY (gH hr)) rl ha hb
end
end Jt
namespace Jt
open PySem L2
section
variable {X:Cx} {a b e:Expr} {fa fb:M D} {fs:M (List D)} {pos p apos cpos:Pos} {es rest:List Expr} {x:Str}
open SeqAt in
theorem Cu {pins:List (Addr × Obj)} {σ:St} {H Hh:Hp} {s:Shared} (I:Inv X pins σ H s) (m:∀ b o,Hh b = some o -> H b = some o) {n:Nat} {A:Around} (hu:A.units + (n + 1) < cLine) {x y:D} {v w:V} {u z:Value} {b:Bool} (rx:R Hh x v) (ry:R Hh y w) (ru:RelV v u) (rz:RelV w z)
  (hs:g8 x y = true) (h:cf (n + 1) x y = some b):RcNeAt A s u z (!b):= by
 have hu':A.units < cLine:=by omega
 have items:∀ {xs ys:List D} {vs ws:List V} {is js:List Value} {e:Nat -> Bool},Rs Hh xs vs -> Rs Hh ys ws -> Vals vs is -> Vals ws js -> (∀ (j:Nat) x y,xs[j]? = some x -> ys[j]? = some y -> cf n x y = some (e j)) ->
   ∀ j (h1:j < is.toArray.size) (h2:j < js.toArray.size),EqAt A.in1 s is.toArray[j] js.toArray[j] (e j):=fun {xs ys vs ws is js e} r1 r2 v1 v2 he j h1 h2 => by
  have l1:j < xs.length:=by rw [<- r1.length,v1.length]; simpa using h1
  have l2:j < ys.length:=by rw [<- r2.length,v2.length]; simpa using h2
  obtain ⟨v',e1,q1⟩:=r1.get (List.getElem?_eq_getElem l1)
  obtain ⟨w',e2,q2⟩:=r2.get (List.getElem?_eq_getElem l2)
  obtain ⟨u',e3,q3⟩:=v1.get e1
  obtain ⟨z',e4,q4⟩:=v2.get e2
  have:=(vH I m n A.in1 (by show A.units + 1 + n < _; omega) _ _ v' w' u' z' (e j) q1 q2 q3 q4 (he j _ _ (List.getElem?_eq_getElem l1) (List.getElem?_eq_getElem l2))).1
  have a1:is.toArray[j] = u':= by
   have:=(List.getElem?_eq_some_iff.mp e3).2
   simpa using this
  have a2:js.toArray[j] = z':= by
   have:=(List.getElem?_eq_some_iff.mp e4).2
   simpa using this
  rw [a1,a2]; exact this
 cases x with
 | tup xs =>
  cases y with
  | tup ys =>
   obtain ⟨l,vs,rfl,h1,h2⟩:=rx.tup
   obtain ⟨k,ws,rfl,g1,g2⟩:=ry.tup
   cases ru; cases rz
   obtain ⟨is,v1,p1,_⟩:=I.tuple (.of (m _ _ h1))
   obtain ⟨js,v2,p2,_⟩:=I.tuple (.of (m _ _ g1))
   have s1:is.toArray.size = xs.length:=by rw [List.size_toArray,<- v1.length,h2.length]
   have s2:js.toArray.size = ys.length:=by rw [List.size_toArray,<- v2.length,g2.length]
   unfold cf at h
   cases q:cf.go n xs ys with
   | none => rw [q] at h; cases h
   | some b' =>
    rw [q] at h; cases h
    obtain ⟨e,he,hb⟩:=iY q
    have:=RcNeAt.tuples p1 p2 hu' (items h2 g2 v1 v2 he)
    rw [s1,s2,<- hb] at this
    exact this
  | _ => simp [g8] at hs
 | lst xs =>
  cases y with
  | lst ys =>
   obtain ⟨l,vs,rfl,h1,h2⟩:=rx.lst
   obtain ⟨k,ws,rfl,g1,g2⟩:=ry.lst
   cases ru; cases rz
   obtain ⟨is,v1,p1,_⟩:=I.list (.inl (Rd.mono m h1))
   obtain ⟨js,v2,p2,_⟩:=I.list (.inl (Rd.mono m g1))
   have s1:is.toArray.size = xs.length:=by rw [List.size_toArray,<- v1.length,h2.length]
   have s2:js.toArray.size = ys.length:=by rw [List.size_toArray,<- v2.length,g2.length]
   unfold cf at h
   split at h
   ·rename_i hl
    obtain ⟨e,he,hb⟩:=iY h
    have:=RcNeAt.lists p1.isList p2.isList (by rw [s1,s2,hl]) hu' (items h2 g2 v1 v2 he)
    rw [hb,<- hl,Nat.min_self,<- s1]; exact this
   ·rename_i hl
    cases h
    exact RcNeAt.lists_lengths p1.isList p2.isList (by rw [s1,s2]; simpa using hl) hu'
  | _ => simp [g8] at hs
 | _ => simp [g8] at hs
def D6:R2:=fun v u H Q => Fw v u H Q ∨ ∃ (Hh:Hp) (x y:D) (b:Bool),(∀ b o,Hh b = some o -> H b = some o) ∧ R Hh x v ∧ R Hh y u ∧ g8 x y = true ∧ cf 9 x y = some b ∧ Q (.bl (!b)) H
theorem qd (hu:X.A.units + 20 < cLine):f9 X (compareOp .NotEq) D6:= by
 intro pins s σ H v w u z Q I ru rz h
 rcases h with h | ⟨Hh,x,y,b,m,rx,ry,hs,e,q⟩
 ·exact zT pins s σ H v w u z Q I ru rz h
 ·exact Cu I m (n:=8) (A:=X.A) (by omega) rx ry ru rz hs e _ _ _ _ ⟨.bl (!b),H,I,rfl,q⟩
theorem zg:oQ D6 (dP true):=fun c δ S σ T H x y v u d Q s e k => by
 unfold dP at e
 split at e
 ·rename_i hs
  cases q:cf 9 x y with
  | none => rw [q] at e; cases e
  | some b =>
   rw [q] at e; cases e
   exact .inr ⟨_,x,y,b,aF,s.st.tail.head,s.st.head,hs,q,k _ _ (s.stk (.cons .mkB s.st.tail.tail))⟩
 ·exact .inl (rn c δ S σ T H x y v u d Q s e k)
theorem gm {k:Nat} (hr:b6 k X.A) (ha:DE X a fa) (hb:DE X b fb):DT X (.Compare a [.NotEq] [b] pos) (m2 (dP true) fa fb >>= cB):=ft (qd (gH hr)) zg ha hb
def DV (ta:TA):TE:=fun σ H Q => ta σ H fun vs H1 => ∃ j:Int,vs = [.int j] ∧ ∀ q,H1 q = none -> Q (.ref q) (upd H1 q (.rng 0 j))
theorem tw {ta:TA} (hg:Gl X "range") (hm:X.mg "range" = none) (ha:PA X [a] ta) (hs:starEach [a] X.env = [(false,eval a X.env)]:=by rfl):PE X (.Call (.Name "range" p) [a] [] pos) (DV ta):= by
 intro pins s σ H Q I h
 refine PyProof.Rows.Call_ (fL I hg hm (show bootBuiltins "range" = some (.type "range") by decide +kernel) (PyProof.Rows.callWith_type1 (bj (ha pos pins s σ H _ I h) fun us s1 ⟨vs,H1,I1,r1,q1⟩ => ?_) hs rfl))
 obtain ⟨j,e,q⟩:=q1
 subst e
 cases r1 with
 | cons r rr =>
  cases rr
  obtain ⟨t,rfl⟩:=r
  refine call_range_1 ⟨.ref s1.heap.objs.size,upd H1 s1.heap.objs.size (.rng 0 j),I1.laid (fun b u e => Heap.get?_push_of_some _ e) (Nat.le_refl _) ?_,rfl,q _ I1.fresh⟩
  exact ⟨_,_,_,Heap.get?_push_size _ rfl⟩
theorem j7 {lo:Int} {n:Nat} {acc:Array Value} (h:ItemsOf (fun i v => ∃ t,v = .int (lo + i * 1) t) acc n):Vals ((List.range n).map fun (i:Nat) => V.int (lo + (i:Int))) acc.toList:= by
 obtain ⟨hn,hi⟩:=h
 have gen:∀ (us:List Value) (k:Nat),(∀ (j:Nat) v,us[j]? = some v -> ∃ t,v = .int (lo + ((k + j:Nat):Int)) t) -> Vals ((List.range us.length).map fun (i:Nat) => V.int (lo + ((k + i:Nat):Int))) us:= by
  intro us
  induction us with
  | nil => intro k _; exact .nil
  | cons u us ih =>
   intro k hk
   rw [List.length_cons,List.range_succ_eq_map,List.map_cons,List.map_map]
   obtain ⟨t,e⟩:=hk 0 u rfl
   refine .cons ⟨t,by simpa using e⟩ ?_
   have:=ih (k + 1) fun j v hj => by
    obtain ⟨t,e⟩:=hk (j + 1) v (by simpa using hj)
    exact ⟨t,by rw [e]; congr 2; omega⟩
   have e2:((fun (i:Nat) => V.int (lo + ((k + i:Nat):Int))) ∘ Nat.succ) = fun (i:Nat) => V.int (lo + ((k + 1 + i:Nat):Int)):= by
    funext i; show V.int _ = V.int _; congr 2; omega
   rw [e2]; exact this
 have:=gen acc.toList 0 fun j v hj => by
  obtain ⟨t,e⟩:=hi j v (by simpa using hj)
  exact ⟨t,by rw [e]; simp⟩
 simpa [hn] using this
theorem oW (hc:X.calm = true):cQ X (.type "list") (fun xs H Q => ∃ q j,xs = [.ref q] ∧ H q = some (.rng 0 j) ∧ j < 100000 ∧ -(2 ^ 62) ≤ j ∧ ∀ l,H l = none -> Q (.ref l) (upd H l (.lst ((List.range j.toNat).map fun (i:Nat) => V.int (0 + (i:Int)))))):= by
 intro pins s σ H xs us Q I r h
 obtain ⟨q,j,rfl,hq,hj,hj2,k⟩:=h
 obtain ⟨u,rfl,rx⟩:=r.one
 cases rx
 obtain ⟨t,u',v,hr⟩:=I.hok q _ hq
 refine call_list_range (n:=j.toNat) (I.ok.hd hc) hr (small_one (by omega) (by omega) hj2 (by omega)) (by rw [rangeSize_one]; split <;> omega) (by omega) fun h' tk acc' c' kp e hi => ?_
 refine ⟨.ref s.heap.objs.size,_,I.laid (t':=tk) kp (Nat.le_refl _) (show bX X.prog X.w _ h' _ (.lst _) from ⟨?_,acc'.toList,c',j7 hi,by simpa using e⟩),rfl,k _ I.fresh⟩
 have:(100000:Nat) < sizeLine:=by rw [sizeLine_eq]; decide
 simp; omega
def kO:List D -> Option (List D)
 | [.int j] => if j < 100000 ∧ -(2 ^ 62) ≤ j then some (bC 0 j.toNat) else none
 | _ => none
theorem mM {H:Hp} {lo:Int} {n:Nat}:Rs H (bC lo n) ((List.range n).map fun (i:Nat) => V.int (lo + (i:Int))):= by
 unfold bC
 induction (List.range n) with
 | nil => exact .nil
 | cons i r ih => exact .cons .mkI ih
theorem ik {p2 pos2:Pos} (hml:X.mg "list" = none) (hmr:X.mg "range" = none) (ha:DA X [a] fs) (hgl:Gl X "list":=by rfl) (hgr:Gl X "range":=by rfl) (hc:X.calm = true:=by rfl) (hs:starEach [a] X.env = [(false,eval a X.env)]:=by rfl) :
  DF X (.Call (.Name "list" p) [.Call (.Name "range" p2) [a] [] pos2] [] pos) (mC kO fs) :=
 b8 (d9 (oW hc) hgl hml (by decide +kernel) (cG (tw hgr hmr ha hs) eZ) (by decide) (by decide) rfl rfl) fun σ H Q ⟨c,δ,S,T,d,δ',s,e,k⟩ => by
  obtain ⟨ds,δ1,e1,e⟩:=bind_some e
  obtain ⟨e2,rfl⟩:=aw e
  refine ⟨c,δ,S,T,ds,δ1,s,e1,fun vs H1 l s1 => ?_⟩
  unfold kO at e2
  split at e2
  ·rename_i j
   split at e2
   ·rename_i hj
    cases e2
    obtain ⟨v,rfl,r⟩:=tH (s1.st.left l)
    cases r.int
    refine ⟨j,rfl,fun q hq => ⟨q,j,rfl,aA,hj.1,hj.2,fun m hm => ?_⟩⟩
    have s2:=(s1.drop l).grow (d4 hq (.rng 0 j))
    obtain ⟨f1,f2,f3⟩:=s2.fresh hm
    refine k m _ _ (mM (H:=H)).length ((s2.hide hm).stk ?_) f1 f2 f3
    exact mM.append (s2.hide hm).st
   ·cases e2
  ·cases e2
end
end Jt
namespace Jt
open PySem L2
section
variable {prog:Program} {w:World} {A:Around} {E:Value -> Shared -> Prop} {s:Shared}
end
section
variable {X:Cx} {a b e:Expr} {fa fb:M D} {fs:M (List D)} {pos p apos cpos:Pos}
end
end Jt
namespace Jt
open PySem L2
section
variable {X:Cx} {a b e:Expr} {fa fb:M D} {fs:M (List D)} {pos p apos cpos:Pos}
inductive Ty where
 | int | bool | tup | lst | str
def Ty.name:Ty -> String
 | .int => "int"
 | .bool => "bool"
 | .tup => "tuple"
 | .lst => "list"
 | .str => "str"
def jq:Ty -> D -> Option Bool
 | .int,.int _ => some true
 | .int,.bl _ => some true
 | .bool,.bl _ => some true
 | .tup,.tup _ => some true
 | .lst,.lst _ => some true
 | .str,.str _ => some true
 | _,_ => some false
theorem dictAt {pins:List (Addr × Obj)} {σ:St} {H:Hp} {s:Shared} {a:Addr} (I:Inv X pins σ H s) (h:H a = some (vq a)):∃ o,s.heap.get? a = some o ∧ o.cls = .type "dict":= by
 obtain ⟨⟨_,o,_,h1,h2,_⟩,_⟩:=I.hok a _ h
 exact ⟨o,h1,h2⟩
theorem DJ {pins:List (Addr × Obj)} {σ:St} {H:Hp} {s:Shared} {a:Addr} {kvs:List (Int × Int)} (I:Inv X pins σ H s) (h:H a = some (gU kvs)):∃ o,s.heap.get? a = some o ∧ o.cls = .type "dict":= by
 obtain ⟨_,_,vs,_,o,_,_,h1,h2,_⟩:=(show bX X.prog X.w H s.heap a (gU kvs) from I.hok a _ h)
 exact ⟨o,h1,h2.1⟩
theorem Dv {pins:List (Addr × Obj)} {σ:St} {H:Hp} {s:Shared} {a:Addr} {kvs:List ((Int × Int) × Int)} (I:Inv X pins σ H s) (h:H a = some (yu kvs)):∃ o,s.heap.get? a = some o ∧ o.cls = .type "dict":= by
 obtain ⟨_,_,xs,_,o,_,_,h1,h2,_⟩:=(show bX X.prog X.w H s.heap a (yu kvs) from I.hok a _ h)
 exact ⟨o,h1,h2.1⟩
theorem uo:cQ X (.builtin "isinstance") (fun xs H Q => ∃ (Hh:Hp) (d:D) (v:V) (T:Ty) (k:Bool),xs = [v,.ty T.name] ∧ (∀ b o,Hh b = some o -> H b = some o) ∧ R Hh d v ∧ jq T d = some k ∧ Q (.bl k) H):= by
 intro pins s σ H xs us Q I r h
 obtain ⟨Hh,d,v,T,k,rfl,m,rd,ek,q⟩:=h
 obtain ⟨u,z,rfl,ru,rz⟩:=r.two
 cases rz
 have fin:∀ tk,EP X pins σ Q (.bool k) { s with toks:=tk }:=fun tk => ⟨.bl k,H,I.tok _,rfl,q⟩
 have fin0:EP X pins σ Q (.bool k) s:=⟨.bl k,H,I,rfl,q⟩
 cases d with
 | non =>
  cases rd.non
  cases ru
  cases T <;> cases ek
  ·exact IsiPair.NoneType_int (fin _)
  ·exact IsiPair.NoneType_bool (fin _)
  ·exact IsiPair.NoneType_tuple (fin _)
  ·exact IsiPair.NoneType_list (fin _)
  ·exact IsiPair.NoneType_str (fin _)
 | int i =>
  cases rd.int
  obtain ⟨t,rfl⟩:=ru
  cases T <;> cases ek
  ·exact IsiPair.int_int fin0
  ·exact IsiPair.int_bool (fin _)
  ·exact IsiPair.int_tuple (fin _)
  ·exact IsiPair.int_list (fin _)
  ·exact IsiPair.int_str (fin _)
 | bl i =>
  cases rd.bl
  cases ru
  cases T <;> cases ek
  ·exact IsiPair.bool_int fin0
  ·exact IsiPair.bool_bool fin0
  ·exact IsiPair.bool_tuple (fin _)
  ·exact IsiPair.bool_list (fin _)
  ·exact IsiPair.bool_str (fin _)
 | str i =>
  cases rd.str
  obtain ⟨t,rfl⟩:=ru
  cases T <;> cases ek
  ·exact IsiPair.str_int (fin _)
  ·exact IsiPair.str_bool (fin _)
  ·exact IsiPair.str_tuple (fin _)
  ·exact IsiPair.str_list (fin _)
  ·exact IsiPair.str_str fin0
 | tup ds =>
  obtain ⟨q',vs,rfl,h1,h2⟩:=rd.tup
  cases ru
  obtain ⟨its,_,⟨o,ho,hc,_⟩,_⟩:=I.tuple (.of (m _ _ h1))
  cases T <;> cases ek
  ·exact IsiPair.tuple_int ho hc (fin _)
  ·exact IsiPair.tuple_bool ho hc (fin _)
  ·exact IsiPair.tuple_tuple ho hc fin0
  ·exact IsiPair.tuple_list ho hc (fin _)
  ·exact IsiPair.tuple_str ho hc (fin _)
 | lst ds =>
  obtain ⟨q',vs,rfl,h1,h2⟩:=rd.lst
  cases ru
  obtain ⟨its,_,pl,_⟩:=I.list (.inl (Rd.mono m h1))
  obtain ⟨o,ho,hc,_⟩:=pl.isList
  cases T <;> cases ek
  ·exact IsiPair.list_int ho hc (fin _)
  ·exact IsiPair.list_bool ho hc (fin _)
  ·exact IsiPair.list_tuple ho hc (fin _)
  ·exact IsiPair.list_list ho hc fin0
  ·exact IsiPair.list_str ho hc (fin _)
 | dct =>
  obtain ⟨q',rfl,h1⟩:=rd.dct
  cases ru
  obtain ⟨o,ho,hc⟩:=dictAt I (m _ _ h1)
  cases T <;> cases ek
  ·exact IsiPair.dict_int ho hc (fin _)
  ·exact IsiPair.dict_bool ho hc (fin _)
  ·exact IsiPair.dict_tuple ho hc (fin _)
  ·exact IsiPair.dict_list ho hc (fin _)
  ·exact IsiPair.dict_str ho hc (fin _)
 | dic kvs =>
  obtain ⟨q',rfl,h1⟩:=rd.dic
  cases ru
  obtain ⟨o,ho,hc⟩:=DJ I (m _ _ h1)
  cases T <;> cases ek
  ·exact IsiPair.dict_int ho hc (fin _)
  ·exact IsiPair.dict_bool ho hc (fin _)
  ·exact IsiPair.dict_tuple ho hc (fin _)
  ·exact IsiPair.dict_list ho hc (fin _)
  ·exact IsiPair.dict_str ho hc (fin _)
 | dip kvs =>
  obtain ⟨q',rfl,h1⟩:=rd.dip
  cases ru
  obtain ⟨o,ho,hc⟩:=Dv I (m _ _ h1)
  cases T <;> cases ek
  ·exact IsiPair.dict_int ho hc (fin _)
  ·exact IsiPair.dict_bool ho hc (fin _)
  ·exact IsiPair.dict_tuple ho hc (fin _)
  ·exact IsiPair.dict_list ho hc (fin _)
  ·exact IsiPair.dict_str ho hc (fin _)
def mN (T:Ty) (fa:M D):M D:=do
 let d <- fa
 let k <- lift (jq T d)
 pure (.bl k)
theorem Ec (T:Ty) {y:Str} {py:Pos} (hg:Gl X y) (hm:X.mg y = none) (hv:bootBuiltins y = some (.type T.name)) (hn:y ≠ "__name__":=by decide) (hd:(y == ("__debug__":Str)) = false:=by decide):PE X (.Name y py) (tC (.ty T.name)):=xW hg hm hv rfl hn hd
theorem kB (T:Ty) {y:Str} {py:Pos} (hmi:X.mg "isinstance" = none) (hmy:X.mg y = none) (ha:DE X a fa) (hv:bootBuiltins y = some (.type T.name):=by decide +kernel) (hgi:Gl X "isinstance":=by rfl) (hgy:Gl X y:=by rfl) (hn:y ≠ "__name__":=by decide) (hd:(y == ("__debug__":Str)) = false:=by decide)
  (he:starEach [a,.Name y py] X.env = (false,eval a X.env) :: starEach [.Name y py] X.env:=by rfl):DE X (.Call (.Name "isinstance" p) [a,.Name y py] [] pos) (mN T fa) :=
 b8 (eC uo hgi hmi (by decide +kernel) (cG ha (cG (Ec T hgy hmy hv hn hd) eZ) he) (by decide) (by decide) he rfl) fun σ H Q ⟨c,δ,S,TT,d,δ',s,e,k⟩ => by
  obtain ⟨x,δ1,e1,e⟩:=bind_some e
  obtain ⟨b,δ2,e2,e⟩:=bind_some e
  obtain ⟨e3,rfl⟩:=aw e2
  obtain ⟨rfl,rfl⟩:=ak e
  exact ⟨c,δ,S,TT,x,δ1,s,e1,fun v H1 s1 => ⟨_,x,v,T,b,rfl,aF,s1.st.head,e3,k _ _ (s1.stk (.cons .mkB s1.st.tail))⟩⟩
end
end Jt
namespace Jt
open PySem L2
def sd (x:Int):List Int -> List Int
 | [] => [x]
 | y :: r => if x ≤ y then x :: y :: r else y :: sd x r
def bA:List Int -> List Int
 | [] => []
 | x :: r => sd x (bA r)
theorem iW (x:Int):∀ l,(sd x l).Perm (x :: l)
 | [] => List.Perm.refl _
 | y :: r => by
  unfold sd
  split
  ·exact List.Perm.refl _
  ·exact ((iW x r).cons y).trans (List.Perm.swap _ _ _)
theorem cW:∀ l,(bA l).Perm l
 | [] => List.Perm.refl _
 | x :: r => (iW x _).trans ((cW r).cons x)
theorem qK (x:Int):∀ l:List Int,l.Pairwise (· ≤ ·) -> (sd x l).Pairwise (· ≤ ·)
 | [],_ => List.pairwise_singleton _ _
 | y :: r,h => by
  obtain ⟨h1,h2⟩:=List.pairwise_cons.mp h
  unfold sd
  split
  ·rename_i hx
   refine List.pairwise_cons.mpr ⟨fun z hz => ?_,h⟩
   rcases List.mem_cons.mp hz with e | hz
   ·rw [e]; exact hx
   ·exact Int.le_trans hx (h1 z hz)
  ·rename_i hx
   refine List.pairwise_cons.mpr ⟨fun z hz => ?_,qK x r h2⟩
   rcases List.mem_cons.mp ((iW x r).mem_iff.mp hz) with e | hz
   ·rw [e]; omega
   ·exact h1 z hz
theorem kf:∀ l,(bA l).Pairwise (· ≤ ·)
 | [] => List.Pairwise.nil
 | x :: r => qK x _ (kf r)
theorem iz:∀ {a b:List Int},a.Perm b -> a.Pairwise (· ≤ ·) -> b.Pairwise (· ≤ ·) -> a = b
 | [],b,p,_,_ => (List.nil_perm.mp p).symm
 | x :: a,[],p,_,_ => absurd p (by simp)
 | x :: a,y :: b,p,ha,hb => by
  obtain ⟨a1,a2⟩:=List.pairwise_cons.mp ha
  obtain ⟨b1,b2⟩:=List.pairwise_cons.mp hb
  have e:x = y:= by
   have hx:x ∈ y :: b:=p.mem_iff.mp List.mem_cons_self
   have hy:y ∈ x :: a:=p.mem_iff.mpr List.mem_cons_self
   rcases List.mem_cons.mp hx with e | hx
   ·exact e
   ·rcases List.mem_cons.mp hy with e | hy
    ·exact e.symm
    ·exact Int.le_antisymm (a1 y hy) (b1 x hx)
  subst e
  rw [iz ((List.perm_cons x).mp p) a2 b2]
theorem fK {a b:List Int} (p:a.Perm b) (h:a.Pairwise (· ≤ ·)):a = bA b:=iz (p.trans (cW b).symm) h (kf b)
def fM:List Int -> List Int
 | [] => []
 | x :: r => if x ∈ fM r then fM r else x :: fM r
theorem cN {z:Int}:∀ {l:List Int},z ∈ fM l ↔ z ∈ l
 | [] => Iff.rfl
 | x :: r => by
  unfold fM
  split
  ·rename_i h
   rw [cN,List.mem_cons]
   exact ⟨.inr,fun q => q.elim (fun e => e ▸ cN.mp h) id⟩
  ·rw [List.mem_cons,List.mem_cons,cN]
theorem cV:∀ (l:List Int),(fM l).Nodup
 | [] => List.nodup_nil
 | x :: r => by
  unfold fM
  split
  ·exact cV r
  ·rename_i h; exact List.nodup_cons.mpr ⟨h,cV r⟩
theorem o8 (l:List Int):(fM l).length ≤ l.length:= by
 induction l with
 | nil => exact Nat.le_refl _
 | cons x r ih => unfold fM; split <;> simp <;> omega
theorem wY {a b:List Int} (nd:a.Nodup) (h:∀ z,z ∈ a ↔ z ∈ b):a.Perm (fM b):= by
 refine (List.perm_ext_iff_of_nodup nd (cV b)).mpr fun z => ?_
 rw [h z,cN]
inductive Gb (K:PySem.W.Frag) (f:M (List D)) (σ:St) (H:Hp) (Q:VK):Prop
 | mk (c:Ct) (δ:DS) (S:List D) (T:List V) (xs:List D) (δ':DS) (s:Sl c δ S σ T H) (e:f δ = some (xs,δ')) (q:∀ p vs H',vs.length = xs.length -> (fI K H' p vs ∨ gp K H' p vs) -> Sl c δ' (xs ++ S) σ (vs ++ T) H' -> Q (.ref p) H'):Gb K f σ H Q
abbrev DQ (X:Cx) (e:Expr) (f:M (List D)):Prop:=PE X e (Gb X.K f)
section
variable {X:Cx} {a b e:Expr} {fa fb:M D} {fs fF fq:M (List D)} {pos p apos cpos:Pos} {es rest:List Expr} {x:Str}
theorem k7 (h:DE X e fa):DQ X e (do let x <- fa; lift (b5 x)):=b8 h fun σ H Q ⟨c,δ,S,T,xs,δ',s,e,k⟩ => by
 obtain ⟨d,δ1,e1,e⟩:=bind_some e
 obtain ⟨e2,rfl⟩:=aw e
 refine ⟨c,δ,S,T,d,δ1,s,e1,fun v H' s' => ?_⟩
 cases d with
 | tup ds =>
  cases e2
  obtain ⟨q,vs,rfl,h1,h2⟩:=s'.st.head.tup
  exact k q vs H' h2.length (.inr (.of (aF _ _ h1))) (s'.stk (h2.append s'.st.tail))
 | lst ds =>
  cases e2
  obtain ⟨q,vs,rfl,h1,h2⟩:=s'.st.head.lst
  exact k q vs H' h2.length (.inl (.inl (Rd.mono aF h1))) (s'.stk (h2.append s'.st.tail))
 | _ => cases e2
theorem Inv.kd {pins:List (Addr × Obj)} {σ:St} {H:Hp} {s:Shared} {h':Heap} {t':Nat} {d':Drawn} (I:Inv X pins σ H s) (k:∀ b u,s.heap.get? b = some u -> h'.get? b = some u):Inv X pins σ H { s with heap:=h',toks:=t',drawn:=d' }:= by
 have I1:=I.kept (t':=t') k
 exact ⟨I1.ok,I1.os,I1.bare,I1.base,I1.loc,I1.cell,I1.free,I1.freeC,I1.pin,I1.hok,I1.len⟩
theorem fW {ns:List Int}:∀ {us:List Value},PyProof.Rows.IntsAre us ns -> Vals (ns.map V.int) us:= by
 induction ns with
 | nil => intro us h; cases h; exact .nil
 | cons n ns ih =>
  intro us h
  cases h with
  | cons _ t h => exact .cons ⟨t,rfl⟩ (ih h)
theorem jT {pins:List (Addr × Obj)} {σ:St} {H:Hp} {s:Shared} {ns ms:List Int} {Q:VK} {h1 h':Heap} {tk:Nat} {d:Drawn} {out:List Value} {e:Nat} (I:Inv X pins σ H s) (k:∀ b o,s.heap.get? b = some o -> h1.get? b = some o) (k2:∀ b o,h1.get? b = some o -> h'.get? b = some o)
  (hg:h'.get? h1.objs.size = some { cls:=.type "list",data:=.seq out.toArray e }) (hi:PyProof.Rows.IntsAre out ms) (hp:ms.Perm ns) (hu:ms.Pairwise (· ≤ ·)) (hl:ns.length < 64) (q:∀ l,H l = none -> Q (.ref l) (upd H l (.lst ((bA ns).map V.int)))) :
  EP X pins σ Q (.ref h1.objs.size) { s with heap:=h',toks:=tk,drawn:=d }:= by
 have I1:Inv X pins σ H { s with heap:=h1,toks:=tk,drawn:=d }:=Inv.kd I k
 have em:=fK hp hu
 refine ⟨.ref h1.objs.size,_,I1.laid (t':=tk) (o:=.lst ((bA ns).map V.int)) k2 (Nat.le_refl _) ⟨?_,out,e,em ▸ fW hi,hg⟩,rfl,q _ (I1.hok.fresh (Nat.le_refl _))⟩
 rw [List.length_map,<- em,hp.length_eq,sizeLine_eq]
 omega
theorem nH:cQ X (.builtin "sorted") (fun xs H Q => ∃ p ns,xs = [.ref p] ∧ (fI X.K H p (ns.map V.int) ∨ gp X.K H p (ns.map V.int)) ∧ ns.length < 64 ∧ ∀ l,H l = none -> Q (.ref l) (upd H l (.lst ((bA ns).map V.int)))):= by
 intro pins s σ H xs us Q I r h
 obtain ⟨p,ns,rfl,hq,hl,q⟩:=h
 obtain ⟨u,rfl,ru⟩:=r.one
 cases ru
 refine je (ns:=ns) (fun A' Q' E' hA hQ' => ?_) hl fun h1 h' tk d out ms e k k2 hg hi hp hu => jT I k k2 hg hi hp hu hl q
 rcases hq with hq | hq
 ·obtain ⟨its,rv,pl,hz⟩:=I.list hq
  obtain ⟨o,ho,hc,n,hd⟩:=pl.isList
  exact wpAny_collect_seq p (.inl rfl) ho hc hd (fun h' k => hQ' _ ns h' s.toks s.drawn (by simpa using intsAre_of rv) (List.Perm.refl _) k) (by rw [List.size_toArray,<- rv.length]; exact hz)
 ·obtain ⟨its,rv,⟨o,ho,hc,n,hd⟩,hz⟩:=I.tuple hq
  exact wpAny_collect_seq p (.inr rfl) ho hc hd (fun h' k => hQ' _ ns h' s.toks s.drawn (by simpa using intsAre_of rv) (List.Perm.refl _) k) (by rw [List.size_toArray,<- rv.length]; exact hz)
def dt:List D -> Option (List Int)
 | [] => some []
 | .int i :: r => (dt r).map (i :: ·)
 | _ => none
theorem gR {H:Hp}:∀ {ds:List D} {vs:List V} {ns:List Int},Rs H ds vs -> dt ds = some ns -> vs = ns.map V.int
 | [],vs,ns,h,e => by cases e; exact h.inv0
 | d :: ds,vs,ns,h,e => by
  obtain ⟨v,r,ev,h1,h2⟩:=h.inv
  cases d with
  | int b =>
   unfold dt at e
   cases q:dt ds with
   | none => rw [q] at e; cases e
   | some bs' =>
    rw [q] at e; cases e
    rw [ev,h1.int,gR h2 q]; rfl
  | _ => cases e
theorem f7 {H:Hp}:∀ (ns:List Int),Rs H (ns.map D.int) (ns.map V.int)
 | [] => .nil
 | n :: ns => .cons .mkI (f7 ns)
def sortI (xs:List D):Option (List D):=match dt xs with
 | some ns => if ns.length < 64 then some ((bA ns).map D.int) else none
 | none => none
def mQ {α:Type} (g:List D -> Option α) (f:M (List D)):M α:=do
 let xs <- f
 lift (g xs)
theorem fZ (hm:X.mg "sorted" = none) (h:DQ X e fq) (hg:Gl X "sorted":=by rfl) (he:starEach [e] X.env = [(false,eval e X.env)]:=by rfl):DF X (.Call (.Name "sorted" p) [e] [] pos) (mQ sortI fq) :=
 b8 (eC nH hg hm PyProof.Rows.boot_sorted (cG h eZ he) (by decide) (by decide) he rfl) fun σ H Q ⟨c,δ,S,T,xs,δ',s,e,k⟩ => by
  obtain ⟨ds,δ1,e1,e⟩:=bind_some e
  obtain ⟨e2,rfl⟩:=aw e
  refine ⟨c,δ,S,T,ds,δ1,s,e1,fun q vs H1 l hq s1 => ?_⟩
  unfold sortI at e2
  split at e2
  ·rename_i ns en
   split at e2
   ·rename_i hn
    cases e2
    have ev:=gR (s1.st.left l) en
    subst ev
    refine ⟨q,ns,rfl,hq,hn,fun m hm => ?_⟩
    obtain ⟨f1,f2,f3⟩:=s1.fresh hm
    have s2:=(s1.drop l).hide (o:=.lst ((bA ns).map V.int)) hm
    exact k m _ _ (by simp) (s2.stk ((f7 _).append s2.st)) f1 f2 f3
   ·cases e2
  ·cases e2
def ko (w:World) (S:Addr) (ns:List Int):HO:=.ext fun h => ∃ l ep t,bx w h S l ep t ∧ (l.map (·.1)).Perm (fM ns)
theorem uD (hc:X.calm = true):cQ X (.type "set") (fun xs H Q => ∃ p ns,xs = [.ref p] ∧ (fI X.K H p (ns.map V.int) ∨ gp X.K H p (ns.map V.int)) ∧ ns.length < 4000 ∧ ∀ l,H l = none -> Q (.ref l) (upd H l (ko X.w l ns))):= by
 intro pins s σ H xs us Q I r h
 obtain ⟨p,ns,rfl,hq,hl,q⟩:=h
 obtain ⟨u,rfl,ru⟩:=r.one
 cases ru
 have fin:∀ (h':Heap) (tk:Nat) (ls:List (Int × Tok)) (ep:Nat) (t:SetTable),bx X.w h' s.heap.objs.size ls ep t -> (ls.map (·.1)).Nodup -> (∀ z,z ∈ ls.map (·.1) ↔ z ∈ ns) -> (∀ b o,s.heap.get? b = some o -> h'.get? b = some o) ->
   EP X pins σ Q (.ref s.heap.objs.size) { s with heap:=h',toks:=tk }:=fun h' tk ls ep t x nd mem k => by
  refine ⟨.ref s.heap.objs.size,_,I.laid (t':=tk) (o:=ko X.w s.heap.objs.size ns) k (Nat.le_refl _) ⟨⟨ls,ep,t,x,wY nd mem⟩,?_,fun h1 h2 ⟨l,ep,t,x,p⟩ k => ⟨l,ep,t,x.at k,p⟩⟩,rfl,q _ I.fresh⟩
  obtain ⟨o,ho,_⟩:=x.obj
  exact ⟨o,ho⟩
 rcases hq with hq | hq
 ·obtain ⟨its,rv,pl,hz⟩:=I.list hq
  have hn:its.toArray.size = ns.length:=by rw [List.size_toArray,<- rv.length,List.length_map]
  exact sO (ns:=ns) (I.ok.hd hc) pl.isList (by simpa using intsAre_of rv) (by rw [hn]; show _ < 4096; omega) fin
 ·obtain ⟨its,rv,pl,hz⟩:=I.tuple hq
  have hn:its.toArray.size = ns.length:=by rw [List.size_toArray,<- rv.length,List.length_map]
  exact rK (ns:=ns) (I.ok.hd hc) (show s.heap.IsTuple p its.toArray from pl) (by simpa using intsAre_of rv) (by rw [hn]; show _ < 4096; omega) fin
theorem kb (hc:X.calm = true):cQ X (.builtin "sorted") (fun xs H Q => ∃ p ns,xs = [.ref p] ∧ H p = some (ko X.w p ns) ∧ ns.length < 64 ∧ ∀ l,H l = none -> Q (.ref l) (upd H l (.lst ((bA (fM ns)).map V.int)))):= by
 intro pins s σ H xs us Q I r h
 obtain ⟨p,ns,rfl,hq,hl,q⟩:=h
 obtain ⟨u,rfl,ru⟩:=r.one
 cases ru
 obtain ⟨⟨l,ep,t,x,pm⟩,_⟩:=I.hok p _ hq
 have hl2:(fM ns).length < 64:=Nat.lt_of_le_of_lt (o8 ns) hl
 refine je (ns:=fM ns) (fun A' Q' E' hA hQ' => ?_) hl2 fun h1 h' tk d out ms e k k2 hg hi hp hu => jT I k k2 hg hi hp hu hl2 q
 refine mL (hA.trans (I.ok.hd hc)) x fun ord h' tk d po k => hQ' _ (ord.map (·.1)) h' tk d ?_ ((po.map _).trans pm) k
 have:∀ o:List (Int × Tok),PyProof.Rows.IntsAre (o.map fun p => Value.int p.1 p.2) (o.map (·.1)):=fun o => by
  induction o with
  | nil => exact .nil
  | cons x r ih => exact .cons _ _ ih
 exact this ord
theorem oA:cQ X (.builtin "len") (fun xs H Q => ∃ p ns,xs = [.ref p] ∧ H p = some (ko X.w p ns) ∧ Q (.int (fM ns).length) H):= by
 intro pins s σ H xs us Q I r h
 obtain ⟨p,ns,rfl,hq,q⟩:=h
 obtain ⟨u,rfl,ru⟩:=r.one
 cases ru
 obtain ⟨⟨l,ep,t,x,pm⟩,_⟩:=I.hok p _ hq
 obtain ⟨o,ho,hx,hd⟩:=x.obj
 have hs:(l.map eo).toArray.size = l.length:=by simp
 have hn:l.length = (fM ns).length:=by rw [<- pm.length_eq,List.length_map]
 have hf:=x.few
 have hb:scanBound = 4096:=rfl
 refine call_len_set ho hx hd (by rw [hs]; exact x.fits) (by rw [hs]; omega) ?_
 rw [hs,hn]
 exact ⟨.int _,H,I.tok _,⟨_,rfl⟩,q⟩
def ib (xs:List D):Option (List D):=match dt xs with
 | some ns => if ns.length < 64 then some ((bA (fM ns)).map D.int) else none
 | none => none
def md (xs:List D):Option D:=match dt xs with
 | some ns => if ns.length < 4000 then some (.int (fM ns).length) else none
 | none => none
def Eo (K:PySem.W.Frag) (w:World) (te:TE):TE:=fun σ H Q => te σ H fun x H1 => ∃ p ns,[x] = [V.ref p] ∧ (fI K H1 p (ns.map V.int) ∨ gp K H1 p (ns.map V.int)) ∧ ns.length < 4000 ∧ ∀ l,H1 l = none -> Q (.ref l) (upd H1 l (ko w l ns))
theorem tS {te:TE} (hm:X.mg "set" = none) (h:PE X e te) (hg:Gl X "set":=by rfl) (hc:X.calm = true:=by rfl) (he:starEach [e] X.env = [(false,eval e X.env)]:=by rfl):PE X (.Call (.Name "set" p) [e] [] pos) (Eo X.K X.w te) :=
 b8 (d9 (uD hc) hg hm (by decide +kernel) (cG h eZ he) (by decide) (by decide) he rfl) fun σ H Q h => h
theorem mw {p2 pos2:Pos} (hm:X.mg "sorted" = none) (hm2:X.mg "set" = none) (h:DQ X e fq) (hg:Gl X "sorted":=by rfl) (hg2:Gl X "set":=by rfl) (hc:X.calm = true:=by rfl) (he:starEach [e] X.env = [(false,eval e X.env)]:=by rfl) :
  DF X (.Call (.Name "sorted" p) [.Call (.Name "set" p2) [e] [] pos2] [] pos) (mQ ib fq) :=
 b8 (eC (kb hc) hg hm PyProof.Rows.boot_sorted (cG (tS hm2 h hg2 hc he) eZ rfl) (by decide) (by decide) rfl rfl) fun σ H Q ⟨c,δ,S,T,xs,δ',s,e,k⟩ => by
  obtain ⟨ds,δ1,e1,e⟩:=bind_some e
  obtain ⟨e2,rfl⟩:=aw e
  refine ⟨c,δ,S,T,ds,δ1,s,e1,fun q vs H1 l hq s1 => ?_⟩
  unfold ib at e2
  split at e2
  ·rename_i ns en
   split at e2
   ·rename_i hn
    cases e2
    have ev:=gR (s1.st.left l) en
    subst ev
    refine ⟨q,ns,rfl,hq,by omega,fun m hm => ⟨m,ns,rfl,aA,hn,fun m2 hm2 => ?_⟩⟩
    have s2:=(s1.drop l).grow (d4 hm (ko X.w m ns))
    obtain ⟨f1,f2,f3⟩:=s2.fresh hm2
    have s3:=s2.hide (o:=.lst ((bA (fM ns)).map V.int)) hm2
    exact k m2 _ _ (by simp) (s3.stk ((f7 _).append s3.st)) f1 f2 f3
   ·cases e2
  ·cases e2
theorem rO {p2 pos2:Pos} (hm:X.mg "len" = none) (hm2:X.mg "set" = none) (h:DQ X e fq) (hg:Gl X "len":=by rfl) (hg2:Gl X "set":=by rfl) (hc:X.calm = true:=by rfl) (he:starEach [e] X.env = [(false,eval e X.env)]:=by rfl) :
  DE X (.Call (.Name "len" p) [.Call (.Name "set" p2) [e] [] pos2] [] pos) (mQ md fq) :=
 b8 (eC oA hg hm PySem.boot_len (cG (tS hm2 h hg2 hc he) eZ rfl) (by decide) (by decide) rfl rfl) fun σ H Q ⟨c,δ,S,T,xs,δ',s,e,k⟩ => by
  obtain ⟨ds,δ1,e1,e⟩:=bind_some e
  obtain ⟨e2,rfl⟩:=aw e
  refine ⟨c,δ,S,T,ds,δ1,s,e1,fun q vs H1 l hq s1 => ?_⟩
  unfold md at e2
  split at e2
  ·rename_i ns en
   split at e2
   ·rename_i hn
    cases e2
    have ev:=gR (s1.st.left l) en
    subst ev
    refine ⟨q,ns,rfl,hq,by omega,fun m hm => ⟨m,ns,rfl,aA,?_⟩⟩
    have s2:=(s1.drop l).grow (d4 hm (ko X.w m ns))
    exact k _ _ (s2.stk (.cons .mkI s2.st))
   ·cases e2
  ·cases e2
def sQ (xs ys:List D):Option (List D):=if xs.length + ys.length ≤ 100000 then some (xs ++ ys) else none
end
end Jt
namespace Jt
open PySem L2
inductive Hn where
 | th (x:D) | ls (j:Nat)
def Cz (c:Ct) (δ:DS) (S:List D) (σ:St) (T:List V) (H:Hp) (v:V):Hn -> Prop
 | .th d => Sl c δ (d :: S) σ (v :: T) H
 | .ls i => Sl c δ S σ T H ∧ σ[i]? = some (some v)
inductive zW (f:M Hn) (σ:St) (H:Hp) (Q:VK):Prop
 | mk (c:Ct) (δ:DS) (S:List D) (T:List V) (h:Hn) (δ':DS) (s:Sl c δ S σ T H) (e:f δ = some (h,δ')) (q:∀ v H',Cz c δ' S σ T H' v h -> Q v H'):zW f σ H Q
abbrev DH (X:Cx) (e:Expr) (f:M Hn):Prop:=PE X e (zW f)
def Hn.ds:Hn -> List D
 | .th z => [z]
 | .ls _ => []
def Hn.vs (v:V):Hn -> List V
 | .th _ => [v]
 | .ls _ => []
theorem Hn.len (v:V) (h:Hn):(h.vs v).length = h.ds.length:=by cases h <;> rfl
def xc (h:Hn):M D:=fun δ => match h with
 | .th d => some (d,δ)
 | .ls i => match δ[i]? with
  | some (.ow _ xs) => some (.lst xs,δ)
  | _ => none
theorem Cz.sl {c:Ct} {δ:DS} {S:List D} {σ:St} {T:List V} {H:Hp} {v:V} {h:Hn} (k:Cz c δ S σ T H v h):Sl c δ (h.ds ++ S) σ (h.vs v ++ T) H:= by
 cases h with
 | th d => exact k
 | ls i => exact k.1
theorem nG {c:Ct} {δ δ':DS} {S:List D} {σ:St} {T:List V} {H:Hp} {v:V} {h:Hn} {d:D} (s:Sl c δ S σ T H) (hs:∀ d',h = .th d' -> R (eJ c δ σ H) d' v) (ho:∀ i,h = .ls i -> σ[i]? = some (some v)) (e:xc h δ = some (d,δ')):δ = δ' ∧ R H d v ∧
  (∀ xs,d = .lst xs -> ∃ p vs,v = .ref p ∧ Rd H p (.lst vs) ∧ Rs (eJ c δ σ H) xs vs) ∧ ((∀ xs,d ≠ .lst xs) -> R (eJ c δ σ H) d v):= by
 cases h with
 | th d0 =>
  cases e
  have r:=hs d rfl
  refine ⟨rfl,r.mono aF,fun xs ex => ?_,fun _ => r⟩
  subst ex
  obtain ⟨p,vs,ev,h1,h2⟩:=r.lst
  exact ⟨p,vs,ev,Rd.mono aF h1,h2⟩
 | ls i =>
  unfold xc at e
  dsimp only at e
  split at e
  ·rename_i b xs hx
   cases e
   obtain ⟨p,vs,ev,hp,hr⟩:=s.own hx
   rw [ho i rfl] at ev
   cases ev
   exact ⟨rfl,.mkL (.inl hp) (hr.mono aF),fun ys ey => by cases ey; exact ⟨p,vs,rfl,.inl hp,hr⟩,fun z => absurd rfl (z xs)⟩
  ·cases e
section
variable {X:Cx} {a b e:Expr} {fa fb:M D} {ha' hb':M Hn} {fs fF fq:M (List D)} {pos p apos cpos:Pos} {es rest:List Expr} {x:Str}
theorem i7 (h:DE X e fa):DH X e (do let x <- fa; pure (.th x)):=b8 h fun σ H Q ⟨c,δ,S,T,h,δ',s,e,k⟩ => by
 obtain ⟨d,δ1,e1,e⟩:=bind_some e
 obtain ⟨rfl,rfl⟩:=ak e
 exact ⟨c,δ,S,T,d,δ1,s,e1,fun v H' s' => k v H' s'⟩
def rM (i:Nat):M Hn:=do
 let _ <- bh i
 pure (.ls i)
theorem wy (i:Nat) {px:Pos} (hN:X.N[i]? = some x:=by rfl) (hv:tJ X.env.scope x:=by first | exact Or.inl rfl | exact Or.inr (Or.inl rfl) | exact Or.inr (Or.inr rfl)) (hd:(x == ("__debug__":Str)) = false:=by decide) (hcd:(x == ("__classdict__":Str)) = false:=by decide) :
  DH X (.Name x px) (rM i):=b8 (eO hN hv hd hcd) fun σ H Q ⟨c,δ,S,T,h,δ',s,e,k⟩ => by
 obtain ⟨xs,δ1,e1,e⟩:=bind_some e
 obtain ⟨rfl,rfl⟩:=ak e
 obtain ⟨⟨b,hi⟩,rfl⟩:=bz e1
 obtain ⟨q,vs,ev,hq,hx⟩:=s.own hi
 exact ⟨_,ev,k _ H ⟨s,ev⟩⟩
def rH {α:Type} (g:D -> D -> Option α) (fa fb:M Hn):M α:=do
 let h1 <- fa
 let h2 <- fb
 let x <- xc h1
 let y <- xc h2
 lift (g x y)
structure Gf (c:Ct) (δ:DS) (S:List D) (σ:St) (T:List V) (H:Hp) (x y:D) (v u:V):Prop where
 sl:Sl c δ S σ T H
 rx:R H x v
 ry:R H y u
 lx:∀ xs,x = .lst xs -> ∃ p vs,v = .ref p ∧ Rd H p (.lst vs) ∧ Rs (eJ c δ σ H) xs vs
 ly:∀ xs,y = .lst xs -> ∃ p vs,u = .ref p ∧ Rd H p (.lst vs) ∧ Rs (eJ c δ σ H) xs vs
theorem B2 {α:Type} {r:R2} {g:D -> D -> Option α} {W:Ct -> DS -> List D -> St -> List V -> VK -> α -> Prop}
  (hr:∀ c δ S σ T H x y v u z Q,Gf c δ S σ T H x y v u -> g x y = some z -> W c δ S σ T Q z -> r v u H Q) :
  ∀ σ H Q,(∃ c δ S T z δ',Sl c δ S σ T H ∧ rH g ha' hb' δ = some (z,δ') ∧ W c δ' S σ T Q z) -> Af r (zW ha') (zW hb') σ H Q:=fun σ H Q ⟨c,δ,S,T,z,δ',s,e,k⟩ => by
 obtain ⟨h1,δ1,e1,e⟩:=bind_some e
 obtain ⟨h2,δ2,e2,e⟩:=bind_some e
 obtain ⟨x,δ3,e3,e⟩:=bind_some e
 obtain ⟨y,δ4,e4,e⟩:=bind_some e
 obtain ⟨e5,rfl⟩:=aw e
 refine ⟨c,δ,S,T,h1,δ1,s,e1,fun v H1 k1 => ?_⟩
 refine ⟨c,δ1,h1.ds ++ S,h1.vs v ++ T,h2,δ2,k1.sl,e2,fun u H2 k2 => ?_⟩
 have s2:=k2.sl
 have s3:Sl c δ2 S σ T H2:=(s2.drop (Hn.len u h2)).drop (Hn.len v h1)
 obtain ⟨rfl,r1,l1,_⟩:=nG s3 (v:=v) (h:=h1) (fun d' ed => by
  subst ed
  exact (s2.drop (Hn.len u h2)).st.head) (fun i ei => by subst ei; exact k1.2) e3
 obtain ⟨rfl,r2,l2,_⟩:=nG s3 (v:=u) (h:=h2) (fun d' ed => by
  subst ed
  exact s2.st.head) (fun i ei => by subst ei; exact k2.2) e4
 exact hr c δ2 S σ T H2 x y v u z Q ⟨s3,r1,r2,l1,l2⟩ e5 k
def Eh:R2:=fun x y H Q => ∃ l b xs zs,x = .ref l ∧ y = .ref b ∧ Rd H l (.lst xs) ∧ Rd H b (.lst zs) ∧ xs.length + zs.length ≤ sizeLine ∧ ∀ p,H p = none -> Q (.ref p) (upd H p (.lst (xs ++ zs)))
theorem yx:f9 X (binaryOp .Add) Eh:= by
 intro pins s σ H x y v u Q I rx ry h
 obtain ⟨l,b,xs,zs,rfl,rfl,hH,hB,hz,q⟩:=h
 cases rx
 cases ry
 obtain ⟨z,its,n,r,e⟩:=hH.ok I.hok
 obtain ⟨z2,its2,n2,r2,e2⟩:=hB.ok I.hok
 refine PySem.P.add_list e e2 ?_ (by rw [List.size_toArray,List.size_toArray,<- r.length,<- r2.length]; exact hz)
 rw [show its.toArray ++ its2.toArray = (its ++ its2).toArray by simp]
 exact ⟨.ref _,_,I.lnew (t':=s.toks) (r.append r2) (by rw [List.length_append]; exact hz),rfl,q _ I.fresh⟩
def pK:D -> D -> Option (List D)
 | .lst xs,.lst ys => sQ xs ys
 | _,_ => none
theorem pd (ha:DH X a ha') (hb:DH X b hb'):DF X (.BinOp a .Add b pos) (rH pK ha' hb'):=b8 (Au yx ha hb) fun σ H Q ⟨c,δ,S,T,z,δ',s,e,k⟩ => by
 refine B2 (W:=fun c δ' S σ T Q z => ∀ l vs H',vs.length = z.length -> Sl { c with Z:=upd c.Z l (.lst vs) } δ' (z ++ S) σ (vs ++ T) H' -> c.Z l = none -> l ∉ c.B -> c.H0 l = none -> Q (.ref l) H') (fun c δ S σ T H x y v u z Q t eg w => ?_) σ H Q ⟨c,δ,S,T,z,δ',s,e,k⟩
 cases x with
 | lst xs =>
  cases y with
  | lst ys =>
   have eg':(if xs.length + ys.length ≤ 100000 then some (xs ++ ys) else none) = some z:=eg
   split at eg'
   ·rename_i hn
    cases eg'
    obtain ⟨p1,vs,rfl,a1,a2⟩:=t.lx xs rfl
    obtain ⟨p2,us,rfl,b1,b2⟩:=t.ly ys rfl
    have hl:(100000:Nat) < sizeLine:=by rw [sizeLine_eq]; decide
    refine ⟨p1,p2,vs,us,rfl,rfl,a1,b1,by rw [a2.length,b2.length]; omega,fun q hq => ?_⟩
    have s1:=t.sl.stk ((a2.append b2).append t.sl.st)
    obtain ⟨f1,f2,f3⟩:=s1.fresh hq
    exact w q _ _ (by rw [List.length_append,List.length_append,a2.length,b2.length]) (s1.hide hq) f1 f2 f3
   ·cases eg'
  | _ => cases eg
 | _ => cases eg
def yd (neg:Bool) (x y:D):Option D:=if g8 x y = true then (cf 9 x y).map fun b => .bl (if neg then !b else b) else cn neg x y
theorem qr {c:Ct} {δ:DS} {S:List D} {σ:St} {T:List V} {H:Hp} {x y:D} {v u:V} {z:D} {Q:VK} {neg:Bool} {r:R2} (t:Gf c δ S σ T H x y v u) (eg:yd neg x y = some z) (w:∀ v H',Sl c δ (z :: S) σ (v :: T) H' -> Q v H')
  (hs:∀ (b:Bool),g8 x y = true -> cf 9 x y = some b -> Q (.bl (if neg then !b else b)) H -> r v u H Q) (hf:kc v u = true -> Q (.bl (if neg then !decide (v = u) else decide (v = u))) H -> r v u H Q):r v u H Q:= by
 unfold yd at eg
 split at eg
 ·rename_i hq
  cases q:cf 9 x y with
  | none => rw [q] at eg; cases eg
  | some b =>
   rw [q] at eg; cases eg
   exact hs b hq q (w _ _ (t.sl.stk (.cons .mkB t.sl.st)))
 ·unfold cn at eg
  split at eg
  ·rename_i w1 z1 e1 e2
   split at eg
   ·rename_i hsc
    cases eg
    obtain ⟨rfl,_⟩:=c5 t.rx e1
    obtain ⟨rfl,_⟩:=c5 t.ry e2
    exact hf hsc (w _ _ (t.sl.stk (.cons .mkB t.sl.st)))
   ·cases eg
  ·cases eg
theorem FK {k:Nat} (hr:b6 k X.A) (ha:DH X a ha') (hb:DH X b hb'):DE X (.Compare a [.NotEq] [b] pos) (rH (yd true) ha' hb'):=b8 (qJ (qd (gH hr)) ha hb (mn _)) fun σ H Q ⟨c,δ,S,T,z,δ',s,e,k⟩ =>
 B2 (W:=fun c δ' S σ T Q z => ∀ v H',Sl c δ' (z :: S) σ (v :: T) H' -> Q v H') (fun c δ S σ T H x y v u z Q t eg w => qr t eg w (fun b hs he q => .inr ⟨H,x,y,b,fun _ _ h => h,t.rx,t.ry,hs,he,q⟩) fun hs q => .inl ⟨hs,q⟩) σ H Q ⟨c,δ,S,T,z,δ',s,e,k⟩
theorem Gu {g:D -> D -> Option D} {r:R2} (w:∀ σ H Q,tM (rH g ha' hb') σ H Q -> Af r (zW ha') (zW hb') σ H Q):∀ σ H Q,vp (rH g ha' hb' >>= cB) σ H Q -> uJ (Af r (zW ha') (zW hb')) σ H Q:=fun σ H Q ⟨c,δ,S,T,d,δ',s,e,k⟩ => by
 obtain ⟨x,δ1,e1,e⟩:=bind_some e
 obtain ⟨rfl,rfl⟩:=ij e
 exact w σ H _ ⟨c,δ,S,T,.bl d,δ1,s,e1,fun v H' s' => ⟨d,s'.st.head.bl,k _ s'.pop⟩⟩
theorem vI {k:Nat} (hr:b6 k X.A) (ha:DH X a ha') (hb:DH X b hb'):DT X (.Compare a [.NotEq] [b] pos) (rH (yd true) ha' hb' >>= cB):=uh (ql (qd (gH hr)) ha hb (mn _)) (Gu fun σ H Q ⟨c,δ,S,T,z,δ',s,e,k⟩ =>
 B2 (W:=fun c δ' S σ T Q z => ∀ v H',Sl c δ' (z :: S) σ (v :: T) H' -> Q v H') (fun c δ S σ T H x y v u z Q t eg w => qr t eg w (fun b hs he q => .inr ⟨H,x,y,b,fun _ _ h => h,t.rx,t.ry,hs,he,q⟩) fun hs q => .inl ⟨hs,q⟩) σ H Q ⟨c,δ,S,T,z,δ',s,e,k⟩)
def flatOnly (d:D):Option D:=match flat d with
 | some _ => some d
 | none => none
def Gm (n:Nat) (mf:List D -> Option D) (ds:List D):Option D:=if ds.length = n then (mf ds).bind flatOnly else none
variable {k:Nat} {f:Addr} {fd:FuncData} {ps:List Str}
def cutD (xs:List D) (lo hi:Option Int):List D:=(xs.drop (HT.sIx xs.length 0 lo)).take (HT.sIx xs.length xs.length hi - HT.sIx xs.length 0 lo)
theorem uG {H:Hp} {ds:List D} {vs:List V} (h:Rs H ds vs) (lo hi:Option Int):Rs H (cutD ds lo hi) (mG vs lo hi):= by
 unfold cutD mG
 rw [h.length]
 have dr:∀ (n:Nat) {ds:List D} {vs:List V},Rs H ds vs -> Rs H (ds.drop n) (vs.drop n):= by
  intro n
  induction n with
  | zero => intro ds vs h; exact h
  | succ n ih =>
   intro ds vs h
   cases ds with
   | nil => rw [h.inv0]; exact .nil
   | cons d ds => obtain ⟨v,r,e,h1,h2⟩:=h.inv; subst e; exact ih h2
 have tk:∀ (n:Nat) {ds:List D} {vs:List V},Rs H ds vs -> Rs H (ds.take n) (vs.take n):= by
  intro n
  induction n with
  | zero => intro ds vs h; rw [List.take_zero,List.take_zero]; exact .nil
  | succ n ih =>
   intro ds vs h
   cases ds with
   | nil => rw [h.inv0]; exact .nil
   | cons d ds => obtain ⟨v,r,e,h1,h2⟩:=h.inv; subst e; exact .cons h1 (ih h2)
 exact tk _ (dr _ h)
theorem oJ {t sl:Addr} {items:Array Value} {vl vu:Value} {lo hi:Option Int} {prog:Program} {w:World} {A:Around} {E:Value -> Shared -> Prop} {s:Shared} {Q:Value -> Shared -> Prop} (ht:PyProof.Rows.IsTup s.heap t items) (hs:s.heap.IsSliceOf sl vl vu .none) (pl:IsPart vl lo) (pu:IsPart vu hi)
  (hw:HT.sIx items.size 0 lo = 0 ∧ HT.sIx items.size items.size hi = items.size) (h:Q (.ref t) s):wpAny (model prog w) A (getItem (.ref t) (.ref sl)) Q E s:= by
 obtain ⟨os,hos,hcs,hds⟩:=id hs
 have hTs:s.TypeIs (.ref sl) "slice":=⟨os,hos,hcs⟩
 unfold getItem
 try with_reducible refine wpAny_holding ?_
 first | refine wpAny_bind (wpAny_pure ?_) | skip
 refine wpAny_bind (wpAny_sequenceKey ht.typeIs (by decide) ?_)
 refine wpAny_bind (wpAny_callSpecial?_slot (name:=Str.ofString "__getitem__") ht.typeIs PyProof.Rows.slot_tuple_getitem (wpAny_call_entry PyProof.Rows.slot_tuple_getitem ht.typeIs PyProof.Rows.entry_tuple_getitem ?_ (PyProof.Rows.args_tuple_getitem _ _)))
 show wpAny (model prog w) _ (Builtin.Tuple.tupleItemsOf (.ref t) >>= _) _ _ s
 refine wpAny_bind (PyProof.Rows.tupleItemsOf_ ht (wpAny_bind (wpAny_typeOf hTs ?_)))
 rw [if_pos (by decide)]
 refine wpAny_bind (HT.sliceApplied_gen hs pl pu ?_)
 have hyes:(((HT.sIx items.size 0 lo:Nat):Int) == 0 && (1:Int) == 1 && (HT.sIx items.size items.size hi - HT.sIx items.size 0 lo) == items.size) = true:= by
  rw [hw.1,hw.2]; simp
 show wpAny (model prog w) _ (if (((HT.sIx items.size 0 lo:Nat):Int) == 0 && (1:Int) == 1 && (HT.sIx items.size items.size hi - HT.sIx items.size 0 lo) == items.size) = true then _ else _) _ _ s
 rw [if_pos hyes]
 refine wpAny_bind ?_
 unfold Builtin.Tuple.tupleIsExact
 refine wpAny_bind (wpAny_typeOf ht.typeIs (wpAny_pure ?_))
 rw [if_pos (by decide)]
 exact wpAny_bind (wpAny_rule (wpAny_bind (wpAny_pure (wpAny_pure ⟨_,rfl,wpAny_pure h⟩))))
end
end Jt
namespace Jt
open PySem L2
section
variable {X:Cx} {pins:List (Addr × Obj)} {σ:St} {H:Hp} {s:Shared} {h':Heap}
theorem _root_.L2.Inv.turnedN {t':Nat} {fp:List Addr} {p:Addr} {o:HO} (I:Inv X pins σ H s) (k:∀ b o,b ∉ fp -> s.heap.get? b = some o -> h'.get? b = some o) (hf:∀ b ∈ fp,fk X pins H b) (hp:s.heap.objs.size ≤ p) (new:bX X.prog X.w (upd H p o) h' p o) :
  Inv X pins σ (upd H p o) { s with heap:=h',toks:=t' }:= by
 have hn:H p = none:=I.hok.fresh hp
 have nit:∀ b u,H b = some u -> b ∉ fp:=fun b u e z => by rw [(hf b z).1] at e; cases e
 refine I.step (g':=s.gens) (d':=s.drawn) (ch:=fp) (fun b hb => ?_) (fun b o _ _ hc e _ => k b o hc e) (fun b o _ _ hc e _ => ⟨o.slots,k b o hc e⟩) (fun b o _ e n => ?_)
  (fun b o hc e => ⟨o,k b o hc e⟩) (fun b xs e => by rw [av (bJ e hn)]; exact e) (fun b o u e => by rw [av (bJ e hn)]; exact e) (fun b ps e => ⟨#[],by rw [av (bJ e hn),e]; simp⟩) (fun m hm => ?_) (fun b u e => ?_) I.bare
 ·obtain ⟨_,f1,_,f3,f4,f5⟩:=hf b hb
  exact ⟨f3,f1,f4,f5⟩
 ·rw [av fun z => by subst z; exact Nat.lt_irrefl _ (Nat.lt_of_lt_of_le (Heap.lt_size e) hp)]; exact n
 ·obtain ⟨o',es,ep,ho,r⟩:=hm
  exact ⟨o',es,ep,k _ o' (fun z => (hf _ z).2.1 rfl) ho,r⟩
 ·by_cases hb:b = p
  ·subst hb; rw [aA] at e; cases e; exact new
  ·rw [av hb] at e
   refine (I.hok b u e).stay (fun c v hc q => k c v ?_ q) (fun c q => by rw [av (bJ q hn)]; exact q) fun c xs q => by rw [av (bJ q hn)]; exact q
   rcases hc with z | z
   ·rw [z]; exact nit b u e
   ·exact nit c _ z
theorem _root_.L2.Inv.turnedL {t':Nat} {fp:List Addr} (I:Inv X pins σ H s) (k:∀ b o,b ∉ fp -> s.heap.get? b = some o -> h'.get? b = some o) (hf:∀ b ∈ fp,fk X pins H b):Inv X pins σ H { s with heap:=h',toks:=t' }:= by
 have nit:∀ b u,H b = some u -> b ∉ fp:=fun b u e z => by rw [(hf b z).1] at e; cases e
 refine I.step (g':=s.gens) (d':=s.drawn) (ch:=fp) (fun b hb => ?_) (fun b o _ _ hc e _ => k b o hc e) (fun b o _ _ hc e _ => ⟨o.slots,k b o hc e⟩) (fun _ _ _ _ n => n)
  (fun b o hc e => ⟨o,k b o hc e⟩) (fun _ _ e => e) (fun _ _ _ e => e) (fun b ps e => ⟨#[],by rw [e]; simp⟩) (fun m hm => ?_) (fun b u e => ?_) I.bare
 ·obtain ⟨_,f1,_,f3,f4,f5⟩:=hf b hb
  exact ⟨f3,f1,f4,f5⟩
 ·obtain ⟨o',es,ep,ho,r⟩:=hm
  exact ⟨o',es,ep,k _ o' (fun z => (hf _ z).2.1 rfl) ho,r⟩
 ·refine (I.hok b u e).stay (fun c v hc q => k c v ?_ q) (fun _ q => q) fun _ _ q => q
  rcases hc with z | z
  ·rw [z]; exact nit b u e
  ·exact nit c _ z
def Sq (b:Bool) (K:PySem.W.Frag) (H:Hp) (q:Addr) (xs:List V):Prop:=match b with
 | true => gp K H q xs
 | false => fI K H q xs
theorem _root_.L2.Inv.sq {b:Bool} {q:Addr} {xs:List V} (I:Inv X pins σ H s) (h:Sq b X.K H q xs):∃ its:List Value,Vals xs its ∧ kg b s.heap q its.toArray:= by
 cases b with
 | true => obtain ⟨its,r,p,_⟩:=I.tuple h; exact ⟨its,r,p⟩
 | false => obtain ⟨its,r,p,_⟩:=I.list h; exact ⟨its,r,p.isList⟩
theorem _root_.L2.Inv.sq_inj {b:Bool} {q:Addr} {xs ys:List V} (I:Inv X pins σ H s) (h:Sq b X.K H q xs) (h':Sq b X.K H q ys):xs = ys:= by
 cases b with
 | true => exact I.tuple_inj h h'
 | false => exact I.list_inj h h'
def FH (K:PySem.W.Frag) (b1 b2:Bool) (l1 l2:Addr):It :=
 ⟨fun i H => ∃ xs ys x y,Sq b1 K H l1 xs ∧ Sq b2 K H l2 ys ∧ xs[i]? = some x ∧ ys[i]? = some y,
   fun i H x H' => ∃ p v u,x = .ref p ∧ H p = none ∧ H' = upd H p (.tup [v,u]) ∧ (∀ xs,Sq b1 K H l1 xs -> xs[i]? = some v) ∧ ∀ ys,Sq b2 K H l2 ys -> ys[i]? = some u,
   fun i H => ∃ xs ys,Sq b1 K H l1 xs ∧ Sq b2 K H l2 ys ∧ (xs.length ≤ i ∨ ys.length ≤ i)⟩
def Zt (b1 b2:Bool) (z TI TO i1 i2 l1 l2:Addr) (k:Nat) (h:Heap):Prop:=IsZip h z TI TO .none ∧ IsPair h TI (.ref i1) (.ref i2) ∧ (∃ a c,IsPair h TO a c) ∧ kH b1 h i1 l1 k ∧ kH b2 h i2 l2 k
theorem uz {P:Program} {w:World} {K:PySem.W.Frag} {es:List Expr} {x1} {pt:Pos} (b1 b2:Bool) {z TI TO i1 i2 l1 l2:Addr} (D:CW z TI TO i1 i2 l1 l2) (hfl1:l1 ∉ [z,TI,TO,i1,i2]) (hfl2:l2 ∉ [z,TI,TO,i1,i2]) :
  Turn P w K (.Tuple es x1 pt) (FH K b1 b2 l1 l2) [z,TI,TO,i1,i2] z (Zt b1 b2 z TI TO i1 i2 l1 l2) where
 mem:=by simp
 obj:=fun i h st b hb => by
  obtain ⟨s1,s2,⟨a,c,s3⟩,s4,s5⟩:=st
  have itc:∀ {bb:Bool} {it l:Addr},kH bb h it l i -> ∃ o,h.get? it = some o ∧ ∀ v,o.data ≠ .cell v:=fun {bb it l} q => by
   cases bb with
   | true => obtain ⟨o,e,_,d⟩:=q; exact ⟨o,e,fun v z => by rw [d] at z; cases z⟩
   | false => obtain ⟨o,e,_,d⟩:=q; exact ⟨o,e,fun v z => by rw [d] at z; cases z⟩
  simp only [List.mem_cons,List.not_mem_nil,or_false] at hb
  rcases hb with e | e | e | e | e <;> subst e
  ·exact ⟨_,s1,fun v q => by cases q⟩
  ·exact ⟨_,s2,fun v q => by cases q⟩
  ·exact ⟨_,s3,fun v q => by cases q⟩
  ·exact itc s4
  ·exact itc s5
 keep:=fun i h h' st k => by
  obtain ⟨s1,s2,⟨a,c,s3⟩,s4,s5⟩:=st
  exact ⟨k z (by simp) _ s1,k TI (by simp) _ s2,⟨a,c,k TO (by simp) _ s3⟩,s4.at (k i1 (by simp)),s5.at (k i2 (by simp))⟩
 item:= by
  intro X hP hw hK hc i pins s σ H E I hf st hg
  subst hP hw hK
  obtain ⟨xs,ys,x,y,hq1,hq2,hx,hy⟩:=hg
  obtain ⟨it1,r1,p1⟩:=I.sq hq1
  obtain ⟨it2,r2,p2⟩:=I.sq hq2
  obtain ⟨u1,e1,ru1⟩:=r1.get hx
  obtain ⟨u2,e2,ru2⟩:=r2.get hy
  obtain ⟨s1,s2,s3,s4,s5⟩:=st
  refine wz D ⟨s1,s2,s3,s4,s5,p1,p2⟩ (by simpa using e1) (by simpa using e2) fun h' st' hp kp => ?_
  obtain ⟨t1,t2,⟨a,c,t3⟩,t4,t5,_,_⟩:=st'
  have kp':∀ b o,b ∉ [z,TI,TO,i1,i2] -> s.heap.get? b = some o -> h'.get? b = some o:=fun b o hb e => kp b o (fun hm => hb (by
   simp only [List.mem_cons,List.not_mem_nil,or_false] at hm ⊢
   rcases hm with e | e | e | e <;> simp [e])) e
  refine ⟨.ref s.heap.objs.size,rfl,wpAny_letOwnedTupleGo_zip (s:={ s with heap:=h' }) t1 fun h2 z2 sb => ?_⟩
  obtain ⟨n1,n2,n3,n4,n5,n6,n7,n8,n9,n10,m1,m2,m3,m4,m5,m6,m7,m8⟩:=D.ne
  have hzl:z < s.heap.objs.size:=Heap.lt_size s1
  have new2:IsPair h2 s.heap.objs.size u1 u2:=sb.extBut _ _ (Nat.ne_of_gt hzl) hp
  refine ⟨.ref s.heap.objs.size,upd H s.heap.objs.size (.tup [x,y]),I.turnedN (t':=s.toks) (fp:=[z,TI,TO,i1,i2]) (fun b o hb e => sb.extBut _ _ (fun q => hb (by rw [q]; simp)) (kp' b o hb e)) hf (Nat.le_refl _) ⟨by rw [sizeLine_eq]; show 2 ≤ _; decide,[u1,u2],.cons ru1 (.cons ru2 .nil),⟨_,new2,rfl,_,rfl⟩,_,new2,rfl⟩,rfl,
   ⟨_,x,y,rfl,I.fresh,rfl,fun zs hz => by rw [I.sq_inj hz hq1]; exact hx,fun zs hz => by rw [I.sq_inj hz hq2]; exact hy⟩,⟨z2,sb.extBut _ _ n1 t2,⟨a,c,sb.extBut _ _ n2 t3⟩,t4.at fun o e => sb.extBut _ _ n3 e,t5.at fun o e => sb.extBut _ _ n4 e⟩,fun b hb => ?_⟩
  have hb0:=(hf b hb).1
  rw [av fun q => ?_]
  ·exact hb0
  ·have:b < s.heap.objs.size:= by
    simp only [List.mem_cons,List.not_mem_nil,or_false] at hb
    rcases hb with e | e | e | e | e <;> subst e
    ·exact hzl
    ·exact Heap.lt_size s2
    ·obtain ⟨_,_,s3⟩:=s3; exact Heap.lt_size s3
    ·exact s4.lt
    ·exact s5.lt
   rw [q] at this
   exact Nat.lt_irrefl _ this
 done:= by
  intro X hP hw hK hc i pins s σ H E I hf st hg
  subst hP hw hK
  obtain ⟨xs,ys,hq1,hq2,hx⟩:=hg
  obtain ⟨it1,r1,p1⟩:=I.sq hq1
  obtain ⟨it2,r2,p2⟩:=I.sq hq2
  obtain ⟨s1,s2,s3,s4,s5⟩:=st
  have l1:=r1.length
  have l2:=r2.length
  refine xF (I.ok.hd hc) D ⟨s1,s2,s3,s4,s5,p1,p2⟩ (hx.elim (fun q => .inl (by simp; omega)) fun q => .inr (by simp; omega)) fun h' kp => ⟨rfl,I.turnedL (t':=s.toks) (fp:=[z,TI,TO,i1,i2]) (fun b o hb e => kp b o (fun hm => hb (by
   simp only [List.mem_cons,List.not_mem_nil,or_false] at hm ⊢
   rcases hm with e | e | e | e <;> simp [e])) e) hf⟩
 self:=fun A i s Q E st h => wpAny_pyIter_zip st.1 h
def FP (K:PySem.W.Frag) (b:Bool) (l:Addr):It :=
 ⟨fun i H => ∃ xs x,Sq b K H l xs ∧ xs[i]? = some x,
   fun i H x H' => ∃ p v,x = .ref p ∧ H p = none ∧ H' = upd H p (.tup [.int i,v]) ∧ ∀ xs,Sq b K H l xs -> xs[i]? = some v,
   fun i H => ∃ xs,Sq b K H l xs ∧ xs.length ≤ i⟩
def Et (b:Bool) (e it l:Addr) (k:Nat) (h:Heap):Prop:=(∃ old,IsEnum h e it k old) ∧ kH b h it l k
theorem yP {prog:Program} {w:World} {A:Around} {E:Value -> Shared -> Prop} {s:Shared} {es:List Expr} {x1} {pos:Pos} {e it T:Addr} {i:Int} {v:Value} {Q:Unit -> Shared -> Prop} (he:IsEnumOut s.heap e it i v T)
  (hQ:∀ h',(∃ old,IsEnum h' e it i old) -> Heap.SameBut e s.heap h' -> Q () { s with heap:=h' }):wpAny (model prog w) A (letOwnedTupleGo (.Tuple es x1 pos) (.ref e) (.ref T)) Q E s:= by
 unfold letOwnedTupleGo
 refine wpAny_bind (wpAny_load he ?_)
 dsimp only
 split
 ·refine wpAny_bind (wpAny_rule ?_)
  refine wpAny_setField_rec he (by simp) fun h' he' sb => hQ h' ⟨v,he'⟩ sb
 ·rename_i hno
  exact absurd (by simp) hno
theorem sE {P:Program} {w:World} {K:PySem.W.Frag} {es:List Expr} {x1} {pt:Pos} (b:Bool) {e it l:Addr} (hne:e ≠ it) (hqe:l ≠ e) (hqi:l ≠ it):Turn P w K (.Tuple es x1 pt) (FP K b l) [e,it] e (Et b e it l) where
 mem:=by simp
 obj:=fun i h st c hc => by
  obtain ⟨⟨old,s1⟩,s2⟩:=st
  simp only [List.mem_cons,List.not_mem_nil,or_false] at hc
  rcases hc with q | q <;> subst q
  ·exact ⟨_,s1,fun v q => by cases q⟩
  ·cases b with
   | true => obtain ⟨o,e,_,d⟩:=s2; exact ⟨o,e,fun v z => by rw [d] at z; cases z⟩
   | false => obtain ⟨o,e,_,d⟩:=s2; exact ⟨o,e,fun v z => by rw [d] at z; cases z⟩
 keep:=fun i h h' st k => by
  obtain ⟨⟨old,s1⟩,s2⟩:=st
  exact ⟨⟨old,k e (by simp) _ s1⟩,s2.at (k it (by simp))⟩
 item:= by
  intro X hP hw hK hc i pins s σ H E I hf st hg
  subst hP hw hK
  obtain ⟨xs,x,hq1,hx⟩:=hg
  obtain ⟨it1,r1,p1⟩:=I.sq hq1
  obtain ⟨u1,e1,ru1⟩:=r1.get hx
  obtain ⟨s1,s2⟩:=st
  refine rR hne hqe hqi ⟨s1,s2,p1⟩ (by simpa using e1) fun h' t1 t2 t3 hp kp => ?_
  have hel:e < s.heap.objs.size:=by obtain ⟨_,s1⟩:=s1; exact Heap.lt_size s1
  refine ⟨.ref s.heap.objs.size,rfl,yP (s:={ s with heap:=h',toks:=s.toks + 1 }) t1 fun h2 z2 sb => ?_⟩
  have new2:IsPair h2 s.heap.objs.size (.int i s.toks) u1:=sb.extBut _ _ (Nat.ne_of_gt hel) hp
  refine ⟨.ref s.heap.objs.size,upd H s.heap.objs.size (.tup [.int i,x]),I.turnedN (t':=s.toks + 1) (fp:=[e,it]) (fun c o hb q => sb.extBut _ _ (fun z => hb (by rw [z]; simp)) (kp c o (fun z => hb (by rw [z]; simp)) (fun z => hb (by rw [z]; simp)) q)) hf (Nat.le_refl _) ⟨by rw [sizeLine_eq]; show 2 ≤ _; decide,[.int i s.toks,u1],.cons ⟨_,rfl⟩ (.cons ru1 .nil),⟨_,new2,rfl,_,rfl⟩,_,new2,rfl⟩,rfl,
   ⟨_,x,rfl,I.fresh,rfl,fun zs hz => by rw [I.sq_inj hz hq1]; exact hx⟩,⟨by obtain ⟨old,z2⟩:=z2; exact ⟨old,by simpa using z2⟩,t2.at fun o q => sb.extBut _ _ hne.symm q⟩,fun c hb => ?_⟩
  have hb0:=(hf c hb).1
  rw [av fun q => ?_]
  ·exact hb0
  ·have:c < s.heap.objs.size:= by
    simp only [List.mem_cons,List.not_mem_nil,or_false] at hb
    rcases hb with e | e <;> subst e
    ·exact hel
    ·exact s2.lt
   rw [q] at this
   exact Nat.lt_irrefl _ this
 done:= by
  intro X hP hw hK hc i pins s σ H E I hf st hg
  subst hP hw hK
  obtain ⟨xs,hq1,hx⟩:=hg
  obtain ⟨it1,r1,p1⟩:=I.sq hq1
  obtain ⟨s1,s2⟩:=st
  have l1:=r1.length
  exact vE (I.ok.hd hc) ⟨s1,s2,p1⟩ (by simp; omega) fun h' kp => ⟨rfl,I.turnedL (t':=s.toks) (fp:=[e,it]) (fun c o hb q => kp c o (fun z => hb (by rw [z]; simp)) q) hf⟩
 self:=fun A i s Q E st h => by
  obtain ⟨⟨old,s1⟩,_⟩:=st
  exact wpAny_pyIter_enum s1 h
end
end Jt
namespace Jt
open PySem L2
section
variable {X:Cx} {a b c0 e tg:Expr} {fa fb fc:M D} {fs fF fq:M (List D)} {pos p p2 apos cpos pt:Pos} {es rest:List Expr} {x:Str} {x1:Nat}
def kM:D -> Option (Bool × List D)
 | .tup ds => some (true,ds)
 | .lst ds => some (false,ds)
 | _ => none
theorem f_ {c:Ct} {δ:DS} {σ:St} {H:Hp} {K:PySem.W.Frag} {d:D} {v:V} {b:Bool} {xs:List D} (r:R (eJ c δ σ H) d v) (e:kM d = some (b,xs)):∃ p vs,v = .ref p ∧ Sq b K H p vs ∧ Rs (eJ c δ σ H) xs vs:= by
 cases d with
 | tup ds =>
  cases e
  obtain ⟨p,vs,ev,h1,h2⟩:=r.tup
  exact ⟨p,vs,ev,.of (aF _ _ h1),h2⟩
 | lst ds =>
  cases e
  obtain ⟨p,vs,ev,h1,h2⟩:=r.lst
  exact ⟨p,vs,ev,.inl (Rd.mono aF h1),h2⟩
 | _ => cases e
def gg:List D -> List D -> List D
 | x :: xs,y :: ys => .tup [x,y] :: gg xs ys
 | _,_ => []
theorem oG:∀ {xs ys:List D} {i:Nat} {d:D},(gg xs ys)[i]? = some d -> ∃ x y,xs[i]? = some x ∧ ys[i]? = some y ∧ d = .tup [x,y]
 | x :: xs,y :: ys,0,d,h => by cases h; exact ⟨x,y,rfl,rfl,rfl⟩
 | x :: xs,y :: ys,i + 1,d,h => by
  obtain ⟨x',y',h1,h2,h3⟩:=oG (xs:=xs) (ys:=ys) (i:=i) (by simpa [gg] using h)
  exact ⟨x',y',by simpa using h1,by simpa using h2,h3⟩
 | [],_,i,d,h => by simp [gg] at h
 | _ :: _,[],i,d,h => by simp [gg] at h
theorem nt:∀ (xs ys:List D),(gg xs ys).length = min xs.length ys.length
 | x :: xs,y :: ys => by simp [gg,nt xs ys,Nat.add_min_add_right]
 | [],_ => by simp [gg]
 | _ :: _,[] => by simp [gg]
theorem BU {ta:TA} (hg:Gl X "zip") (hm:X.mg "zip" = none) (ha:PA X [a,b] ta) (hs:starEach [a,b] X.env = [(false,eval a X.env),(false,eval b X.env)]:=by rfl) (hs2:starEach [b] X.env = [(false,eval b X.env)]:=by rfl) :
  PI X (.Tuple es x1 pt) (.Call (.Name "zip" p) [a,b] [] pos) (fun σ H R => ta σ H fun vs H1 => ∃ b1 b2 l1 l2 xs ys,vs = [.ref l1,.ref l2] ∧ Sq b1 X.K H1 l1 xs ∧ Sq b2 X.K H1 l2 ys ∧ R (FH X.K b1 b2 l1 l2) H1):= by
 intro pins s σ H R I h
 refine PyProof.Rows.Call_ (fL I hg hm (show bootBuiltins "zip" = some (.type "zip") by decide +kernel) (PyProof.Rows.callWith_type1 (bj (ha pos pins s σ H _ I h) fun us s1 ⟨vs,H1,I1,r1,q1⟩ => ?_) (by rw [hs,hs2]) (by rw [hs2]; rfl)))
 obtain ⟨b1,b2,l1,l2,xs,ys,e,h1,h2,q⟩:=q1
 subst e
 obtain ⟨u1,u2,rfl,ru1,ru2⟩:=r1.two
 cases ru1
 cases ru2
 obtain ⟨i1s,rv1,p1⟩:=I1.sq h1
 obtain ⟨i2s,rv2,p2⟩:=I1.sq h2
 refine ym p1 p2 fun h' z TI TO i1 i2 D st kp hnew => ?_
 have I2:Inv X pins σ H1 { s1 with heap:=h' }:=I1.kept (t':=s1.toks) kp
 obtain ⟨t1,t2,t3,t4,t5,_,_⟩:=st
 refine wpAny_pyIter_zip (s:={ s1 with heap:=h' }) t1 ⟨z,[z,TI,TO,i1,i2],_,_,H1,rfl,I2,uz b1 b2 D ?_ ?_,⟨t1,t2,t3,t4,t5⟩,fun c hc => ?_,q⟩
 ·intro hc
  exact Nat.lt_irrefl _ (Nat.lt_of_lt_of_le p1.lt (hnew _ hc))
 ·intro hc
  exact Nat.lt_irrefl _ (Nat.lt_of_lt_of_le p2.lt (hnew _ hc))
 ·exact I1.fpOk (hnew c hc) (I1.hok.fresh (hnew c hc))
def mR:List D -> Option jn
 | [x,y] => match kM x,kM y with
  | some (_,xs),some (_,ys) => some (aW (gg xs ys))
  | _,_ => none
 | _ => none
theorem y0 {K:PySem.W.Frag} {b1 b2:Bool} {dx dy:D} {xs ys:List D} {l1 l2:Addr} (e1:kM dx = some (b1,xs)) (e2:kM dy = some (b2,ys)):C3 (FH K b1 b2 l1 l2) (aW (gg xs ys)) [dx,dy] [.ref l1,.ref l2]:=fun c δ S σ T H i s => by
 obtain ⟨p1,vs,q1,h1,r1⟩:=f_ (K:=K) s.st.head e1
 obtain ⟨p2,us,q2,h2,r2⟩:=f_ (K:=K) s.st.tail.head e2
 cases q1
 cases q2
 refine ⟨fun act d ha hd => ?_,fun ei _ => ⟨vs,us,h1,h2,?_⟩⟩
 ·obtain ⟨x,y,g1,g2,rfl⟩:=oG (d_ ha hd)
  obtain ⟨v,gv,rv⟩:=r1.get g1
  obtain ⟨u,gu,ru⟩:=r2.get g2
  refine ⟨⟨vs,us,v,u,h1,h2,gv,gu⟩,fun z H' yl => ?_⟩
  obtain ⟨q,v',u',rfl,hq,rfl,y1,y2⟩:=yl
  have ev:=y1 vs h1
  have eu:=y2 us h2
  rw [gv] at ev; cases ev
  rw [gu] at eu; cases eu
  exact (s.stk (.cons rv (.cons ru s.st))).newTup (ds:=[x,y]) (vs:=[v,u]) rfl hq
 ·rw [r1.length,r2.length]
  have:(aW (gg xs ys)).1.length = min xs.length ys.length:=by simp [aW,nt]
  omega
theorem AH (hm:X.mg "zip" = none) (ha:DA X [a,b] fs) (hg:Gl X "zip":=by rfl) (hs:starEach [a,b] X.env = [(false,eval a X.env),(false,eval b X.env)]:=by rfl) (hs2:starEach [b] X.env = [(false,eval b X.env)]:=by rfl) :
  DI X (.Tuple es x1 pt) (.Call (.Name "zip" p) [a,b] [] pos) (mC mR fs):=tf (BU hg hm ha hs hs2) fun σ H Rr ⟨c,δ,S,T,it,δ',s,e,k⟩ => by
 obtain ⟨ds,δ1,e1,e⟩:=bind_some e
 obtain ⟨e2,rfl⟩:=aw e
 refine ⟨c,δ,S,T,ds,δ1,s,e1,fun vs H1 l s1 => ?_⟩
 unfold mR at e2
 split at e2
 ·rename_i dx dy
  split at e2
  ·rename_i b1 xs b2 ys q1 q2
   cases e2
   obtain ⟨v,u,rfl,r1,r2⟩:=EB (s1.st.left l)
   obtain ⟨p1,vs,rfl,h1,_⟩:=f_ (K:=X.K) r1 q1
   obtain ⟨p2,us,rfl,h2,_⟩:=f_ (K:=X.K) r2 q2
   exact ⟨b1,b2,p1,p2,vs,us,rfl,h1,h2,k _ [dx,dy] [.ref p1,.ref p2] H1 rfl (y0 q1 q2) s1⟩
  ·cases e2
 ·cases e2
def iR:Nat -> List D -> List D
 | _,[] => []
 | n,x :: xs => .tup [.int n,x] :: iR (n + 1) xs
theorem nT:∀ {xs:List D} {n i:Nat} {d:D},(iR n xs)[i]? = some d -> ∃ x,xs[i]? = some x ∧ d = .tup [.int ((n + i:Nat):Int),x]
 | x :: xs,n,0,d,h => by cases h; exact ⟨x,rfl,rfl⟩
 | x :: xs,n,i + 1,d,h => by
  obtain ⟨x',h1,h2⟩:=nT (xs:=xs) (n:=n + 1) (i:=i) (by simpa [iR] using h)
  exact ⟨x',by simpa using h1,by rw [h2]; congr 4; omega⟩
 | [],n,i,d,h => by simp [iR] at h
theorem ny:∀ (xs:List D) (n:Nat),(iR n xs).length = xs.length
 | [],_ => rfl
 | x :: xs,n => by simp [iR,ny xs]
theorem zt {ta:TA} (hg:Gl X "enumerate") (hm:X.mg "enumerate" = none) (ha:PA X [a] ta) (hs:starEach [a] X.env = [(false,eval a X.env)]:=by rfl) :
  PI X (.Tuple es x1 pt) (.Call (.Name "enumerate" p) [a] [] pos) (fun σ H R => ta σ H fun vs H1 => ∃ b1 l1 xs,vs = [.ref l1] ∧ Sq b1 X.K H1 l1 xs ∧ R (FP X.K b1 l1) H1):= by
 intro pins s σ H R I h
 refine PyProof.Rows.Call_ (fL I hg hm (show bootBuiltins "enumerate" = some (.type "enumerate") by decide +kernel) (PyProof.Rows.callWith_type1 (bj (ha pos pins s σ H _ I h) fun us s1 ⟨vs,H1,I1,r1,q1⟩ => ?_) hs rfl))
 obtain ⟨b1,l1,xs,e,h1,q⟩:=q1
 subst e
 obtain ⟨u1,rfl,ru1⟩:=r1.one
 cases ru1
 obtain ⟨i1s,rv1,p1⟩:=I1.sq h1
 refine wM p1 fun h' e it n1 n2 n3 st kp f1 f2 => ?_
 have I2:Inv X pins σ H1 { s1 with heap:=h' }:=I1.kept (t':=s1.toks) kp
 obtain ⟨⟨old,t1⟩,t2,_⟩:=st
 refine wpAny_pyIter_enum (s:={ s1 with heap:=h' }) t1 ⟨e,[e,it],_,_,H1,rfl,I2,sE b1 n1 n2 n3,⟨⟨old,t1⟩,t2⟩,fun c hc => ?_,q⟩
 have hc':s1.heap.objs.size ≤ c:= by
  simp only [List.mem_cons,List.not_mem_nil,or_false] at hc
  rcases hc with z | z <;> rw [z] <;> assumption
 exact I1.fpOk hc' (I1.hok.fresh hc')
def iV:List D -> Option jn
 | [x] => match kM x with
  | some (_,xs) => some (aW (iR 0 xs))
  | _ => none
 | _ => none
theorem ya {K:PySem.W.Frag} {b1:Bool} {dx:D} {xs:List D} {l1:Addr} (e1:kM dx = some (b1,xs)):C3 (FP K b1 l1) (aW (iR 0 xs)) [dx] [.ref l1]:=fun c δ S σ T H i s => by
 obtain ⟨p1,vs,q1,h1,r1⟩:=f_ (K:=K) s.st.head e1
 cases q1
 refine ⟨fun act d ha hd => ?_,fun ei _ => ⟨vs,h1,?_⟩⟩
 ·obtain ⟨x,g1,rfl⟩:=nT (d_ ha hd)
  obtain ⟨v,gv,rv⟩:=r1.get g1
  refine ⟨⟨vs,v,h1,gv⟩,fun z H' yl => ?_⟩
  obtain ⟨q,v',rfl,hq,rfl,y1⟩:=yl
  have ev:=y1 vs h1
  rw [gv] at ev; cases ev
  rw [Nat.zero_add]
  exact (s.stk (.cons .mkI (.cons rv s.st))).newTup (ds:=[.int i,x]) (vs:=[.int i,v]) rfl hq
 ·rw [r1.length]
  have:(aW (iR 0 xs)).1.length = xs.length:=by simp [aW,ny]
  omega
theorem qM (hm:X.mg "enumerate" = none) (ha:DA X [a] fs) (hg:Gl X "enumerate":=by rfl) (hs:starEach [a] X.env = [(false,eval a X.env)]:=by rfl) :
  DI X (.Tuple es x1 pt) (.Call (.Name "enumerate" p) [a] [] pos) (mC iV fs):=tf (zt hg hm ha hs) fun σ H Rr ⟨c,δ,S,T,it,δ',s,e,k⟩ => by
 obtain ⟨ds,δ1,e1,e⟩:=bind_some e
 obtain ⟨e2,rfl⟩:=aw e
 refine ⟨c,δ,S,T,ds,δ1,s,e1,fun vs H1 l s1 => ?_⟩
 unfold iV at e2
 split at e2
 ·rename_i dx
  split at e2
  ·rename_i b1 xs q1
   cases e2
   obtain ⟨v,rfl,r1⟩:=tH (s1.st.left l)
   obtain ⟨p1,vs,rfl,h1,_⟩:=f_ (K:=X.K) r1 q1
   exact ⟨b1,p1,vs,rfl,h1,k _ [dx] [.ref p1] H1 rfl (ya q1) s1⟩
  ·cases e2
 ·cases e2
def bq (T:Ty) (d:D):Bool:=(jq T d).getD false
theorem sA (T:Ty) (d:D):jq T d = some (bq T d):=by cases T <;> cases d <;> rfl
def tP (r1 r2:D -> D -> Option D) (fa fb fc:M D):M D:=do
 let x <- fa
 let y <- fb
 let z <- lift (r1 x y)
 match z with
 | .bl true => do
  let w <- fc
  lift (r2 y w)
 | .bl false => pure (.bl false)
 | _ => lift none
theorem tV {op op':CmpOp} {g g':Int -> Int -> V} {h h':Int -> Int -> D} (ho:f9 X (compareOp op) (qG g)) (ho':f9 X (compareOp op') (qG g')) (hg:∀ H i j,R H (h i j) (g i j)) (hg':∀ H i j,R H (h' i j) (g' i j)) (ha:DE X a fa) (hb:DE X b fb) (hc:DE X c0 fc)
  (hm:lastMarks [op,op'] [b,c0] = false:=by with_unfolding_all rfl):DE X (.Compare a [op,op'] [b,c0] pos) (tP (bO (fun _ _ => true) h) (bO (fun _ _ => true) h') fa fb fc):=b8 (tX ho ho' ha hb hc hm) fun σ H Q ⟨c,δ,S,T,d,δ',s,e,k⟩ => by
 obtain ⟨x,δ1,e1,e⟩:=bind_some e
 obtain ⟨y,δ2,e2,e⟩:=bind_some e
 obtain ⟨z,δ3,e3,e⟩:=bind_some e
 obtain ⟨e4,rfl⟩:=aw e3
 obtain ⟨i,j,rfl,rfl,_,rfl⟩:=dk e4
 refine ⟨c,δ,S,T,.int i,δ1,s,e1,fun v H1 s1 => ⟨c,δ1,.int i :: S,v :: T,.int j,δ2,s1,e2,fun u H2 s2 => ?_⟩⟩
 refine ⟨i,j,s2.st.tail.head.int,s2.st.head.int,?_⟩
 have rg:=hg (eJ c δ2 σ H2) i j
 cases hz:h i j with
 | bl q =>
  rw [hz] at e rg
  refine ⟨q,rg.bl,?_⟩
  cases q with
  | true =>
   obtain ⟨w,δ4,e5,e⟩:=bind_some e
   obtain ⟨e6,rfl⟩:=aw e
   rw [if_pos rfl]
   obtain ⟨i',j',ei,rfl,_,rfl⟩:=dk e6
   cases ei
   exact ⟨c,δ2,.int j :: .int i :: S,u :: v :: T,.int j',δ4,s2,e5,fun w' H4 s4 => ⟨j,j',s4.st.tail.head.int,s4.st.head.int,k _ _ (s4.stk (.cons (hg' _ _ _) s4.st.tail.tail.tail))⟩⟩
  | false =>
   obtain ⟨rfl,rfl⟩:=ak e
   rw [if_neg Bool.false_ne_true]
   exact k _ _ (s2.stk (.cons .mkB s2.st.tail.tail))
 | _ => rw [hz] at e; cases e
theorem xq (ha:DE X a fa) (hb:DE X b fb) (hc:DE X c0 fc) (hm:lastMarks [.LtE,.Lt] [b,c0] = false:=by with_unfolding_all rfl):DE X (.Compare a [.LtE,.Lt] [b,c0] pos) (tP oV sx fa fb fc):=tV wb vV (fun _ _ _ => .mkB) (fun _ _ _ => .mkB) ha hb hc hm
inductive Gd (f:M (Option Int)) (σ:St) (H:Hp) (Q:Option Int -> Hp -> Prop):Prop
 | mk (c:Ct) (δ:DS) (S:List D) (T:List V) (o:Option Int) (δ':DS) (s:Sl c δ S σ T H) (e:f δ = some (o,δ')) (q:∀ H',Sl c δ' S σ T H' -> Q o H'):Gd f σ H Q
abbrev DO (X:Cx) (e:Option Expr) (f:M (Option Int)):Prop:=PO X e (Gd f)
theorem Ez {e:Option Expr} {t t':TO} (h:PO X e t) (w:∀ σ H Q,t' σ H Q -> t σ H Q):PO X e t':=fun pins s σ H Q I q => h pins s σ H Q I (w σ H Q q)
theorem jG:DO X none (pure none):=Ez xI fun σ H Q ⟨c,δ,S,T,o,δ',s,e,k⟩ => by
 obtain ⟨rfl,rfl⟩:=ak e
 exact k _ s
def xu:D -> M (Option Int)
 | .int i => pure (some i)
 | _ => lift none
theorem jE (h:DE X e fa):DO X (some e) (fa >>= xu):=Ez (yi h) fun σ H Q ⟨c,δ,S,T,o,δ',s,e,k⟩ => by
 obtain ⟨d,δ1,e1,e⟩:=bind_some e
 refine ⟨c,δ,S,T,d,δ1,s,e1,fun v H' s' => ?_⟩
 cases d with
 | int i =>
  obtain ⟨rfl,rfl⟩:=ak e
  exact ⟨i,s'.st.head.int,k _ s'.pop⟩
 | _ => cases e
def E3 (K:PySem.W.Frag):V -> Option Int -> Option Int -> Hp -> VK -> Prop:=fun x lo hi H Q => ∃ a xs,x = .ref a ∧ gp K H a xs ∧ (HT.sIx xs.length 0 lo = 0 ∧ HT.sIx xs.length xs.length hi = xs.length) ∧ Q (.ref a) H
theorem vO:z4 X (E3 X.K):= by
 intro pins s σ H x v vl vu lo hi sl Q I rx hs pl pu h
 obtain ⟨a,xs,rfl,hx,hw,q⟩:=h
 cases rx
 obtain ⟨its,r,ht,hz⟩:=I.tuple hx
 have hlen:its.toArray.size = xs.length:=by rw [List.size_toArray]; exact r.length.symm
 refine ⟨"tuple",_,PyProof.Rows.slot_tuple_getitem.lookup,ht.typeIs,?_⟩
 exact oJ ht hs pl pu (by rw [hlen]; exact hw) ⟨.ref a,H,I,rfl,q⟩
def CU (x:D) (lo hi:Option Int):Option D:=match x with
 | .tup xs => some (.tup (cutD xs lo hi))
 | .lst xs => some (.lst (cutD xs lo hi))
 | _ => none
def AV (fa:M D) (fl fh:M (Option Int)):M D:=do
 let x <- fa
 let lo <- fl
 let hi <- fh
 lift (CU x lo hi)
theorem rU {α:Type} (xs:List α) (lo hi:Option Int) (h1:HT.sIx xs.length 0 lo = 0) (h2:HT.sIx xs.length xs.length hi = xs.length):(xs.drop (HT.sIx xs.length 0 lo)).take (HT.sIx xs.length xs.length hi - HT.sIx xs.length 0 lo) = xs:= by
 rw [h1,h2]; simp
theorem hU {lo hi:Option Expr} {fl fh:M (Option Int)} (he:DE X e fa) (hl:DO X lo fl) (hh:DO X hi fh):DE X (.Subscript e (.Slice lo hi none p2) pos) (AV fa fl fh):=b8 (w9 ((AJ.or vO).or yb) he hl hh) fun σ H Q ⟨c,δ,S,T,d,δ',s,e,k⟩ => by
 obtain ⟨x,δ1,e1,e⟩:=bind_some e
 obtain ⟨l,δ2,e2,e⟩:=bind_some e
 obtain ⟨h,δ3,e3,e⟩:=bind_some e
 obtain ⟨e4,rfl⟩:=aw e
 refine ⟨c,δ,S,T,x,δ1,s,e1,fun v H1 s1 => ⟨c,δ1,x :: S,v :: T,l,δ2,s1,e2,fun H2 s2 => ⟨c,δ2,x :: S,v :: T,h,δ3,s2,e3,fun H3 s3 => ?_⟩⟩⟩
 cases x with
 | tup xs =>
  cases e4
  obtain ⟨q,vs,rfl,h1,h2⟩:=s3.st.head.tup
  by_cases hw:HT.sIx vs.length 0 l = 0 ∧ HT.sIx vs.length vs.length h = vs.length
  ·refine .inl (.inr ⟨q,vs,rfl,.of (aF _ _ h1),hw,k _ _ ?_⟩)
   rw [h2.length] at hw
   rw [show cutD xs l h = xs from rU xs l h hw.1 hw.2]
   exact s3
  ·refine .inl (.inl ⟨q,vs,rfl,.of (aF _ _ h1),hw,fun m hm => k _ _ ?_⟩)
   have rc:=uG h2 l h
   exact (s3.stk (rc.append s3.st.tail)).newTup rc.length hm
 | lst xs =>
  cases e4
  obtain ⟨q,vs,rfl,h1,h2⟩:=s3.st.head.lst
  refine .inr ⟨q,vs,rfl,.inl (Rd.mono aF h1),fun m hm => k _ _ ?_⟩
  have rc:=uG h2 l h
  have s4:=s3.stk (rc.append s3.st.tail)
  obtain ⟨f1,f2,f3⟩:=s4.fresh hm
  exact (s4.hide (o:=.lst (mG vs l h)) hm).unhideL rc.length f1
 | _ => cases e4
end
end Jt
namespace Jt
open PySem L2
section
variable {X:Cx} {a b e:Expr} {fa fb:M D} {ha' hb':M Hn} {fs fF fq:M (List D)} {pos p p2 apos cpos pt:Pos} {es rest:List Expr} {x:Str}
end
abbrev au {α:Type} (n:Nat) (mf:List D -> Option α):List D -> Option α:=fun ds => if ds.length = n then mf ds else none
section
variable {P:Program} {w:World} {K:PySem.W.Frag} {mg:Str -> Option Value} {base:Heap} {f:Addr} {fd:FuncData} {ps:List Str} {k n:Nat}
def qR:Sp:=fun vs H Q _ => ∃ (a:Addr) (ns:List Int),vs = [.ref a] ∧ Rd H a (.lst (ns.map V.int)) ∧ ns.length ≤ 63 ∧ ∀ H',Q (.bl true) H'
theorem Bb {mf:List D -> Option D} (F:c8 P w K mg base cT k f fd ps (jl 1 mf)) (h:∀ ns:List Int,ns.length ≤ 63 -> mf [.lst (ns.map .int)] = some (.bl true)):c8 P w K mg base cT k f fd ps qR:=F.imp fun vs H Q E ⟨a,ns,ev,hr,hl,q⟩ => by
 subst ev
 refine ⟨rfl,fun _ => none,[.lst (ns.map .int)],.bl true,(fun a o z => nomatch z),.cons (.mkL (Rd.mono (fun b o e => dn.mpr ⟨(fun ⟨_,z⟩ => nomatch z),e⟩) hr) (f7 ns)) .nil,h ns hl,fun v H' g r => ?_⟩
 rw [r.bl]
 exact q H'
def zO (K:PySem.W.Frag):Bool:=K.all fun p => !(p.2.cls == Value.type "list")
theorem rd_of {H:Hp} {a:Addr} {xs:List V} (hK:zO K = true) (h:fI K H a xs):Rd H a (.lst xs):= by
 rcases h with h | ⟨o,its,n,hk,hc,_⟩
 ·exact h
 ·have hm:∃ p ∈ K,p.2 = o:= by
   clear hK
   induction K with
   | nil => cases hk
   | cons q r ih =>
    rw [List.lookup_cons] at hk
    split at hk
    ·cases hk; exact ⟨q,List.mem_cons_self,rfl⟩
    ·obtain ⟨p,hp,e⟩:=ih hk
     exact ⟨p,List.mem_cons_of_mem _ hp,e⟩
  obtain ⟨p,hp,e⟩:=hm
  have:=List.all_eq_true.mp hK p hp
  rw [e,hc] at this
  simp at this
end
theorem walkD {l:PySem.W.OpenLaw} {q:Program} {loose:List Str} {XP:(Str -> Option Value) -> Heap -> Prop} {YP:World -> Heap -> Prop} {d:DefRec} {K:Params -> PySem.W.Frag} {k:Nat} (hn:l.most = some 63) (hdf:d.params.defaults = []) (hr:b6 k callerA)
  (hY:∀ (w:World) (h:Heap),YP w h -> (K w.params).In h) (hL:∀ w:World,zO (K w.params) = true)
  (F:∀ (w:World) (mg:Str -> Option Value) (fa:Addr) (h:Heap),(K w.params).In h -> h.Ns mainGlobals mg -> mg d.name = some (.ref fa) ->
   ∃ fd:FuncData,(∀ (s:Shared) (u:Value),BindsTo s fd ⟨[u],[]⟩ [("_law_script",u)]) ∧ ∀ base:Heap,(K w.params).In base -> base.Ns mainGlobals mg -> c8 l.prog w (K w.params) mg base cT k fa fd ["_law_script"] qR) :
  PySem.W.WalkO q loose XP YP l.row.toRowW d [] (fun f vs => PySem.call f vs) :=
 L2.walk_of (n:=63) (k:=k) (x:="_law_script") (CX:=fun _ => cT) (sp:=fun _ => qR) hn (by decide) hdf hr hY F (fun w _ a ns hl _ hS => ⟨a,ns,rfl,rd_of (hL w) hS,hl,fun _ => rfl⟩) fun _ _ _ _ _ z => z
end Jt
namespace Jt
open PySem L2
def Ok {α:Type} (m:M α) (δ:DS) (Q:α -> DS -> Prop):Prop:=∃ a δ',m δ = some (a,δ') ∧ Q a δ'
theorem Ok.mono {α:Type} {m:M α} {δ:DS} {Q Q':α -> DS -> Prop} (h:Ok m δ Q) (k:∀ a δ',Q a δ' -> Q' a δ'):Ok m δ Q':=let ⟨a,δ',e,q⟩:=h; ⟨a,δ',e,k a δ' q⟩
section
variable {α β:Type} {δ:DS} {Q:α -> DS -> Prop}
@[simp] theorem ar {m:M β} {f:β -> M α}:Ok (m >>= f) δ Q ↔ Ok m δ fun a δ' => Ok (f a) δ' Q:= by
 constructor
 ·rintro ⟨a,δ',e,q⟩
  obtain ⟨b,δ1,e1,e2⟩:=bind_some e
  exact ⟨b,δ1,e1,a,δ',e2,q⟩
 ·rintro ⟨b,δ1,e1,a,δ',e2,q⟩
  exact ⟨a,δ',by rw [M.bind_def,e1]; exact e2,q⟩
@[simp] theorem ax {a:α}:Ok (pure a) δ Q ↔ Q a δ:= by
 constructor
 ·rintro ⟨b,δ',e,q⟩
  obtain ⟨rfl,rfl⟩:=ak e
  exact q
 ·exact fun q => ⟨a,δ,rfl,q⟩
@[simp] theorem eI {a:α}:Ok (lift (some a)) δ Q ↔ Q a δ:= by
 constructor
 ·rintro ⟨b,δ',e,q⟩
  obtain ⟨e1,rfl⟩:=aw e
  cases e1; exact q
 ·exact fun q => ⟨a,δ,rfl,q⟩
@[simp] theorem zB:Ok (lift (none:Option α)) δ Q ↔ False:=⟨fun ⟨_,_,e,_⟩ => (by cases e),False.elim⟩
theorem cj {o:Option α} {a:α} (h:o = some a) (q:Q a δ):Ok (lift o) δ Q:=by subst h; exact eI.mpr q
@[simp] theorem FI {c:Prop} [Decidable c] {m n:M α}:Ok (if c then m else n) δ Q ↔ (if c then Ok m δ Q else Ok n δ Q):=by split <;> exact Iff.rfl
end
section
variable {δ:DS}
@[simp] theorem cg {i:Nat} {Q:D -> DS -> Prop}:Ok (ag i) δ Q ↔ ∃ d,δ[i]? = some (.pu d) ∧ Q d δ:= by
 constructor
 ·rintro ⟨d,δ',e,q⟩
  obtain ⟨e1,rfl⟩:=k8 e
  exact ⟨d,e1,q⟩
 ·rintro ⟨d,e,q⟩
  exact ⟨d,δ,by unfold ag; rw [e],q⟩
@[simp] theorem bZ {i:Nat} {d:D} {Q:Unit -> DS -> Prop}:Ok (a9 i d) δ Q ↔ i < δ.length ∧ Q () (δ.set i (.pu d)):= by
 constructor
 ·rintro ⟨u,δ',e,q⟩
  obtain ⟨h,rfl⟩:=ee e
  exact ⟨h,q⟩
 ·rintro ⟨h,q⟩
  exact ⟨(),_,by unfold a9; rw [if_pos h],q⟩
@[simp] theorem EG {i:Nat} {d:List D} {Q:Unit -> DS -> Prop}:Ok (va i d) δ Q ↔ i < δ.length ∧ Q () (δ.set i (.ow false d)):= by
 constructor
 ·rintro ⟨u,δ',e,q⟩
  obtain ⟨h,rfl⟩:=k5 e
  exact ⟨h,q⟩
 ·rintro ⟨h,q⟩
  exact ⟨(),_,by unfold va; rw [if_pos h],q⟩
@[simp] theorem d8 {i:Nat} {Q:List D -> DS -> Prop}:Ok (bh i) δ Q ↔ ∃ b xs,δ[i]? = some (.ow b xs) ∧ Q xs δ:= by
 constructor
 ·rintro ⟨d,δ',e,q⟩
  obtain ⟨⟨b,e1⟩,rfl⟩:=bz e
  exact ⟨b,d,e1,q⟩
 ·rintro ⟨b,d,e,q⟩
  exact ⟨d,δ,by unfold bh; rw [e],q⟩
@[simp] theorem oj {i:Nat} {xs:List D} {Q:Unit -> DS -> Prop}:Ok (setOw i xs) δ Q ↔ ∃ b ys,δ[i]? = some (.ow b ys) ∧ Q () (δ.set i (.ow b xs)):= by
 constructor
 ·rintro ⟨u,δ',e,q⟩
  obtain ⟨b,ys,h,rfl⟩:=eT e
  exact ⟨b,ys,h,q⟩
 ·rintro ⟨b,ys,h,q⟩
  exact ⟨(),_,by unfold setOw; rw [h],q⟩
@[simp] theorem cK {i:Nat} {fa:M D} {Q:Fl -> DS -> Prop}:Ok (dH i fa) δ Q ↔ Ok fa δ fun d δ1 => i < δ1.length ∧ Q .nx (δ1.set i (.pu d)):= by
 unfold dH; simp
@[simp] theorem F3 {i:Nat} {fa:M (List D)} {Q:Fl -> DS -> Prop}:Ok (Ak i fa) δ Q ↔ Ok fa δ fun d δ1 => i < δ1.length ∧ Q .nx (δ1.set i (.ow false d)):= by
 unfold Ak; simp
@[simp] theorem qm {f g:M Fl} {Q:Fl -> DS -> Prop}:Ok (aI f g) δ Q ↔ Ok f δ fun fl δ1 => match fl with
  | .nx => Ok g δ1 Q
  | fl => Q fl δ1:= by
 unfold aI
 rw [ar]
 constructor <;>
 ·intro h
  refine h.mono fun fl δ1 q => ?_
  cases fl <;> simpa using q
theorem aK {f g:M Fl} {Q:Fl -> DS -> Prop} (P:DS -> Prop) (h:Ok f δ fun fl δ1 => fl = .nx ∧ P δ1) (k:∀ δ1,P δ1 -> Ok g δ1 Q):Ok (aI f g) δ Q:= by
 rw [qm]
 refine h.mono fun fl δ1 ⟨e,p⟩ => ?_
 subst e
 exact k δ1 p
theorem bT {t:M Bool} {fa g:M Fl} {Q:Fl -> DS -> Prop} (b:Bool) (ht:Ok t δ fun b' δ1 => b' = b ∧ δ1 = δ) (h1:b = true -> Ok fa δ fun fl δ1 => ∃ d,fl = .rt d ∧ Q (.rt d) δ1) (h2:b = false -> Ok g δ Q):Ok (aI (gh t fa (pure .nx)) g) δ Q:= by
 rw [qm]
 unfold gh
 rw [ar]
 refine ht.mono fun b' δ1 ⟨e1,e2⟩ => ?_
 subst e1; subst e2
 cases b' with
 | true =>
  refine Ok.mono (m:=fa) (h1 rfl) fun fl δ2 ⟨d,e,q⟩ => ?_
  subst e
  exact q
 | false => exact (ax (Q:=fun fl δ1 => _)).mpr (h2 rfl)
theorem mW {α:Type} {t:M Bool} {fa fb:M α} {Q:α -> DS -> Prop} (P:Bool -> DS -> Prop) (ht:Ok t δ P) (h1:∀ δ1,P true δ1 -> Ok fa δ1 Q) (h2:∀ δ1,P false δ1 -> Ok fb δ1 Q):Ok (gh t fa fb) δ Q:= by
 unfold gh
 rw [ar]
 refine ht.mono fun b δ1 p => ?_
 cases b with
 | true => exact h1 δ1 p
 | false => exact h2 δ1 p
@[simp] theorem Ff {α:Type} {t:M Bool} {fa fb:M α} {Q:α -> DS -> Prop}:Ok (gh t fa fb) δ Q ↔ Ok t δ fun b δ1 => if b = true then Ok fa δ1 Q else Ok fb δ1 Q:= by
 unfold gh; simp
@[simp] theorem zE {ta tb:M Bool} {Q:Bool -> DS -> Prop}:Ok (kK ta tb) δ Q ↔ Ok ta δ fun b δ1 => if b = true then Ok tb δ1 Q else Q false δ1:= by
 unfold kK; simp
@[simp] theorem iA {ta tb:M Bool} {Q:Bool -> DS -> Prop}:Ok (pq ta tb) δ Q ↔ Ok ta δ fun b δ1 => if b = true then Q true δ1 else Ok tb δ1 Q:= by
 unfold pq; simp
@[simp] theorem yo {ta:M Bool} {Q:Bool -> DS -> Prop}:Ok (e_ ta) δ Q ↔ Ok ta δ fun b δ1 => Q (!b) δ1:= by
 unfold e_; simp
@[simp] theorem eB {f:D -> D -> Option D} {fa fb:M D} {Q:D -> DS -> Prop}:Ok (m2 f fa fb) δ Q ↔ Ok fa δ fun x δ1 => Ok fb δ1 fun y δ2 => Ok (lift (f x y)) δ2 Q:= by
 unfold m2; simp
@[simp] theorem cF {α:Type} {f:List D -> Option α} {fs:M (List D)} {Q:α -> DS -> Prop}:Ok (mC f fs) δ Q ↔ Ok fs δ fun ds δ1 => Ok (lift (f ds)) δ1 Q:= by
 unfold mC; simp
@[simp] theorem ve {α:Type} {f:List D -> Option α} {fs:M (List D)} {Q:α -> DS -> Prop}:Ok (mQ f fs) δ Q ↔ Ok fs δ fun ds δ1 => Ok (lift (f ds)) δ1 Q:= by
 unfold mQ; simp
@[simp] theorem aV {fa:M D} {fs:M (List D)} {Q:List D -> DS -> Prop}:Ok (ae fa fs) δ Q ↔ Ok fa δ fun x δ1 => Ok fs δ1 fun xs δ2 => Q (x :: xs) δ2:= by
 unfold ae; simp
@[simp] theorem qS {fs:M (List D)} {Q:D -> DS -> Prop}:Ok (fH fs) δ Q ↔ Ok fs δ fun xs δ1 => Ok (lift (few xs.length)) δ1 fun _ δ2 => Q (.tup xs) δ2:= by
 unfold fH; simp
@[simp] theorem xC {fs:M (List D)} {Q:List D -> DS -> Prop}:Ok (gF fs) δ Q ↔ Ok fs δ fun xs δ1 => Ok (lift (few xs.length)) δ1 fun _ δ2 => Q xs δ2:= by
 unfold gF; simp
@[simp] theorem i3 {n:Nat} {Q:Unit -> DS -> Prop}:Ok (lift (few n)) δ Q ↔ n ≤ 100000 ∧ Q () δ:= by
 unfold few
 split
 ·rename_i h; rw [eI]; exact ⟨fun q => ⟨h,q⟩,fun q => q.2⟩
 ·rename_i h; rw [zB]; exact ⟨False.elim,fun q => h q.1⟩
@[simp] theorem v9 {d:D} {Q:Bool -> DS -> Prop}:Ok (cB d) δ Q ↔ ∃ b,d = .bl b ∧ Q b δ:= by
 constructor
 ·rintro ⟨b,δ',e,q⟩
  obtain ⟨e1,rfl⟩:=ij e
  exact ⟨b,e1,q⟩
 ·rintro ⟨b,rfl,q⟩
  exact ⟨b,δ,rfl,q⟩
@[simp] theorem FY {d:D} {Q:Option Int -> DS -> Prop}:Ok (xu d) δ Q ↔ ∃ i,d = .int i ∧ Q (some i) δ:= by
 cases d <;> simp [xu]
@[simp] theorem qv {i:Nat} {fb:M D} {Q:D -> DS -> Prop}:Ok (oH i fb) δ Q ↔ (∃ b xs,δ[i]? = some (.ow b xs)) ∧ Ok fb δ fun y δ1 => ∃ b xs,δ1[i]? = some (.ow b xs) ∧ Ok (lift (dj (.lst xs) y)) δ1 Q:= by
 unfold oH
 simp only [ar,d8]
 constructor
 ·rintro ⟨b,xs,e,h⟩; exact ⟨⟨b,xs,e⟩,h⟩
 ·rintro ⟨⟨b,xs,e⟩,h⟩; exact ⟨b,xs,e,h⟩
@[simp] theorem uX {i:Nat} {Q:D -> DS -> Prop}:Ok (jf i) δ Q ↔ ∃ b xs,δ[i]? = some (.ow b xs) ∧ Q (.int xs.length) δ:= by
 unfold jf; simp
@[simp] theorem C1 {i:Nat} {fa:M D} {k:Int} {Q:Fl -> DS -> Prop}:Ok (mr i fa k) δ Q ↔ Ok fa δ fun d δ1 => ∃ b xs,δ1[i]? = some (.ow b xs) ∧ Ok (lift (tG xs.length k)) δ1 fun j δ2 => ∃ b ys,δ2[i]? = some (.ow b ys) ∧ Q .nx (δ2.set i (.ow b (xs.set j d))):= by
 unfold mr; simp
theorem pv {i:Nat} {fs:M (List D)} {Q:Fl -> DS -> Prop} (h0:∃ b xs,δ[i]? = some (.ow b xs)) (h:Ok fs δ fun ds δ1 => ∃ d b xs,ds = [d] ∧ δ1[i]? = some (.ow b xs) ∧ xs.length ≤ 100000 ∧ Q .nx (δ1.set i (.ow b (xs ++ [d])))):Ok (jx i fs) δ Q:= by
 unfold jx
 obtain ⟨b,xs,e⟩:=h0
 simp only [ar,d8]
 refine ⟨b,xs,e,h.mono fun ds δ1 q => ?_⟩
 obtain ⟨d,b',ys,rfl,e1,hn,q⟩:=q
 simp only [ar,d8,i3,oj,ax]
 exact ⟨b',ys,e1,hn,b',ys,e1,q⟩
theorem qX {i:Nat} {fs:M (List D)} {Q:D -> DS -> Prop} (h0:∃ b xs,δ[i]? = some (.ow b xs)) (h:Ok fs δ fun ds δ1 => ∃ (j:Nat) (b:Bool) (xs:List D) (d:D),ds = [.int j] ∧ δ1[i]? = some (.ow b xs) ∧ j < 100000 ∧ xs[j]? = some d ∧ Q d (δ1.set i (.ow b (xs.eraseIdx j)))):Ok (v7 i fs) δ Q:= by
 unfold v7
 obtain ⟨b,xs,e⟩:=h0
 simp only [ar,d8]
 refine ⟨b,xs,e,h.mono fun ds δ1 q => ?_⟩
 obtain ⟨j,b',ys,d,rfl,e1,hn,e2,q⟩:=q
 simp only [ar,d8,oj,ax]
 refine ⟨b',ys,e1,cj (a:=d) ?_ ⟨b',ys,e1,?_⟩⟩
 ·rw [if_pos (by omega),Int.toNat_natCast]; exact e2
 ·rw [Int.toNat_natCast]; exact q
@[simp] theorem xD {fa fb:M D} {Q:D -> DS -> Prop}:Ok (kF fa fb) δ Q ↔ Ok fa δ fun x δ1 => match x with
  | .bl true => Ok fb δ1 Q
  | .bl false => Q (.bl false) δ1
  | _ => False:= by
 unfold kF
 rw [ar]
 constructor <;>
 ·intro h
  refine h.mono fun x δ1 q => ?_
  cases x with
  | bl b => cases b <;> simpa using q
  | _ => simpa using q
@[simp] theorem EN {fa:M D} {Q:D -> DS -> Prop}:Ok (yC fa) δ Q ↔ Ok fa δ fun x δ1 => match x with
  | .bl b => Q (.bl (!b)) δ1
  | _ => False:= by
 unfold yC
 rw [ar]
 constructor <;>
 ·intro h
  refine h.mono fun x δ1 q => ?_
  cases x <;> simpa using q
@[simp] theorem EE {T:Ty} {fa:M D} {Q:D -> DS -> Prop}:Ok (mN T fa) δ Q ↔ Ok fa δ fun d δ1 => Q (.bl (bq T d)) δ1:= by
 unfold mN; simp [sA]
@[simp] theorem Fg {fa fb:M D} {Q:D -> DS -> Prop}:Ok (EJ fa fb) δ Q ↔ Ok fa δ fun v δ1 => Ok (lift (cv v)) δ1 fun t δ2 => if t = true then Q v δ2 else Ok fb δ2 Q:= by
 unfold EJ; simp
@[simp] theorem Cm {fa:M D} {fl fh:M (Option Int)} {Q:D -> DS -> Prop}:Ok (AV fa fl fh) δ Q ↔ Ok fa δ fun x δ1 => Ok fl δ1 fun l δ2 => Ok fh δ2 fun h δ3 => Ok (lift (CU x l h)) δ3 Q:= by
 unfold AV; simp
@[simp] theorem FW {α:Type} {g:D -> D -> Option α} {fa fb:M Hn} {Q:α -> DS -> Prop}:Ok (rH g fa fb) δ Q ↔ Ok fa δ fun h1 δ1 => Ok fb δ1 fun h2 δ2 => Ok (xc h1) δ2 fun x δ3 => Ok (xc h2) δ3 fun y δ4 => Ok (lift (g x y)) δ4 Q:= by
 unfold rH; simp
@[simp] theorem E6 {x:D} {Q:D -> DS -> Prop}:Ok (xc (.th x)) δ Q ↔ Q x δ:= by
 constructor
 ·rintro ⟨b,δ',e,q⟩; cases e; exact q
 ·exact fun q => ⟨x,δ,rfl,q⟩
@[simp] theorem E7 {i:Nat} {Q:D -> DS -> Prop}:Ok (xc (.ls i)) δ Q ↔ ∃ b xs,δ[i]? = some (.ow b xs) ∧ Q (.lst xs) δ:= by
 constructor
 ·rintro ⟨d,δ',e,q⟩
  unfold xc at e
  dsimp only at e
  split at e
  ·rename_i b xs h; cases e; exact ⟨b,xs,h,q⟩
  ·cases e
 ·rintro ⟨b,xs,h,q⟩
  exact ⟨_,δ,by unfold xc; dsimp only; rw [h],q⟩
@[simp] theorem ES {i:Nat} {Q:Hn -> DS -> Prop}:Ok (rM i) δ Q ↔ ∃ b xs,δ[i]? = some (.ow b xs) ∧ Q (.ls i) δ:= by
 unfold rM; simp
@[simp] theorem yz {i n:Nat} {mf:List D -> List D -> Option (D × List D)} {fs:M (List D)} {Q:D -> DS -> Prop}:Ok (c_ i n mf fs) δ Q ↔ Ok fs δ fun ds δ1 => ∃ b xs,δ1[i]? = some (.ow b xs) ∧ ds.length + 1 = n ∧ ∃ r,mf xs ds = some r ∧ Q r.1 (δ1.set i (.ow b r.2)):= by
 constructor
 ·rintro ⟨d,δ',e,q⟩
  unfold c_ at e
  split at e
  ·cases e
  ·rename_i ds δ1 e1
   split at e
   ·rename_i b xs e2
    split at e
    ·rename_i hn
     split at e
     ·cases e
     ·rename_i d' xs' e3
      cases e
      exact ⟨ds,δ1,e1,b,xs,e2,hn,(d,xs'),e3,q⟩
    ·cases e
   ·cases e
 ·rintro ⟨ds,δ1,e,b,xs,e1,hn,⟨d,xs'⟩,e2,q⟩
  exact ⟨d,_,by unfold c_; rw [e]; dsimp only; rw [e1]; dsimp only; rw [if_pos hn,e2],q⟩
@[simp] theorem cM {gt:D -> M Unit} {tt:M Bool} {te:M D} {d:D} {Q:Option D -> DS -> Prop}:Ok (bc gt tt te d) δ Q ↔ Ok (gt d) δ fun _ δ1 => Ok tt δ1 fun b δ2 => if b = true then Ok te δ2 fun x δ3 => Q (some x) δ3 else Q none δ2:= by
 unfold bc; simp
@[simp] theorem EY {n:Nat} {g:List D -> M Unit} {ds:List D} {Q:Unit -> DS -> Prop}:Ok (dz n g (.tup ds)) δ Q ↔ (if ds.length = n then Ok (g ds) δ Q else False):= by
 show Ok (if ds.length = n then g ds else lift none) δ Q ↔ _
 split <;> simp
@[simp] theorem C2 {f:D -> M Unit} {g:List D -> M Unit} {d:D} {ds:List D} {Q:Unit -> DS -> Prop}:Ok (bw f g (d :: ds)) δ Q ↔ Ok (f d) δ fun _ δ1 => Ok (g ds) δ1 Q:= by
 show Ok (f d >>= fun _ => g ds) δ Q ↔ _
 simp
@[simp] theorem C9 {Q:Unit -> DS -> Prop}:Ok (c9 []) δ Q ↔ Q () δ:= by
 show Ok (pure ()) δ Q ↔ _
 simp
end
section
variable {δ:DS}
theorem ED {lo own:Nat} {fi:M jn} {turn:D -> M (Option D)} {Q:List D -> DS -> Prop} (ds:List D) (g:D -> Option D) (hl:δ.length = lo) (hi:Ok fi δ fun it δ' => it = aW ds ∧ δ' = δ) (hn:ds.length ≤ 100000)
  (ht:∀ d ∈ ds,Ok (turn d) (δ ++ List.replicate own .un) fun o δ2 => o = g d ∧ δ2.take lo = δ) (hQ:Q (ds.filterMap g) δ):Ok (aZ lo own fi turn) δ Q:= by
 have gen:∀ es:List D,(∀ d ∈ es,d ∈ ds) -> cU own turn (fun _ => true) (aW es).1 δ = some (es.filterMap g,δ):= by
  intro es
  induction es with
  | nil => intro _; rfl
  | cons d es ih =>
   intro hs
   obtain ⟨o,δ2,e,rfl,e2⟩:=ht d (hs d List.mem_cons_self)
   show cU own turn (fun _ => true) ((fun _ => some d) :: (aW es).1) δ = _
   unfold cU
   dsimp only
   rw [e]
   dsimp only
   rw [hl,e2,ih fun x hx => hs x (List.mem_cons_of_mem _ hx)]
   dsimp only
   rw [List.filterMap_cons]
   cases g d <;> rfl
 unfold aZ
 simp only [ar]
 refine ⟨(),δ,by unfold h9; rw [if_pos hl],hi.mono fun it δ' ⟨e1,e2⟩ => ?_⟩
 subst e1; subst e2
 refine i3.mpr ⟨by simpa [aW] using hn,ds.filterMap g,δ',gen ds fun _ h => h,hQ⟩
theorem aO {α:Type} {lo own:Nat} {fi:M jn} {turn:D -> M (Option D)} {Q:List D -> DS -> Prop} (as:List α) (e:α -> D) (g:α -> Option D) (hl:δ.length = lo) (hi:Ok fi δ fun it δ' => it = aW (as.map e) ∧ δ' = δ) (hn:as.length ≤ 100000)
  (ht:∀ a ∈ as,Ok (turn (e a)) (δ ++ List.replicate own .un) fun o δ2 => o = g a ∧ δ2.take lo = δ) (hQ:Q (as.filterMap g) δ):Ok (aZ lo own fi turn) δ Q:= by
 have gen:∀ es:List α,(∀ d ∈ es,d ∈ as) -> cU own turn (fun _ => true) (aW (es.map e)).1 δ = some (es.filterMap g,δ):= by
  intro es
  induction es with
  | nil => intro _; rfl
  | cons d es ih =>
   intro hs
   obtain ⟨o,δ2,e1,e0,e2⟩:=ht d (hs d List.mem_cons_self)
   show cU own turn (fun _ => true) ((fun _ => some (e d)) :: (aW (es.map e)).1) δ = _
   unfold cU
   dsimp only
   rw [e1]
   dsimp only
   rw [hl,e2,ih fun x hx => hs x (List.mem_cons_of_mem _ hx)]
   dsimp only
   rw [List.filterMap_cons,<- e0]
   cases o <;> rfl
 unfold aZ
 simp only [ar]
 refine ⟨(),δ,by unfold h9; rw [if_pos hl],hi.mono fun it δ' ⟨e1,e2⟩ => ?_⟩
 subst e1; subst e2
 refine i3.mpr ⟨by simpa [aW] using hn,as.filterMap g,δ',gen as fun _ h => h,hQ⟩
theorem br {α β:Type} (p:α -> Bool) (f:α -> β) (as:List α):(as.filterMap fun a => if p a = true then some (f a) else none) = (as.filter p).map f:= by
 induction as with
 | nil => rfl
 | cons a r ih =>
  rw [List.filterMap_cons,List.filter_cons,ih]
  cases p a <;> rfl
theorem dU {lo own:Nat} {fi:M jn} {turn:D -> M (Option D)} {Q:List D -> DS -> Prop} (ds:List D) (I:Nat -> List D -> DS -> Prop) (hl:δ.length = lo) (hi:Ok fi δ fun it δ' => it = aW ds ∧ δ' = δ) (hn:ds.length ≤ 100000) (h0:I 0 [] δ)
  (ht:∀ k (hk:k < ds.length) acc δ,acc.length ≤ k -> δ.length = lo -> I k acc δ -> Ok (turn ds[k]) (δ ++ List.replicate own .un) fun o δ2 => (δ2.take lo).length = lo ∧ I (k + 1) (acc ++ o.toList) (δ2.take lo)) (hQ:∀ xs δ',xs.length ≤ ds.length -> δ'.length = lo -> I ds.length xs δ' -> Q xs δ'):Ok (aZ lo own fi turn) δ Q:= by
 have gen:∀ (n k:Nat) (acc:List D) (δ:DS),ds.length - k = n -> k ≤ ds.length -> acc.length ≤ k -> δ.length = lo -> I k acc δ -> ∃ xs δ',cU own turn (fun _ => true) (aW (ds.drop k)).1 δ = some (xs,δ') ∧ δ'.length = lo ∧ I ds.length (acc ++ xs) δ' ∧ (acc ++ xs).length ≤ ds.length:= by
  intro n
  induction n with
  | zero =>
   intro k acc δ hk hk2 h0 h1 h2
   have:k = ds.length:=by omega
   subst this
   rw [List.drop_length]
   exact ⟨[],δ,rfl,h1,by simpa using h2,by simpa using h0⟩
  | succ n ih =>
   intro k acc δ hk hk2 h0 h1 h2
   have hlt:k < ds.length:=by omega
   rw [List.drop_eq_getElem_cons hlt]
   obtain ⟨o,δ2,e,q1,q2⟩:=ht k hlt acc δ h0 h1 h2
   have ho:o.toList.length ≤ 1:=by cases o <;> simp
   obtain ⟨xs,δ',e',r1,r2,r3⟩:=ih (k + 1) (acc ++ o.toList) (δ2.take lo) (by omega) hlt (by rw [List.length_append]; omega) q1 q2
   refine ⟨o.toList ++ xs,δ',?_,r1,by simpa using r2,by simpa using r3⟩
   show cU own turn (fun _ => true) ((fun _ => some ds[k]) :: (aW (ds.drop (k + 1))).1) δ = _
   unfold cU
   dsimp only
   rw [e]
   dsimp only
   rw [h1,e']
 unfold aZ
 simp only [ar]
 refine ⟨(),δ,by unfold h9; rw [if_pos hl],hi.mono fun it δ' ⟨e1,e2⟩ => ?_⟩
 subst e1; subst e2
 obtain ⟨xs,δ2,e,r1,r2,r3⟩:=gen ds.length 0 [] δ' (by omega) (Nat.zero_le _) (Nat.le_refl _) hl h0
 rw [List.drop_zero] at e
 exact i3.mpr ⟨by simpa [aW] using hn,xs,δ2,e,hQ xs δ2 (by simpa using r3) r1 (by simpa using r2)⟩
theorem pQ {i n k:Nat} {b:Bool} {xs:List D} (h:k < (b_ i n).1.length) (hx:δ[i]? = some (.ow b xs)) (hn:xs.length = n):(b_ i n).1[k] δ = xs[k]?:= by
 have e:=List.getElem_map (fun (j:Nat) (δ:DS) => (match δ[i]? with | some (.ow _ xs) => if xs.length = n then xs[j]? else none | _ => none:Option D)) (l:=List.range n) (i:=k) (h:=by simpa [b_] using h)
 refine Eq.trans (congrFun e δ) ?_
 rw [List.getElem_range,hx]
 simp [hn]
theorem vf {α:Type} {lo own i:Nat} {b:Bool} {fi:M jn} {turn:D -> M (Option D)} {Q:List D -> DS -> Prop} (as:List α) (e:α -> D) (g:α -> Option D) (hl:δ.length = lo) (hx:δ[i]? = some (.ow b (as.map e))) (hi:Ok fi δ fun it δ' => it = b_ i as.length ∧ δ' = δ) (hn:as.length ≤ 100000)
  (ht:∀ a ∈ as,Ok (turn (e a)) (δ ++ List.replicate own .un) fun o δ2 => o = g a ∧ δ2.take lo = δ) (hQ:Q (as.filterMap g) δ):Ok (aZ lo own fi turn) δ Q:= by
 have gen:∀ (n k:Nat),as.length - k = n -> k ≤ as.length -> cU own turn (b_ i as.length).2 ((b_ i as.length).1.drop k) δ = some ((as.drop k).filterMap g,δ):= by
  intro n
  induction n with
  | zero =>
   intro k hk hk2
   have:k = as.length:=by omega
   subst this
   rw [List.drop_length,List.drop_eq_nil_of_le (by simp [b_])]
   have ef:(b_ i as.length).2 δ = true:=by simp [b_,hx]
   unfold cU
   rw [if_pos ef]
   rfl
  | succ n ih =>
   intro k hk hk2
   have hlt:k < as.length:=by omega
   have hlt2:k < (b_ i as.length).1.length:=by simpa [b_] using hlt
   rw [List.drop_eq_getElem_cons hlt,List.drop_eq_getElem_cons hlt2]
   obtain ⟨o,δ2,e1,e0,e2⟩:=ht as[k] (List.getElem_mem hlt)
   unfold cU
   have ea:(b_ i as.length).1[k] δ = some (e as[k]):= by
    rw [pQ hlt2 hx (by simp)]
    simp [hlt]
   rw [ea]
   dsimp only
   rw [e1]
   dsimp only
   rw [hl,e2,ih (k + 1) (by omega) hlt]
   dsimp only
   rw [List.filterMap_cons,<- e0]
   cases o <;> rfl
 unfold aZ
 simp only [ar]
 refine ⟨(),δ,by unfold h9; rw [if_pos hl],hi.mono fun it δ' ⟨e1,e2⟩ => ?_⟩
 subst e1; subst e2
 refine i3.mpr ⟨by simpa [b_] using hn,as.filterMap g,δ',?_,hQ⟩
 have:=gen as.length 0 (by omega) (Nat.zero_le _)
 rwa [List.drop_zero,List.drop_zero] at this
def Es (gt:D -> M Unit) (body:M Fl) (its:List (DS -> Option D)) (fl:Fl):M Fl:=match fl with
 | .nx => forM gt body (fun _ => true) its
 | .ct => forM gt body (fun _ => true) its
 | .bk => pure .nx
 | .rt d => pure (.rt d)
 | .rf d => pure (.rf d)
theorem rP (gt:D -> M Unit) (body:M Fl) (its:List (DS -> Option D)) {d:D} {δ δ1 δ2:DS} {u:Unit} {fl:Fl} (e1:gt d δ = some (u,δ1)) (e2:body δ1 = some (fl,δ2)):forM gt body (fun _ => true) ((fun _ => some d) :: its) δ = Es gt body its fl δ2:= by
 rw [forM]
 dsimp only
 rw [M.bind_def,e1]
 dsimp only
 rw [M.bind_def,e2]
 cases fl <;> rfl
theorem wC {gt:D -> M Unit} {body:M Fl} {Q:Fl -> DS -> Prop} (ds:List D) (I:Nat -> DS -> Prop) (h0:I 0 δ)
  (ht:∀ k (hk:k < ds.length) δ,I k δ -> Ok (gt ds[k]) δ fun _ δ1 => Ok body δ1 fun fl δ2 => match fl with
   | .nx => I (k + 1) δ2
   | .ct => I (k + 1) δ2
   | .bk => Q .nx δ2
   | .rt d => Q (.rt d) δ2
   | .rf d => Q (.rf d) δ2) (hQ:∀ δ,I ds.length δ -> Q .nx δ):Ok (forM gt body (aW ds).2 (aW ds).1) δ Q:= by
 have gen:∀ (n k:Nat) (δ:DS),ds.length - k = n -> k ≤ ds.length -> I k δ -> Ok (forM gt body (fun _ => true) (aW (ds.drop k)).1) δ Q:= by
  intro n
  induction n with
  | zero =>
   intro k δ hk hk2 h
   have:k = ds.length:=by omega
   subst this
   rw [List.drop_length]
   exact ⟨.nx,δ,rfl,hQ δ h⟩
  | succ n ih =>
   intro k δ hk hk2 h
   have hlt:k < ds.length:=by omega
   rw [List.drop_eq_getElem_cons hlt]
   have ht':=ht k hlt δ h
   obtain ⟨u,δ1,e1,fl,δ2,e2,q⟩:=ht'
   have st:forM gt body (fun _ => true) (aW (ds[k] :: ds.drop (k + 1))).1 δ = Es gt body (aW (ds.drop (k + 1))).1 fl δ2:= by
    show forM gt body (fun _ => true) ((fun _ => some ds[k]) :: (aW (ds.drop (k + 1))).1) δ = _
    exact rP gt body _ e1 e2
   cases fl with
   | nx => obtain ⟨a,δ',e,q'⟩:=ih (k + 1) δ2 (by omega) hlt q; exact ⟨a,δ',st.trans e,q'⟩
   | ct => obtain ⟨a,δ',e,q'⟩:=ih (k + 1) δ2 (by omega) hlt q; exact ⟨a,δ',st.trans e,q'⟩
   | bk => exact ⟨.nx,δ2,st,q⟩
   | rt d => exact ⟨.rt d,δ2,st,q⟩
   | rf d => exact ⟨.rf d,δ2,st,q⟩
 have:=gen ds.length 0 δ (by omega) (Nat.zero_le _) h0
 rwa [List.drop_zero] at this
theorem ji {fi:M jn} {gt:D -> M Unit} {body:M Fl} {Q:Fl -> DS -> Prop} (ds:List D) (I:Nat -> DS -> Prop) (hi:Ok fi δ fun it δ' => it = aW ds ∧ δ' = δ) (h0:I 0 δ)
  (ht:∀ k (hk:k < ds.length) δ,I k δ -> Ok (gt ds[k]) δ fun _ δ1 => Ok body δ1 fun fl δ2 => match fl with
   | .nx => I (k + 1) δ2
   | .ct => I (k + 1) δ2
   | .bk => Q .nx δ2
   | .rt d => Q (.rt d) δ2
   | .rf d => Q (.rf d) δ2) (hQ:∀ δ,I ds.length δ -> Q .nx δ):Ok (do let it <- fi; Jt.forM gt body it.2 it.1) δ Q:= by
 rw [ar]
 refine hi.mono fun it δ' ⟨e1,e2⟩ => ?_
 subst e1; subst e2
 exact wC ds I h0 ht hQ
end
theorem bt {N:List Str} {body:M Fl} {ds:List D} {d:D} (h:Ok body (entry N ds) fun fl _ => fl = .rt d):aE N body ds = some d:= by
 obtain ⟨fl,δ',e,rfl⟩:=h
 unfold aE
 rw [e]
theorem xr {N:List Str} {body:M Fl} {ds:List D} {d:List D} (h:Ok body (entry N ds) fun fl _ => fl = .rf d):ff N body ds = some d:= by
 obtain ⟨fl,δ',e,rfl⟩:=h
 unfold ff
 rw [e]
theorem jv {N:List Str} {body:M Fl} {xs ds:List D} {Q:D -> List D -> Prop} (h:Ok body (dD N xs ds) fun fl δ => ∃ d xs',fl = .rt d ∧ δ[0]? = some (.ow true xs') ∧ Q d xs'):∃ d xs',cm N body xs ds = some (d,xs') ∧ Q d xs':= by
 obtain ⟨fl,δ',e,d,xs',rfl,e1,q⟩:=h
 refine ⟨d,xs',?_,q⟩
 unfold cm
 rw [e]
 dsimp only
 rw [e1]
theorem zv {N:List Str} {body:M Fl} {ds:List D} {Q:D -> Prop} (h:Ok body (entry N ds) fun fl _ => ∃ d,fl = .rt d ∧ Q d):∃ d,aE N body ds = some d ∧ Q d:= by
 obtain ⟨fl,δ',e,d,rfl,q⟩:=h
 exact ⟨d,by unfold aE; rw [e],q⟩
theorem yI {N:List Str} {body:M Fl} {ds:List D} {Q:List D -> Prop} (h:Ok body (entry N ds) fun fl _ => ∃ d,fl = .rf d ∧ Q d):∃ d,ff N body ds = some d ∧ Q d:= by
 obtain ⟨fl,δ',e,d,rfl,q⟩:=h
 exact ⟨d,by unfold ff; rw [e],q⟩
end Jt
namespace Jt
open PySem L2 PySem.Spec PyProof.Rows
section
variable {prog:Program} {w:World} {A:Around} {E:Value -> Shared -> Prop} {s:Shared}
end
section
variable {X:Cx}
end
section
variable {X:Cx} {e:Expr} {fq:M (List D)} {p pos:Pos}
end
end Jt
namespace Jt
open PySem L2
section
variable {X:Cx}
def never {α:Type}:M α:=fun _ => none
theorem fA {st:Stmt}:o3 X st never:=fun pins s σ H E I h => by
 obtain ⟨c,δ,S,T,fl,δ',s,e,k⟩:=h
 cases e
end
section
variable {X:Cx} {a:Expr} {fs:M (List D)} {pos p apos cpos:Pos} {x:Str}
end
section
variable {X:Cx} {a:Expr} {ha':M Hn} {fs:M (List D)} {pos p:Pos} {es:List Expr} {x:Str}
variable {k:Nat} {f:Addr} {fd:FuncData} {ps:List Str}
open Classical in
end
end Jt
namespace Jt
open PySem L2
section
variable {X:Cx} {a:Expr} {fa:M D} {pos:Pos}
def m1 (f:D -> Option D) (fa:M D):M D:=do
 let x <- fa
 lift (f x)
end
end Jt
namespace Jt
open PySem L2
section
variable {δ:DS}
@[simp] theorem Bx {r1 r2:D -> D -> Option D} {fa fb fc:M D} {Q:D -> DS -> Prop}:Ok (tP r1 r2 fa fb fc) δ Q ↔ Ok fa δ fun x δ1 => Ok fb δ1 fun y δ2 => Ok (lift (r1 x y)) δ2 fun z δ3 => match z with
  | .bl true => Ok fc δ3 fun w δ4 => Ok (lift (r2 y w)) δ4 Q
  | .bl false => Q (.bl false) δ3
  | _ => False:= by
 unfold tP
 simp only [ar]
 constructor <;>
 ·intro h
  refine h.mono fun x δ1 h => h.mono fun y δ2 h => h.mono fun z δ3 h => ?_
  cases z with
  | bl b => cases b <;> simpa using h
  | _ => simpa using h
end
end Jt
namespace Jt
open PySem L2 PySem.Spec PyProof.Rows
section
variable {prog:Program} {w:World} {A:Around} {E:Value -> Shared -> Prop} {s:Shared}
theorem t7 {t b:Addr} {ws:List Value} {Q:Value -> Shared -> Prop} (ht:IsTup s.heap t #[]) (hb:IsTup s.heap b ws.toArray) (h:Q (.ref b) s):wpAny (model prog w) A (binaryOp .Add (.ref t) (.ref b)) Q E s:= by
 obtain ⟨⟨cls,dd,data,sl⟩,ho,hc,n,hd⟩:=id ht
 obtain ⟨⟨cls2,dd2,data2,sl2⟩,ho2,hc2,n2,hd2⟩:=id hb
 simp only at hc hd hc2 hd2
 subst hc hd hc2 hd2
 exact concat_meets ⟨_,ho,rfl⟩ ⟨_,ho2,rfl⟩ noFill_tuple_add seq_tuple_add PySem.F.slot_tuple_add PySem.F.entry_tuple_add (PySem.F.args_tuple_add_2 _ _) (tuple_addW0 t b #[] ws.toArray n n2 dd dd2 sl sl2 rfl) ⟨ho,ho2,h⟩
end
section
variable {X:Cx} {a b e:Expr} {fa fb:M D} {pos:Pos}
def Ae (K:PySem.W.Frag):R2:=fun x y H Q => wX K x y H Q ∨ ∃ p q ys,x = .ref p ∧ y = .ref q ∧ gp K H p [] ∧ gp K H q ys ∧ Q (.ref q) H
theorem yJ:f9 X (binaryOp .Add) (Ae X.K):= by
 intro pins s σ H x y v u Q I rx ry h
 rcases h with h | ⟨p,q,ys,rfl,rfl,hp,hq,k⟩
 ·exact zy pins s σ H x y v u Q I rx ry h
 ·cases rx
  cases ry
  obtain ⟨its,r1,p1,_⟩:=I.tuple hp
  obtain ⟨its2,r2,p2,_⟩:=I.tuple hq
  have e:its = []:=r1.nil_iff.mpr rfl
  subst e
  exact t7 p1 p2 ⟨.ref q,H,I,rfl,k⟩
def kr:D -> D -> Option D
 | .tup xs,.tup ys => if xs.length + ys.length ≤ 100000 then some (.tup (xs ++ ys)) else none
 | _,_ => none
theorem vA {K:PySem.W.Frag}:oQ (Ae K) kr:=fun c δ S σ T H x y v u d Q s e k => by
 unfold kr at e
 split at e
 ·rename_i xs ys
  split at e
  ·rename_i hn
   cases e
   cases xs with
   | cons x xs =>
    refine .inl (vB c δ S σ T H (.tup (x :: xs)) (.tup ys) v u _ Q s ?_ k)
    show (if xs.length + 1 + ys.length ≤ 100000 then _ else _) = _
    rw [if_pos (by simpa using hn)]
   | nil =>
    obtain ⟨p,ws,rfl,h1,h3⟩:=s.st.tail.head.tup
    obtain ⟨q,zs,rfl,h4,h5⟩:=s.st.head.tup
    rw [h3.inv0] at h1
    exact .inr ⟨p,q,zs,rfl,rfl,.of (aF _ _ h1),.of (aF _ _ h4),k _ _ (s.stk (.cons s.st.head s.st.tail.tail))⟩
  ·cases e
 ·cases e
theorem qW (ha:DE X a fa) (hb:DE X b fb):DE X (.BinOp a .Add b pos) (m2 kr fa fb):=lg yJ vA ha hb
end
end Jt
namespace Jt
open PySem L2 PySem.Spec PyProof.Rows
section
variable {prog:Program} {w:World} {A:Around} {E:Value -> Shared -> Prop} {s:Shared}
end
section
variable {X:Cx} {e:Expr} {te:TE} {fa:M D} {j:Nat} {pos p2 p3 p4:Pos}
end
section
variable {X:Cx} {a:Expr} {fa:M D} {fs:M (List D)} {es us:List Expr} {vs:List (Option Expr)} {pos p2:Pos} {j:Nat} {c:Const} {o:UnaryOp} {env:Env}
end
theorem c6 (neg:Bool) (a b:Int):cn neg (.int a) (.int b) = some (.bl (if neg then !decide (a = b) else decide (a = b))):= by
 show (if kc (.int a) (.int b) = true then some (D.bl (if neg then !decide (V.int a = V.int b) else decide (V.int a = V.int b))) else none) = _
 rw [if_pos (show kc (.int a) (.int b) = true from rfl)]
 simp only [V.int.injEq]
theorem ir (neg:Bool) (a b:Bool):cn neg (.bl a) (.bl b) = some (.bl (if neg then !decide (a = b) else decide (a = b))):= by
 show (if kc (.bl a) (.bl b) = true then some (D.bl (if neg then !decide (V.bl a = V.bl b) else decide (V.bl a = V.bl b))) else none) = _
 rw [if_pos (show kc (.bl a) (.bl b) = true from rfl)]
 simp only [V.bl.injEq]
theorem uy (neg:Bool) (a b:Bool):dP neg (.bl a) (.bl b) = some (.bl (if neg then !decide (a = b) else decide (a = b))):=ir neg a b
theorem jL (neg:Bool) (a b:Int):dP neg (.int a) (.int b) = some (.bl (if neg then !decide (a = b) else decide (a = b))):=c6 neg a b
@[simp] theorem zo:bq .int .non = false:=rfl
@[simp] theorem Ai (b:Bool):bq .int (.bl b) = true:=rfl
@[simp] theorem zC (i:Int):bq .int (.int i) = true:=rfl
@[simp] theorem ze (x:Str):bq .int (.str x) = false:=rfl
@[simp] theorem yZ (xs:List D):bq .int (.tup xs) = false:=rfl
@[simp] theorem yn (xs:List D):bq .int (.lst xs) = false:=rfl
@[simp] theorem xt:bq .int .dct = false:=rfl
@[simp] theorem yf (k:List (Int × Int)):bq .int (.dic k) = false:=rfl
@[simp] theorem zx (k:List ((Int × Int) × Int)):bq .int (.dip k) = false:=rfl
@[simp] theorem xg:bq .bool .non = false:=rfl
@[simp] theorem yt (b:Bool):bq .bool (.bl b) = true:=rfl
@[simp] theorem xm (i:Int):bq .bool (.int i) = false:=rfl
@[simp] theorem xk (x:Str):bq .bool (.str x) = false:=rfl
@[simp] theorem xi (xs:List D):bq .bool (.tup xs) = false:=rfl
@[simp] theorem xl (xs:List D):bq .bool (.lst xs) = false:=rfl
@[simp] theorem xh:bq .bool .dct = false:=rfl
@[simp] theorem xj (k:List (Int × Int)):bq .bool (.dic k) = false:=rfl
@[simp] theorem xn (k:List ((Int × Int) × Int)):bq .bool (.dip k) = false:=rfl
@[simp] theorem zD:bq .tup .non = false:=rfl
@[simp] theorem Aj (b:Bool):bq .tup (.bl b) = false:=rfl
@[simp] theorem zm (i:Int):bq .tup (.int i) = false:=rfl
@[simp] theorem yY (x:Str):bq .tup (.str x) = false:=rfl
@[simp] theorem yS (xs:List D):bq .tup (.tup xs) = true:=rfl
@[simp] theorem xx (xs:List D):bq .tup (.lst xs) = false:=rfl
@[simp] theorem y_:bq .tup .dct = false:=rfl
@[simp] theorem xN (k:List (Int × Int)):bq .tup (.dic k) = false:=rfl
@[simp] theorem y9 (k:List ((Int × Int) × Int)):bq .tup (.dip k) = false:=rfl
@[simp] theorem xE:bq .lst .non = false:=rfl
@[simp] theorem Ag (b:Bool):bq .lst (.bl b) = false:=rfl
@[simp] theorem xR (i:Int):bq .lst (.int i) = false:=rfl
@[simp] theorem xO (x:Str):bq .lst (.str x) = false:=rfl
@[simp] theorem xQ (xs:List D):bq .lst (.tup xs) = false:=rfl
@[simp] theorem y3 (xs:List D):bq .lst (.lst xs) = true:=rfl
@[simp] theorem yM:bq .lst .dct = false:=rfl
@[simp] theorem zh (k:List (Int × Int)):bq .lst (.dic k) = false:=rfl
@[simp] theorem yq (k:List ((Int × Int) × Int)):bq .lst (.dip k) = false:=rfl
@[simp] theorem xT:bq .str .non = false:=rfl
@[simp] theorem zZ (b:Bool):bq .str (.bl b) = false:=rfl
@[simp] theorem xK (i:Int):bq .str (.int i) = false:=rfl
@[simp] theorem xH (x:Str):bq .str (.str x) = true:=rfl
@[simp] theorem yL (xs:List D):bq .str (.tup xs) = false:=rfl
@[simp] theorem yW (xs:List D):bq .str (.lst xs) = false:=rfl
@[simp] theorem yB:bq .str .dct = false:=rfl
@[simp] theorem zG (k:List (Int × Int)):bq .str (.dic k) = false:=rfl
@[simp] theorem yO (k:List ((Int × Int) × Int)):bq .str (.dip k) = false:=rfl
end Jt
namespace Jt
open PySem L2 PySem.Spec PyProof.Rows
section
variable {prog:Program} {w:World} {A:Around} {E:Value -> Shared -> Prop} {s:Shared}
end
section
variable {X:Cx} {e:Expr} {fa:M D} {pos:Pos}
end
end Jt
namespace Jt
open PySem L2
open PyProof.Rows (AllBare)
section
variable {M:Model} {A:Around} {E:Value -> Shared -> Prop} {s:Shared} {base:Heap} {env:Env} {outer:List Env} {L e:Addr} {oe:Obj} {vs ws:Array Value} {head fl:Value} {hadNext:Bool} {Q:Unit -> Shared -> Prop}
end
section
variable {X:Cx} {pins:List (Addr × Obj)} {σ:St} {H:Hp} {s s':Shared} {h':Heap}
end
end Jt
namespace Jt
open PySem L2
open PyProof.Rows (AllBare)
abbrev XW:=St -> Value -> Hp -> Prop
abbrev GC:=Ends -> XW -> XW -> St -> Hp -> Prop
section
variable {X:Cx} {e c:Expr} {es:List Expr} {st:Stmt} {rest as bs:List Stmt} {pos p:Pos}
end
end Jt
namespace Jt
open PySem L2
section
variable {X:Cx} {a b e:Expr} {fa fb:M D} {fs:M (List D)} {pos p:Pos}
theorem ux {x:Str} {i:Int} {t:Tok} (hm:X.mg x = some (.int i t)) (hg:Gl X x:=by rfl) (hd:(x == ("__debug__":Str)) = false:=by decide):DE X (.Name x pos) (pure (.int i)):=Fo (yk (v:=.int i) hg hm ⟨t,rfl⟩ hd) fun _ => .mkI
end
section
variable {P:Program} {w:World} {K:PySem.W.Frag} {mg:Str -> Option Value} {base:Heap} {k:Nat} {f:Addr} {fd:FuncData} {ps:List Str} {CX:oT}
end
end Jt
namespace Jt
open PySem PySem.W PySem.Calls PyProof.Rows L2
end Jt
namespace Jt
open PySem L2
open PyProof.Rows (AllBare)
section
variable {X:Cx} {a e:Expr} {es:List Expr} {fa:M D} {fx:M (D ⊕ Addr)} {fxs:M (List D ⊕ Addr)} {fs:M (List D)} {pos p:Pos} {st:Stmt} {rest as bs:List Stmt} {f:M Fl} {g h:M (Fl ⊕ Addr)} {tt:M Bool} {k:Bool}
end
section
variable {P:Program} {w:World} {K:PySem.W.Frag} {mg:Str -> Option Value} {base:Heap} {k:Nat} {f:Addr} {fd:FuncData} {N ps:List Str} {x qual:Str} {st:Stmt} {body:M (Fl ⊕ Addr)}
end
end Jt
namespace Jt
open PySem L2
open PyProof.Rows (AllBare)
def hx (X:Cx) (a:Addr) (o:Obj):Cx:={ X with A:=X.A.mark (some (.ref a)),calm:=false,pn:=(a,o) :: X.pn,xe:=fun _ _ => False }
section
variable {X:Cx} {pins:List (Addr × Obj)} {σ:St} {H:Hp} {s:Shared}
end
section
variable {X:Cx} {body sts:List Stmt} {b0:Stmt} {x n:Str} {C0:Addr} {i:Nat} {tb:GC} {th:Addr -> Value -> TS} {p hpos pos:Pos} {Adm:Value -> Prop}
end
end Jt
namespace Jt
open PySem L2
open PySem.W (nd_bind Looks InstAt findIn specialIn takesIn mroIn clsIn findObj looks_findIn looks_find looks_mroIn KitX kitOne kitCls class_get)
section
variable {prog:Program} {w:World} {A:Around} {E:Value -> Shared -> Prop} {s:Shared} {K:PySem.W.Frag} {x D:Addr} {ox:Obj}
end
end Jt
namespace Jt
open PySem L2
open PySem.SeqAt (list_countAt list_indexAt)
section
variable {X:Cx}
end
end Jt
namespace Jt
open PySem L2 PySem.Spec PyProof.Rows
section
variable {P:Program} {w:World} {K:PySem.W.Frag} {mg:Str -> Option Value} {base:Heap} {k:Nat} {f:Addr} {fd:FuncData} {N ps:List Str} {x qual:Str} {st:Stmt} {D:Addr} {res:V}
end
end Jt
namespace Jt
open PySem L2
section
variable {X:Cx} {body:List Stmt} {x n y g:Str} {C0 f:Addr} {ie iy k:Nat} {fd:FuncData} {ps:List Str} {kinds:Addr -> Option Str} {fx:M (Fl ⊕ Addr)} {p hpos pos py pg pn pc pa:Pos}
end
end Jt
namespace Jt
open PySem L2
section
variable {prog:Program} {w:World} {A:Around} {E:Value -> Shared -> Prop} {s:Shared} {a:Addr} {o:Obj}
end
end Jt
namespace L2
open PySem PySem.Spec PyProof.Rows
abbrev tests (ifs:List Expr) (env:Env):Sem Bool:=forIn ifs true fun c r => if r = true then do let ok <- isTrue c env (eval c env); pure (ForInStep.yield ok) else pure (ForInStep.yield r)
section
variable {prog:Program} {w:World} {A:Around} {R:Result -> Shared -> Prop} {s:Shared} {elt t1 i1 t2 i2:Expr} {ifs1 ifs2:List Expr} {scope:Scope} {pos:Pos} {it acc:Value} {env:Env}
abbrev two (elt t1 i1:Expr) (ifs1:List Expr) (t2 i2:Expr) (ifs2:List Expr) (scope:Scope) (pos:Pos):Expr:=.ListComp elt [⟨t1,i1,ifs1,0⟩,⟨t2,i2,ifs2,0⟩] scope pos
end
section
variable {Y:Cx} {elt t1 i1 t2 i2:Expr} {ifs1 ifs2:List Expr} {scope:Scope} {pos:Pos} {wi:TI} {g:TG} {tt:TT} {te:TE}
end
section
variable {X:Cx} {elt t1 i1 t2 i2:Expr} {ifs1 ifs2:List Expr} {scope:Scope} {pos pos':Pos} {N' own:List Str} {wi wi2:TI} {g g2:TG} {tt tt2:TT} {te:TE}
end
end L2
namespace Jt
open PySem L2
section
variable {X:Cx} {elt t1 i1 t2 i2:Expr} {te:M D} {pos:Pos} {tt tt2:M Bool} {fi fi2:M jn} {gt gt2:D -> M Unit}
variable {N' own:List Str} {scope:Scope} {ifs1 ifs2:List Expr} {lo:Nat}
end
end Jt
namespace Jt
open PySem L2
section
variable {X:Cx} {a ie:Expr} {fF:M (List D)} {fb:M D} {x:Str} {p apos cpos pos psub:Pos}
end
section
open PySem.Spec PyProof.Rows
variable {X:Cx} {e:Expr} {te:TE} {fa:M D} {j:Nat} {pos p2 p3 p4:Pos}
end
section
variable {δ:DS}
end
end Jt
namespace Jt
open PySem L2
section
variable {X:Cx} {a:Expr} {fs:M (List D)} {p pos:Pos}
end
end Jt
namespace Jt
open PySem L2
mutual
def py:D -> PyData
 | .non => .none
 | .bl b => .bool b
 | .int i => .int i
 | .str x => .str x
 | .tup xs => .tuple (Fx xs)
 | .lst xs => .list (Fx xs)
 | .dct => .dict []
 | .dic _ => .dict []
 | .dip _ => .dict []
def Fx:List D -> List PyData
 | [] => []
 | d :: r => py d :: Fx r
end
section
variable {X:Cx} {a:Expr} {fs:M (List D)} {p pos:Pos}
end
end Jt
namespace Jt
open PySem L2 PySem.Spec PyProof.Rows
section
variable {prog:Program} {w:World} {A:Around} {E:Value -> Shared -> Prop} {s:Shared}
end
section
variable {X:Cx} {e:Expr} {te:TE} {fa:M D} {j j0:Nat} {pos p2 p3 p4 p5:Pos}
end
end Jt
namespace Jt
open PySem L2 PySem.Spec PyProof.Rows
section
variable {X:Cx} {e:Expr} {te:TE} {fe:M D} {a b c d:Str} {j1 j2 j3 j4:Nat} {pos p0 p1 p2 p3 p4:Pos}
end
end Jt
namespace Jt
open PySem L2
section
variable {X:Cx} {a e:Expr} {es:List Expr} {fa fe:M D} {fs:M (List D)} {ha' hb':M Hn} {c d x y:Str} {j j1 j2 j3 j4:Nat} {pos p0 p1 p2 p3 p4:Pos}
end
end Jt
namespace Jt
open PySem L2
end Jt
namespace Jt
open PySem L2 PySem.Spec PyProof.Rows
section
variable {X:Cx} {elt tg iter l:Expr} {ifs:List Expr} {scope:Scope} {pos pos':Pos} {N' own:List Str} {wi:TI} {g:TG} {tt:TT} {te tl:TE}
end
end Jt
namespace Jt
open PySem L2 PySem.Spec PyProof.Rows
section
variable {X:Cx} {tg l:Expr} {tl:TE} {p pos:Pos} {fa:M D}
end
end Jt
namespace Jt
open PySem L2
end Jt
namespace Jt
open PySem L2 PySem.Spec PyProof.Rows
section
variable {prog:Program} {w:World} {A:Around} {E:Value -> Shared -> Prop} {s:Shared}
end
section
variable {X:Cx} {a b:Expr} {fa fb:M D} {pos:Pos}
end
section
variable {X:Cx} {a:Expr} {fs:M (List D)} {p pos:Pos}
end
section
variable {X:Cx} {a b c0:Expr} {fa fb fc:M D} {pos:Pos}
theorem DP {g g':Int -> Int -> V} {h h':Int -> Int -> D} (hg:∀ H i j,R H (h i j) (g i j)) (hg':∀ H i j,R H (h' i j) (g' i j)) (σ:L2.St) (H:Hp) (Q:V -> Hp -> Prop)
  (hq:tM (tP (bO (fun _ _ => true) h) (bO (fun _ _ => true) h') fa fb fc) σ H Q):pG (qG g) (qG g') (tM fa) (tM fb) (tM fc) σ H Q:= by
 obtain ⟨c,δ,S,T,d,δ',s,e,k⟩:=hq
 obtain ⟨x,δ1,e1,e⟩:=bind_some e
 obtain ⟨y,δ2,e2,e⟩:=bind_some e
 obtain ⟨z,δ3,e3,e⟩:=bind_some e
 obtain ⟨e4,rfl⟩:=aw e3
 obtain ⟨i,j,rfl,rfl,_,rfl⟩:=dk e4
 refine ⟨c,δ,S,T,.int i,δ1,s,e1,fun v H1 s1 => ⟨c,δ1,.int i :: S,v :: T,.int j,δ2,s1,e2,fun u H2 s2 => ?_⟩⟩
 refine ⟨i,j,s2.st.tail.head.int,s2.st.head.int,?_⟩
 have rg:=hg (eJ c δ2 σ H2) i j
 cases hz:h i j with
 | bl q =>
  rw [hz] at e rg
  refine ⟨q,rg.bl,?_⟩
  cases q with
  | true =>
   obtain ⟨w,δ4,e5,e⟩:=bind_some e
   obtain ⟨e6,rfl⟩:=aw e
   rw [if_pos rfl]
   obtain ⟨i',j',ei,rfl,_,rfl⟩:=dk e6
   cases ei
   exact ⟨c,δ2,.int j :: .int i :: S,u :: v :: T,.int j',δ4,s2,e5,fun w' H4 s4 => ⟨j,j',s4.st.tail.head.int,s4.st.head.int,k _ _ (s4.stk (.cons (hg' _ _ _) s4.st.tail.tail.tail))⟩⟩
  | false =>
   obtain ⟨rfl,rfl⟩:=ak e
   rw [if_neg Bool.false_ne_true]
   exact k _ _ (s2.stk (.cons .mkB s2.st.tail.tail))
 | _ => rw [hz] at e; cases e
theorem u_ {op op':CmpOp} {g g':Int -> Int -> V} {h h':Int -> Int -> D} (ho:f9 X (compareOp op) (qG g)) (ho':f9 X (compareOp op') (qG g')) (hg:∀ H i j,R H (h i j) (g i j)) (hg':∀ H i j,R H (h' i j) (g' i j)) (ha:DE X a fa) (hb:DE X b fb) (hc:DE X c0 fc)
  (hm:lastMarks [op,op'] [b,c0] = false:=by with_unfolding_all rfl):DT X (.Compare a [op,op'] [b,c0] pos) (tP (bO (fun _ _ => true) h) (bO (fun _ _ => true) h') fa fb fc >>= cB) :=
 uh (vS ho ho' ha hb hc hm) fun σ H Q ⟨c,δ,S,T,d,δ',s,e,k⟩ => by
  obtain ⟨x,δ1,e1,e⟩:=bind_some e
  obtain ⟨rfl,rfl⟩:=ij e
  exact DP hg hg' σ H _ ⟨c,δ,S,T,.bl d,δ1,s,e1,fun v H' s' => ⟨d,s'.st.head.bl,k _ s'.pop⟩⟩
theorem qQ (ha:DE X a fa) (hb:DE X b fb) (hc:DE X c0 fc) (hm:lastMarks [.LtE,.LtE] [b,c0] = false:=by with_unfolding_all rfl):DT X (.Compare a [.LtE,.LtE] [b,c0] pos) (tP oV oV fa fb fc >>= cB):=u_ wb wb (fun _ _ _ => .mkB) (fun _ _ _ => .mkB) ha hb hc hm
end
end Jt
namespace Jt
open PySem L2 PySem.Spec PyProof.Rows
section
open PySem.SeqAt
open PySem.AutoSeq1 (wpAny_loadPart')
open PySem.MeetsSeq PySem.MeetsSeq2 PySem.MeetsSeq3
theorem kQ (l:Addr) (items:Array Value) (n:Nat) (dd:Option Addr) (sl:Array (Option Value)) (x:Value) (e:Value -> Bool) (j:Nat) (hj:j < items.size) (h1:e items[j] = true) (h2:∀ m (hm:m < items.size),m < j -> e items[m] = false) :
  Meets (Builtin.«tuple.index» ⟨[.ref l,x],[]⟩) (fun A R s => s.heap.get? l = some { cls:=.type "tuple",dict:=dd,data:=.seq items n,slots:=sl } ∧ (∀ y ∈ items,EqAt A.in1 s y x (e y)) ∧ R (.ok (.ret (.int (j:Int) s.toks))) { s with toks:=s.toks + 1 }) :=
 .of_wp fun prog w A R s h => by
  obtain ⟨hp,g,d,tk,os⟩:=s; obtain ⟨hl,he,h⟩:=h
  unfold Builtin.«tuple.index»
  simp only [Std.Legacy.Range.forIn_eq_forIn_range']
  wp_walk using wpAny_loadPart' hl,wpAny_forIn_list _ (fun rest b s' => b.1 = none ∧ s' = ⟨hp,g,d,tk,os⟩ ∧ ∃ m,rest = List.range' m (items.size - m) ∧ m ≤ j) _
  case turn =>
   rintro i rest b s' ⟨hb,rfl,m,hr,hm⟩
   have hms:items.size - m = (items.size - (m + 1)) + 1:=by omega
   rw [hms,List.range'_succ] at hr
   injection hr with hi hr
   subst hi
   have hi:i < items.size:=by omega
   have hy:items[i]? = some items[i]:=Array.getElem?_eq_getElem hi
   rw [hy]
   have hE:=he items[i] (Array.getElem_mem hi)
   refine wpAny_bind (hE prog w _ _ ?_)
   by_cases q:i = j
   ·subst q
    rw [h1]
    wp_walk
    exact ⟨_,rfl,h⟩
   ·rw [h2 i hi (by omega)]
    wp_walk
    exact ⟨rfl,rfl,i + 1,hr,by omega⟩
  case fin =>
   rintro ⟨b1,b2⟩ s' ⟨hb,rfl,m,hr,hm⟩
   have hms:items.size - m = (items.size - (m + 1)) + 1:=by omega
   rw [hms,List.range'_succ] at hr
   cases hr
  case h =>
   exact ⟨rfl,rfl,0,by simp,Nat.zero_le _⟩
end
section
variable {X:Cx} {o e a:Expr} {es:List Expr} {to:TE} {t:TA} {name:Str} {apos cpos p pos:Pos} {id:String} {r:V -> List V -> Hp -> VK -> Prop} {fo fa:M D} {fs:M (List D)}
def Gn (r:V -> List V -> Hp -> VK -> Prop) (to:TE) (t:TA):TE:=fun σ H Q => to σ H fun x H1 => (∃ p xs,x = .ref p ∧ H1 p = some (.tup xs)) ∧ t σ H1 fun xs H2 => r x xs H2 Q
theorem B1 (slot:PySem.Slot "tuple" name id) (hty:typeOf (.builtin id) = pure (.type "method_descriptor")) (hm:EK X id r) (ho:PE X o to) (ha:PA X (e :: es) t)
  (hbase:attributeBase o name X.env (eval o X.env) = eval o X.env:=by rfl)
  (hfew:((backTo cpos (starEach (e :: es) X.env)).all (fun x => !x.1) && (backToKw cpos (keywordEach [] X.env)).all (fun x => x.1.isSome)
   && decide ((e :: es).length + ([]:List Keyword).length + (if ([]:List Keyword).isEmpty then 0 else 1) < 30)) = true:=by rfl)
  (hline:(apos.endLine == cpos.line) = true:=by rfl) (hs:starEach (e :: es) X.env = (false,eval e X.env) :: starEach es X.env:=by rfl) (hplain:(backTo cpos (starEach es X.env)).any (·.1) = false:=by rfl) :
  PE X (.Call (.Attribute o name apos) (e :: es) [] cpos) (Gn r to t):= by
 intro pins s σ H Q I h
 refine wpAny_Call_method_late hbase hfew hline rfl (bj (ho pins s σ H _ I h) fun v s1 ⟨x,H1,I1,r1,ty,q1⟩ => ?_)
 obtain ⟨p,xs,rfl,hp⟩:=ty
 cases r1
 obtain ⟨_,its,_,⟨ob,e1,e2,_⟩,ob2,e3,e4⟩:=(show bX X.prog X.w H1 s1.heap p (.tup xs) from I1.hok p _ hp)
 refine ⟨"tuple",id,PySem.F.plainAttrs_tuple,slot,hty,⟨ob,e1,e2⟩,fun a z => by cases z; exact ⟨ob2,e3,e4⟩,?_⟩
 have hA:=ha cpos pins s1 σ H1 _ I1 q1
 rw [hs] at hA ⊢
 refine Calls.callWith_builtin (by show (false || (backTo cpos (starEach es X.env)).any (·.1)) = false; rw [hplain] <;> rfl) (Calls.evalArgs_plain ?_)
 exact bj hA fun us s2 ⟨vs,H2,I2,r2,q2⟩ => hm pins s2 σ H2 (.ref p) vs (.ref p) us Q I2 rfl r2 q2
def yy:V -> List V -> Hp -> VK -> Prop:=fun x vs H Q => ∃ (l:Addr) (ns:List Int) (c:Int),x = .ref l ∧ vs = [.int c] ∧ H l = some (.tup (ns.map V.int)) ∧ c ∈ ns ∧ Q (.int (ns.idxOf c)) H
def E5 (c:Int):Value -> Bool
 | .int i _ => i == c
 | _ => false
theorem rT:EK X "tuple.index" yy:= by
 intro pins s σ H x vs v us Q I rx rv h
 obtain ⟨l,ns,c,rfl,rfl,hH,hc,q⟩:=h
 cases rx
 obtain ⟨u,rfl,ru⟩:=rv.one
 obtain ⟨tc,rfl⟩:=ru
 obtain ⟨its,r,pl,_⟩:=I.tuple (.of hH)
 obtain ⟨⟨cls,dd,data,sl⟩,e0,e1,n,e2⟩:=id pl
 simp only at e1 e2
 subst e1 e2
 have hl:its.length = ns.length:=by rw [<- r.length,List.length_map]
 have hj:ns.idxOf c < ns.length:=List.idxOf_lt_length_iff.mpr hc
 have at_:∀ m (hm:m < ns.length),∃ t,its[m]? = some (.int ns[m] t):=fun m hm => by
  obtain ⟨u,e,ru⟩:=r.get (i:=m) (x:=.int ns[m]) (by simp [hm])
  obtain ⟨t,rfl⟩:=ru
  exact ⟨t,e⟩
 refine call_meets PySem.F.slot_tuple_index ⟨_,e0,rfl⟩ PySem.F.entry_tuple_index (PySem.F.args_tuple_index_2 _ _) (kQ l its.toArray n dd sl (.int c tc) (E5 c) (ns.idxOf c) (by simp; omega) ?_ ?_) ⟨e0,fun y hy => ?_,?_⟩
 ·obtain ⟨t,e⟩:=at_ _ hj
  have:=(List.getElem?_eq_some_iff.mp e).2
  simp only [List.getElem_toArray]
  rw [this]
  simp [E5,List.getElem_idxOf hj]
 ·intro m hm hlt
  have hm':m < ns.length:=by omega
  obtain ⟨t,e⟩:=at_ _ hm'
  have:=(List.getElem?_eq_some_iff.mp e).2
  simp only [List.getElem_toArray]
  rw [this]
  have ne:ns[m] ≠ c:=fun z => by
   have:=List.not_of_lt_findIdx (p:=fun x => x == c) (xs:=ns) (i:=m) hlt
   simp [z] at this
  simp [E5,ne]
 ·obtain ⟨m,hm⟩:=List.mem_iff_getElem?.mp (show y ∈ its by simpa using hy)
  have hm':m < ns.length:=by rw [<- hl]; exact (List.getElem?_eq_some_iff.mp hm).1
  obtain ⟨t,e⟩:=at_ _ hm'
  rw [hm] at e
  cases e
  exact SeqAt.EqAt.int_int ns[m] t c tc
 ·exact ⟨.int (ns.idxOf c),H,I.tok _,⟨_,rfl⟩,q⟩
def kl (x:D) (ds:List D):Option D:=match x,ds with
 | .tup es,[.int c] => (dt es).bind fun ns => if c ∈ ns then some (.int (ns.idxOf c)) else none
 | _,_ => none
def vh (fo:M D) (fs:M (List D)):M D:=do
 let x <- fo
 let ds <- fs
 lift (kl x ds)
theorem nc (ho:DE X o fo) (ha:DA X [a] fs)
  (hbase:attributeBase o "index" X.env (eval o X.env) = eval o X.env:=by rfl)
  (hfew:((backTo cpos (starEach [a] X.env)).all (fun x => !x.1) && (backToKw cpos (keywordEach [] X.env)).all (fun x => x.1.isSome)
   && decide (([a]:List Expr).length + ([]:List Keyword).length + (if ([]:List Keyword).isEmpty then 0 else 1) < 30)) = true:=by rfl)
  (hline:(apos.endLine == cpos.line) = true:=by rfl) (hs:starEach [a] X.env = [(false,eval a X.env)]:=by rfl) :
  DE X (.Call (.Attribute o "index" apos) [a] [] cpos) (vh fo fs) :=
 b8 (B1 PySem.F.slot_tuple_index PySem.F.type_tuple_index rT ho ha hbase hfew hline hs rfl) fun σ H Q ⟨c,δ,S,T,d,δ',s,e,k⟩ => by
  obtain ⟨x,δ1,e1,e⟩:=bind_some e
  obtain ⟨ds,δ2,e2,e⟩:=bind_some e
  obtain ⟨e3,rfl⟩:=aw e
  unfold kl at e3
  split at e3
  ·rename_i es i e2'
   cases q:dt es with
   | none => rw [q] at e3; cases e3
   | some ns =>
    rw [q] at e3
    simp only [Option.bind_some] at e3
    split at e3
    ·rename_i hc
     cases e3
     refine ⟨c,δ,S,T,_,δ1,s,e1,fun v H1 s1 => ?_⟩
     obtain ⟨p,vs,rfl,h1,h2⟩:=s1.st.head.tup
     refine ⟨⟨p,vs,rfl,aF _ _ h1⟩,c,δ1,_,_,_,δ2,s1,e2,fun vs2 H2 l s2 => ?_⟩
     obtain ⟨v2,rfl,r2⟩:=tH (s2.st.left l)
     cases r2.int
     obtain ⟨p2,ws,ez,h3,h4⟩:=(s2.st.right l).head.tup
     cases ez
     have:=gR h4 q; subst this
     exact ⟨p,ns,i,rfl,rfl,aF _ _ h3,hc,k _ _ (s2.stk (.cons .mkI (s2.st.right l).tail))⟩
    ·cases e3
  ·cases e3
end
section
variable {X:Cx} {a:Expr} {p pos:Pos} {fs:M (List D)}
end
end Jt
namespace Jt
open PySem L2
structure Kn (P:Program) (w:World) (K:PySem.W.Frag) (mg:Str -> Option Value) (base:Heap) (CX:oT) (k:Nat) (x:Str) (ps:List Str) (sp:Sp):Prop where
 ex:∃ f fd,c8 P w K mg base CX k f fd ps sp ∧ mg x = some (.ref f) ∧ PySem.W.keepIn K (.ref f) = true ∧ Binds K fd ps []
structure Ent (K:PySem.W.Frag) (mg:Str -> Option Value) (x:Str) (ps:List Str) (st:Stmt):Prop where
 ex:∃ f fd,yw K x x st f fd ∧ mg x = some (.ref f) ∧ Binds K fd ps []
structure Fh (K:PySem.W.Frag) (x:Str) (st:Stmt):Prop where
 ex:∃ (f:Addr) (oc:Value) (od:Option Addr) (kV dc pm:Value) (an:Option Addr) (cd ct:Value) (sl:Array (Option Value)),PySem.W.nsIn K mainGlobals x = some (some (.ref f)) ∧ K.lookup f = some ⟨oc,od,.func (PySem.W.fnOf x x (dR st) (bP st) (ai st) .none kV dc pm an cd ct),sl⟩ ∧ PySem.W.codeIn K cd x = true ∧ PySem.W.keepIn K (.ref f) = true
theorem fh_mk {K:PySem.W.Frag} {x:Str} {st:Stmt} {f:Addr} {oc:Value} {od an:Option Addr} {kV dc pm cd ct:Value} {sl:Array (Option Value)} (a:PySem.W.nsIn K mainGlobals x = some (some (.ref f))) (l:K.lookup f = some ⟨oc,od,.func (PySem.W.fnOf x x (dR st) (bP st) (ai st) .none kV dc pm an cd ct),sl⟩) (c:PySem.W.codeIn K cd x = true) (k:PySem.W.keepIn K (.ref f) = true):Fh K x st:=⟨f,oc,od,kV,dc,pm,an,cd,ct,sl,a,l,c,k⟩
section
variable {P:Program} {w:World} {K:PySem.W.Frag} {mg:Str -> Option Value} {base:Heap} {CX:oT} {j k:Nat} {x:Str} {ps N:List Str} {sp:Sp} {st:Stmt} {body:M Fl}
theorem Kn.up (G:Kn P w K mg base CX j x ps sp) (h:j ≤ k):Kn P w K mg base CX k x ps sp:=let ⟨⟨f,fd,F,m⟩⟩:=G; ⟨⟨f,fd,F.mono h,m⟩⟩
theorem ent {h:Heap} (X:K.In h) (G:h.Ns mainGlobals mg) (e:Fh K x st) (hb:∀ (kV doc pm:Value) (an:Option Addr) (cdv ct:Value) (us:List Value),us.length = ps.length -> bindArgs (PySem.W.fnOf x x (dR st) (bP st) (ai st) .none kV doc pm an cdv ct) ⟨us,[]⟩ = pure (ps.zip us)):Ent K mg x ps st:= by
 obtain ⟨⟨f,oc,od,kV,dc,pm,an,cd,ct,sl,a,l,c,k⟩⟩:=e
 have F:=wu (st:=st) l c k
 exact ⟨⟨f,_,F,PySem.W.mg_of X G a,F.binds hb⟩⟩
theorem l6 (E:Ent K mg x ps st) (S:aB N ps (ai st)) (hb:∀ (f:Addr) (cdv:Value) (A:Around) (outer:List Env) (s:Shared) (H:Hp) (E:XK),b6 k (A.deeper (PyProof.Rows.envOfC x (ai st) s.heap.objs.size f cdv)) -> oY (ic cT P w K mg base N x (ai st) f cdv A outer s H E).nox (bP st) body) :
  Kn P w K mg base cT (k + 1) x ps (jl ps.length (aE N body)):=let ⟨⟨f,fd,F,m,b⟩⟩:=E; ⟨⟨f,fd,Gg F S (hb f),m,F.kp,b⟩⟩
theorem Gk (E:Ent K mg x ps st) (S:aB N ps (ai st)) (hb:∀ (f:Addr) (cdv:Value) (A:Around) (outer:List Env) (s:Shared) (H:Hp) (E:XK),b6 k (A.deeper (PyProof.Rows.envOfC x (ai st) s.heap.objs.size f cdv)) -> oY (ic cT P w K mg base N x (ai st) f cdv A outer s H E).nox (bP st) body) :
  Kn P w K mg base cT (k + 1) x ps (CY ps.length (ff N body)):=let ⟨⟨f,fd,F,m,b⟩⟩:=E; ⟨⟨f,fd,Gz F S (hb f),m,F.kp,b⟩⟩
theorem EW (E:Ent K mg x ps st) (S:aB N ps (ai st)) (hb:∀ (f:Addr) (cdv:Value) (A:Around) (outer:List Env) (s:Shared) (H:Hp) (E:XK),b6 k (A.deeper (PyProof.Rows.envOfC x (ai st) s.heap.objs.size f cdv)) -> oY (ic cT P w K mg base N x (ai st) f cdv A outer s H E).nox (bP st) body) :
  Kn P w K mg base cT (k + 1) x ps (Ar ps.length (cm N body)):=let ⟨⟨f,fd,F,m,b⟩⟩:=E; ⟨⟨f,fd,Gx F S (hb f),m,F.kp,b⟩⟩
theorem Fq {h:Heap} {l:PySem.W.OpenLaw} {fa:Addr} {st:Stmt} (X:K.In h) (G:h.Ns mainGlobals mg) (hfa:mg "law" = some (.ref fa)) (e:Fh K "law" st) (hb:∀ (kV dc pm:Value) (an:Option Addr) (cd ct:Value) (s:Shared) (v:Value),BindsTo s (PySem.W.fnOf "law" "law" (dR st) (bP st) (ai st) .none kV dc pm an cd ct) ⟨[v],[]⟩ [("_law_script",v)])
  {N:List Str} {body:M Fl} (S:aB N ["_law_script"] (ai st))
  (hG:∀ (base:Heap) (f:Addr) (cdv:Value) (A:Around) (outer:List Env) (s:Shared) (H:Hp) (E:XK),b6 k (A.deeper (PyProof.Rows.envOfC "law" (ai st) s.heap.objs.size f cdv)) -> oY (ic cT l.prog w K mg base N "law" (ai st) f cdv A outer s H E).nox (bP st) body)
  {Sq:Sp} (hS:∀ base f fd,c8 l.prog w K mg base cT (k + 1) f fd ["_law_script"] (jl 1 (aE N body)) -> c8 l.prog w K mg base cT (k + 1) f fd ["_law_script"] Sq) :
  ∃ fd:FuncData,(∀ (s:Shared) (v:Value),BindsTo s fd ⟨[v],[]⟩ [("_law_script",v)]) ∧ ∀ base:Heap,K.In base -> base.Ns mainGlobals mg -> c8 l.prog w K mg base cT (k + 1) fa fd ["_law_script"] Sq:= by
 obtain ⟨⟨f,oc,od,kV,dc,pm,an,cd,ct,sl,a,l,c,kp⟩⟩:=e
 have e:=hfa.symm.trans (PySem.W.mg_of X G a)
 cases e
 exact ⟨_,hb kV dc pm an cd ct,fun base _ _ => hS base _ _ (Gg (wu (st:=st) l c kp) S (hG base fa))⟩
end
section
variable {X:Cx} {k:Nat} {x:Str} {ps:List Str} {a:Expr} {es:List Expr} {fs:M (List D)} {p pos:Pos}
theorem ay {mf:List D -> Option D} {n:Nat} (G:Kn X.prog X.w X.K X.mg X.base cT k x ps (jl n mf)) (hr:b6 k X.A) (ha:DA X (a :: es) fs)
  (hg:Gl X x:=by rfl) (hdb:(x == ("__debug__":Str)) = false:=by decide) (he:starEach (a :: es) X.env = (false,eval a X.env) :: starEach es X.env:=by rfl) (hpl:(backTo pos (starEach es X.env)).any (·.1) = false:=by rfl) :
  DE X (.Call (.Name x p) (a :: es) [] pos) (mC (fun ds => if ds.length = n then mf ds else none) fs):=let ⟨⟨_,_,F,m,c,b⟩⟩:=G; zj F hr m c b ha hg hdb he hpl
theorem d5 {mf:List D -> Option (List D)} {n:Nat} (G:Kn X.prog X.w X.K X.mg X.base cT k x ps (CY n mf)) (hr:b6 k X.A) (ha:DA X (a :: es) fs)
  (hg:Gl X x:=by rfl) (hdb:(x == ("__debug__":Str)) = false:=by decide) (he:starEach (a :: es) X.env = (false,eval a X.env) :: starEach es X.env:=by rfl) (hpl:(backTo pos (starEach es X.env)).any (·.1) = false:=by rfl) :
  DF X (.Call (.Name x p) (a :: es) [] pos) (mC (fun ds => if ds.length = n then mf ds else none) fs):=let ⟨⟨_,_,F,m,c,b⟩⟩:=G; xB F hr m c b ha hg hdb he hpl
theorem aX (i:Nat) {mf:List D -> List D -> Option (D × List D)} {n:Nat} {y:Str} {py:Pos} (G:Kn X.prog X.w X.K X.mg X.base cT k x ps (Ar n mf)) (hr:b6 k X.A) (ha:DA X es fs)
  (hN:X.N[i]? = some y:=by rfl) (hv:tJ X.env.scope y:=by first | exact Or.inl rfl | exact Or.inr (Or.inl rfl) | exact Or.inr (Or.inr rfl)) (hd:(y == ("__debug__":Str)) = false:=by decide) (hcd:(y == ("__classdict__":Str)) = false:=by decide)
  (hg:Gl X x:=by rfl) (hdb:(x == ("__debug__":Str)) = false:=by decide) (he:starEach (.Name y py :: es) X.env = (false,eval (.Name y py) X.env) :: starEach es X.env:=by rfl) (hpl:(backTo pos (starEach es X.env)).any (·.1) = false:=by rfl) :
  DE X (.Call (.Name x p) (.Name y py :: es) [] pos) (do let _ <- bh i; c_ i n mf fs):=let ⟨⟨_,_,F,m,c,b⟩⟩:=G; rQ i F hr m c b ha hN hv hd hcd hg hdb he hpl
theorem gX {x:Str} {v:Int} {p:Pos} (h:∃ t,X.mg x = some (.int v t)) (hg:Gl X x:=by rfl) (hd:(x == ("__debug__":Str)) = false:=by decide):DE X (.Name x p) (pure (.int v)):=let ⟨_,m⟩:=h; ux m hg hd
end
end Jt
namespace L2
open PySem PySem.Spec PyProof.Rows
section
variable {κ:Type} [DecidableEq κ]
def valV (kvs:List (κ × V)) (k:κ):Option V:=(kvs.find? fun kv => decide (kv.1 = k)).map (·.2)
def putK (kvs:List (κ × V)) (k:κ) (v:V):List (κ × V) :=
 if (kvs.any fun kv => decide (kv.1 = k)) = true then kvs.map (fun kv => if kv.1 = k then (kv.1,v) else kv) else kvs ++ [(k,v)]
def dropK (kvs:List (κ × V)) (k:κ):List (κ × V):=kvs.filter fun kv => decide (kv.1 ≠ k)
theorem valV_nil {k:κ}:valV ([]:List (κ × V)) k = none:=rfl
theorem valV_pos {p:κ × V} {r:List (κ × V)} {k:κ} (e:p.1 = k):valV (p :: r) k = some p.2:=by simp [valV,List.find?_cons,e]
theorem valV_neg {p:κ × V} {r:List (κ × V)} {k:κ} (e:¬ p.1 = k):valV (p :: r) k = valV r k:=by simp [valV,List.find?_cons,e]
theorem valV_any (k:κ):∀ kvs:List (κ × V),(kvs.any fun kv => decide (kv.1 = k)) = (valV kvs k).isSome
 | [] => rfl
 | p :: r => by
  rw [List.any_cons]
  by_cases e:p.1 = k
  ·simp only [valV_pos e,decide_eq_true e,Bool.true_or,Option.isSome_some]
  ·rw [valV_neg e,decide_eq_false e,Bool.false_or]; exact valV_any k r
theorem valV_map (k j:κ) (y:V):∀ kvs:List (κ × V),valV (kvs.map fun kv => if kv.1 = k then (kv.1,y) else kv) j = (valV kvs j).map fun x => if j = k then y else x
 | [] => rfl
 | p :: r => by
  have ih:=valV_map k j y r
  rw [List.map_cons]
  by_cases h:p.1 = k
  ·rw [if_pos h]
   by_cases e:p.1 = j
   ·rw [valV_pos (p:=(p.1,y)) e,valV_pos e,Option.map_some,if_pos (e.symm.trans h)]
   ·rw [valV_neg (p:=(p.1,y)) e,valV_neg e,ih]
  ·rw [if_neg h]
   by_cases e:p.1 = j
   ·rw [valV_pos (p:=p) e,valV_pos e,Option.map_some,if_neg (fun z => h (e.trans z))]
   ·rw [valV_neg (p:=p) e,valV_neg e,ih]
theorem valV_snoc (k j:κ) (y:V):∀ kvs:List (κ × V),valV kvs k = none -> valV (kvs ++ [(k,y)]) j = if j = k then some y else valV kvs j
 | [],_ => by
  by_cases e:k = j
  ·rw [if_pos e.symm]; exact valV_pos (p:=(k,y)) e
  ·rw [if_neg (fun z => e z.symm)]; exact valV_neg (p:=(k,y)) e
 | p :: r,hn => by
  rw [List.cons_append]
  have hk:¬ p.1 = k:=fun z => by rw [valV_pos z] at hn; cases hn
  rw [valV_neg hk] at hn
  have ih:=valV_snoc k j y r hn
  by_cases e:p.1 = j
  ·rw [valV_pos e,valV_pos e,if_neg (fun z => hk (e.trans z))]
  ·rw [valV_neg e,valV_neg e,ih]
theorem valV_put (kvs:List (κ × V)) (k j:κ) (y:V):valV (putK kvs k y) j = if j = k then some y else valV kvs j:= by
 unfold putK
 by_cases a:(kvs.any fun kv => decide (kv.1 = k)) = true
 ·rw [if_pos a,valV_map]
  rw [valV_any] at a
  by_cases e:j = k
  ·obtain ⟨x,hx⟩:=Option.isSome_iff_exists.mp a
   rw [if_pos e,e,hx,Option.map_some,if_pos rfl]
  ·rw [if_neg e]
   cases valV kvs j with
   | none => rfl
   | some x => rw [Option.map_some,if_neg e]
 ·rw [if_neg a]
  refine valV_snoc k j y kvs ?_
  rw [valV_any] at a
  cases q:valV kvs k with
  | none => rfl
  | some x => rw [q] at a; exact (a rfl).elim
theorem length_putK (kvs:List (κ × V)) (k:κ) (v:V):(putK kvs k v).length ≤ kvs.length + 1:= by
 unfold putK
 split
 ·rw [List.length_map]; omega
 ·rw [List.length_append,List.length_cons,List.length_nil]; omega
theorem putK_new {kvs:List (κ × V)} {k:κ} (v:V) (h:valV kvs k = none):putK kvs k v = kvs ++ [(k,v)]:= by
 unfold putK
 rw [valV_any,h]
 exact if_neg (by decide)
theorem RelO.isSome_eq {o:Option V} {u:Option Value} (r:RelO o u):o.isSome = u.isSome:= by
 cases o with
 | none => cases u with
  | none => rfl
  | some _ => exact (show False from r).elim
 | some _ => cases u with
  | none => exact (show False from r).elim
  | some _ => rfl
theorem RelO.getD {o:Option V} {u:Option Value} {d:V} {d':Value} (r:RelO o u) (rd:RelV d d'):RelV (o.getD d) (u.getD d'):= by
 cases o with
 | none => cases u with
  | none => exact rd
  | some _ => exact (show False from r).elim
 | some _ => cases u with
  | none => exact (show False from r).elim
  | some _ => exact r
theorem KV.val {kvs:List (κ × V)} {vs:List (κ × Value)} (r:KV kvs vs) (k:κ):RelO (valV kvs k) (valueAt vs k):= by
 unfold KV at r
 induction r with
 | nil => exact True.intro
 | @cons p q ps qs h t ih =>
  obtain ⟨h1,h2⟩:=h
  by_cases e:p.1 = k
  ·have e':q.1 = k:=h1.symm.trans e
   have b:valueAt (q :: qs) k = some q.2:=by simp [valueAt,List.find?_cons,e']
   rw [valV_pos e,b]; exact h2
  ·have e':¬ q.1 = k:=fun z => e (h1.trans z)
   have b:valueAt (q :: qs) k = valueAt qs k:=by simp [valueAt,List.find?_cons,e']
   rw [valV_neg e,b]; exact ih
theorem KV.any {kvs:List (κ × V)} {vs:List (κ × Value)} (r:KV kvs vs) (k:κ):(kvs.any fun kv => decide (kv.1 = k)) = vs.any fun kv => decide (kv.1 = k):= by
 unfold KV at r
 induction r with
 | nil => rfl
 | cons h t ih => rw [List.any_cons,List.any_cons,ih,h.1]
theorem KV.repl {kvs:List (κ × V)} {vs:List (κ × Value)} (r:KV kvs vs) (k:κ) {y:V} {u:Value} (ry:RelV y u) :
  KV (kvs.map fun kv => if kv.1 = k then (kv.1,y) else kv) (vs.map fun kv => if kv.1 = k then (kv.1,u) else kv):= by
 unfold KV at r ⊢
 induction r with
 | nil => exact .nil
 | @cons p q ps qs h t ih =>
  rw [List.map_cons,List.map_cons]
  refine .cons ?_ ih
  obtain ⟨h1,h2⟩:=h
  by_cases e:p.1 = k
  ·rw [if_pos e,if_pos (h1.symm.trans e)]; exact ⟨h1,ry⟩
  ·rw [if_neg e,if_neg (fun z => e (h1.trans z))]; exact ⟨h1,h2⟩
theorem KV.put {kvs:List (κ × V)} {vs:List (κ × Value)} (r:KV kvs vs) (k:κ) {y:V} {u:Value} (ry:RelV y u):KV (putK kvs k y) (stored vs k u):= by
 unfold putK stored
 rw [r.any k]
 by_cases e:(vs.any fun kv => decide (kv.1 = k)) = true
 ·rw [if_pos e,if_pos e]; exact r.repl k ry
 ·rw [if_neg e,if_neg e]; exact Paired.snoc r ⟨rfl,ry⟩
theorem KV.drop {kvs:List (κ × V)} {vs:List (κ × Value)} (r:KV kvs vs) (k:κ):KV (dropK kvs k) (without vs k):= by
 unfold KV at r ⊢
 unfold dropK without
 induction r with
 | nil => exact .nil
 | @cons p q ps qs h t ih =>
  obtain ⟨h1,h2⟩:=h
  rw [List.filter_cons,List.filter_cons]
  by_cases e:p.1 = k
  ·have a:¬ decide (p.1 ≠ k) = true:=by simp [e]
   have b:¬ decide (q.1 ≠ k) = true:=by simp [h1.symm.trans e]
   rw [if_neg a,if_neg b]; exact ih
  ·have e':¬ q.1 = k:=fun z => e (h1.trans z)
   have a:decide (p.1 ≠ k) = true:=by simp [e]
   have b:decide (q.1 ≠ k) = true:=by simp [e']
   rw [if_pos a,if_pos b]; exact .cons ⟨h1,h2⟩ ih
theorem KV.keys {kvs:List (κ × V)} {vs:List (κ × Value)} (r:KV kvs vs):kvs.map (·.1) = vs.map (·.1):= by
 unfold KV at r
 induction r with
 | nil => rfl
 | cons h t ih => rw [List.map_cons,List.map_cons,ih,h.1]
theorem KV.length {kvs:List (κ × V)} {vs:List (κ × Value)} (r:KV kvs vs):kvs.length = vs.length:=Paired.length r
theorem dropK_le (kvs:List (κ × V)) (k:κ):(dropK kvs k).length ≤ kvs.length:=List.length_filter_le _ _
end
theorem kV_is {P:Program} {w:World} {k:Key} {u:Value} (r:RelV (kV k) u):(aY P w).is k u = true:= by
 cases k with
 | inl i => obtain ⟨t,e⟩:=(show ∃ t,u = Value.int i t from r); subst e; exact nI P w i t
 | inr x => obtain ⟨t,e⟩:=(show ∃ t,u = Value.str x t from r); subst e; exact nz P w x t
theorem kV_inj {a b:Key} (e:kV a = kV b):a = b:= by
 cases a with
 | inl i => cases b with
  | inl j => have e':V.int i = V.int j:=e; injection e' with e'; rw [e']
  | inr y => exact nomatch (show V.int i = V.str y from e)
 | inr x => cases b with
  | inl j => exact nomatch (show V.str x = V.int j from e)
  | inr y => have e':V.str x = V.str y:=e; injection e' with e'; rw [e']
theorem kVs_inj:∀ {a b:List Key},a.map kV = b.map kV -> a = b
 | [],[],_ => rfl
 | [],_ :: _,e => by simp at e
 | _ :: _,[],e => by simp at e
 | x :: xs,y :: ys,e => by
  rw [List.map_cons,List.map_cons] at e
  injection e with e1 e2
  rw [kV_inj e1,kVs_inj e2]
theorem items_are {P:Program} {w:World}:∀ {ks:List Key} {us:List Value},Vals (ks.map kV) us -> ItemsAre (aY P w) ks us
 | [],_,r => by rw [List.map_nil] at r; cases r; exact .nil
 | k :: ks,_,r => by
  rw [List.map_cons] at r
  cases r with
  | cons h t => exact .cons (kV_is h) (items_are t)
abbrev KT (H:Hp):List (List Key × V) -> List (List Key × Addr × Value) -> Prop:=Paired fun p q => p.1 = q.1 ∧ H q.2.1 = some (.tup (p.1.map kV)) ∧ RelV p.2 q.2.2
theorem KT.val {H:Hp} {kvs:List (List Key × V)} {xs:List (List Key × Addr × Value)} (r:KT H kvs xs) (k:List Key):RelO (valV kvs k) ((atKey xs k).map (·.2)):= by
 induction r with
 | nil => exact True.intro
 | @cons p q ps qs h t ih =>
  obtain ⟨h1,_,h2⟩:=h
  by_cases e:p.1 = k
  ·have e':q.1 = k:=h1.symm.trans e
   have b:atKey (q :: qs) k = some q.2:=by simp [atKey,List.find?_cons,e']
   rw [valV_pos e,b]; exact h2
  ·have e':¬ q.1 = k:=fun z => e (h1.trans z)
   have b:atKey (q :: qs) k = atKey qs k:=by simp [atKey,List.find?_cons,e']
   rw [valV_neg e,b]; exact ih
theorem KT.repl {H:Hp} {kvs:List (List Key × V)} {xs:List (List Key × Addr × Value)} (r:KT H kvs xs) (k:List Key) {y:V} {u:Value} (ry:RelV y u) :
  KT H (kvs.map fun kv => if kv.1 = k then (kv.1,y) else kv) (xs.map (putAt k u)):= by
 induction r with
 | nil => exact .nil
 | @cons p q ps qs h t ih =>
  rw [List.map_cons,List.map_cons]
  refine .cons ?_ ih
  obtain ⟨h1,h2,h3⟩:=h
  unfold putAt
  by_cases e:p.1 = k
  ·rw [if_pos e,if_pos (h1.symm.trans e)]; exact ⟨h1,h2,ry⟩
  ·rw [if_neg e,if_neg (fun z => e (h1.trans z))]; exact ⟨h1,h2,h3⟩
theorem KT.put {H:Hp} {kvs:List (List Key × V)} {xs:List (List Key × Addr × Value)} (r:KT H kvs xs) (k:List Key) {b:Addr} {y:V} {u:Value} (hb:H b = some (.tup (k.map kV))) (ry:RelV y u) :
  KT H (putK kvs k y) (storedH xs k b u):= by
 have e:(kvs.any fun kv => decide (kv.1 = k)) = (atKey xs k).isSome:= by
  rw [valV_any,(r.val k).isSome_eq,Option.isSome_map]
 unfold putK storedH
 rw [e]
 by_cases q:(atKey xs k).isSome = true
 ·rw [if_pos q,if_pos q]; exact r.repl k ry
 ·rw [if_neg q,if_neg q]; exact Paired.snoc r ⟨rfl,hb,ry⟩
theorem KT.keeps {H H':Hp} {kvs:List (List Key × V)} {xs:List (List Key × Addr × Value)} (r:KT H kvs xs) (ht:∀ b ys,H b = some (.tup ys) -> H' b = some (.tup ys)):KT H' kvs xs :=
 Paired.mapP r fun _ _ z => ⟨z.1,ht _ _ z.2.1,z.2.2⟩
section
variable {P:Program} {w:World} {H:Hp} {h:Heap} {a:Addr}
theorem rd_of {u:HO} (ok:iq P w H h) (e:Rd H a u):bX P w H h a u:=e.ok ok
theorem dk_rd {kvs:List (Key × V)} (ok:iq P w H h) (e:Rd H a (.dK kvs)):kvs.length ≤ sizeLine ∧ (a == sysModules) = false ∧ ∃ vs,KV kvs vs ∧ h.DictOf (aY P w) a vs :=
 show bX P w H h a (.dK kvs) from rd_of ok e
theorem dk_of {kvs:List (Key × V)} (ok:iq P w H h) (e:H a = some (.dK kvs)):kvs.length ≤ sizeLine ∧ (a == sysModules) = false ∧ ∃ vs,KV kvs vs ∧ h.DictOf (aY P w) a vs:=dk_rd ok (.inl e)
theorem key_of {ks:List Key} (ok:iq P w H h) (e:H a = some (.tup (ks.map kV))):(tupleKind (aY P w)).is h ks a:= by
 obtain ⟨_,its,r,⟨o,h1,h2,n,h3⟩,_⟩:=(show bX P w H h a (.tup (ks.map kV)) from ok a _ e)
 exact ⟨o,its.toArray,n,h1,h2,h3,by simpa using items_are r⟩
theorem dt_rd {kvs:List (List Key × V)} (ok:iq P w H h) (e:Rd H a (.dT kvs)):kvs.length ≤ sizeLine ∧ (a == sysModules) = false ∧
  ∃ xs,KT H kvs xs ∧ h.DictOfH (tupleKind (aY P w)) a xs:= by
 obtain ⟨z,y,xs,r,o,es,ep,h1,h2,h3,h4,h5⟩:=(show bX P w H h a (.dT kvs) from rd_of ok e)
 refine ⟨z,y,xs,r,o,es,ep,h1,h2,h3,h4,fun x hx => ?_,h5⟩
 have all:∀ {l:List (List Key × V)} {m:List (List Key × Addr × Value)},KT H l m -> ∀ x ∈ m,(tupleKind (aY P w)).is h x.1 x.2.1:= by
  intro l m q
  induction q with
  | nil => intro x hx; exact nomatch hx
  | @cons p q ps qs hq t ih =>
   intro x hx
   rcases List.mem_cons.mp hx with e | hx
   ·subst e
    exact key_of ok (by rw [<- hq.1]; exact hq.2.1)
   ·exact ih x hx
 exact all r x hx
theorem dt_of {kvs:List (List Key × V)} (ok:iq P w H h) (e:H a = some (.dT kvs)):kvs.length ≤ sizeLine ∧ (a == sysModules) = false ∧
  ∃ xs,KT H kvs xs ∧ h.DictOfH (tupleKind (aY P w)) a xs:=dt_rd ok (.inl e)
end
def DGet (H:Hp) (a:Addr) (y:V) (r:Option V):Prop :=
 (∃ kvs k,Rd H a (.dK kvs) ∧ y = kV k ∧ r = valV kvs k) ∨ ∃ kvs k b,Rd H a (.dT kvs) ∧ y = .ref b ∧ H b = some (.tup (k.map kV)) ∧ r = valV kvs k
def DPut (H:Hp) (a:Addr) (y v:V) (H':Hp):Prop :=
 (∃ kvs k,H a = some (.dK kvs) ∧ y = kV k ∧ kvs.length < sizeLine ∧ H' = upd H a (.dK (putK kvs k v))) ∨
 ∃ kvs k b,H a = some (.dT kvs) ∧ y = .ref b ∧ H b = some (.tup (k.map kV)) ∧ kvs.length < sizeLine ∧ H' = upd H a (.dT (putK kvs k v))
theorem DGet.k {H:Hp} {a:Addr} {kvs:List (Key × V)} {k:Key} (e:H a = some (.dK kvs)):DGet H a (kV k) (valV kvs k):=.inl ⟨kvs,k,.inl e,rfl,rfl⟩
theorem DGet.t {H:Hp} {a b:Addr} {kvs:List (List Key × V)} {k:List Key} (e:H a = some (.dT kvs)) (eb:H b = some (.tup (k.map kV))):DGet H a (.ref b) (valV kvs k):=.inr ⟨kvs,k,b,.inl e,rfl,eb,rfl⟩
theorem DPut.k {H:Hp} {a:Addr} {kvs:List (Key × V)} {k:Key} {v:V} (e:H a = some (.dK kvs)) (hl:kvs.length < sizeLine):DPut H a (kV k) v (upd H a (.dK (putK kvs k v))):=.inl ⟨kvs,k,e,rfl,hl,rfl⟩
theorem DPut.t {H:Hp} {a b:Addr} {kvs:List (List Key × V)} {k:List Key} {v:V} (e:H a = some (.dT kvs)) (eb:H b = some (.tup (k.map kV))) (hl:kvs.length < sizeLine) :
  DPut H a (.ref b) v (upd H a (.dT (putK kvs k v))):=.inr ⟨kvs,k,b,e,rfl,eb,hl,rfl⟩
section
variable {X:Cx} {pins:List (Addr × Obj)} {σ:St} {H:Hp} {s:Shared} {a:Addr} {y v:V} {u r:Value} {o:Option V} {A:Around} {E:Value -> Shared -> Prop}
theorem Inv.big (I:Inv X pins σ H s):sysModules < s.heap.objs.size:= by
 have h:mainGlobals < s.heap.objs.size:=(I.mod.glob.keeps I.bk).lt
 exact Nat.lt_trans (by decide) h
theorem d_getItem {Q:Value -> Shared -> Prop} (hu:A.units + 1 < cLine) (I:Inv X pins σ H s) (g:DGet H a y (some v)) (ry:RelV y u) (h:∀ w' s',Inv X pins σ H s' -> RelV v w' -> Q w' s') :
  wpAny (model X.prog X.w) A (getItem (.ref a) u) Q E s:= by
 rcases g with ⟨kvs,k,e,ey,l⟩ | ⟨kvs,k,b,e,ey,eb,l⟩
 ·subst ey
  obtain ⟨z,hd,vs,rel,dd⟩:=dk_rd I.hok e
  obtain ⟨w',hw,rw'⟩:=RelO.some_of (v:=v) (o:=valueAt vs k) (by rw [l]; exact rel.val k)
  exact wpAny_getItem_of (kV_is ry) dd.mapOf hw (h w' _ (I.tok _) rw')
 ·subst ey
  cases (show u = Value.ref b from ry)
  obtain ⟨z,hd,xs,rel,dd⟩:=dt_rd I.hok e
  obtain ⟨w',hw,rw'⟩:=RelO.some_of (v:=v) (o:=(atKey xs k).map (·.2)) (by rw [l]; exact rel.val k)
  obtain ⟨p,hp,hp2⟩:=Option.map_eq_some_iff.mp hw
  refine wpAny_getItem_heap (tupleKind_room_in1 hu) (key_of I.hok eb) dd hp ?_
  rw [hp2]
  exact h w' _ (I.tok _) rw'
theorem d_in {Q:Value -> Shared -> Prop} (hu:A.units + 1 < cLine) (I:Inv X pins σ H s) (g:DGet H a y o) (ry:RelV y u) (h:∀ s',Inv X pins σ H s' -> Q (.bool o.isSome) s') :
  wpAny (model X.prog X.w) A (compareOp .In u (.ref a)) Q E s:= by
 rcases g with ⟨kvs,k,e,ey,l⟩ | ⟨kvs,k,b,e,ey,eb,l⟩
 ·subst ey
  obtain ⟨z,hd,vs,rel,dd⟩:=dk_rd I.hok e
  refine wpAny_in_of (kV_is ry) hd dd.mapOf ?_
  rw [<- (rel.val k).isSome_eq,<- l]
  exact h _ (I.tok _)
 ·subst ey
  cases (show u = Value.ref b from ry)
  obtain ⟨z,hd,xs,rel,dd⟩:=dt_rd I.hok e
  refine wpAny_in_heap (tupleKind_room_in1 hu) (key_of I.hok eb) hd dd ?_
  have q:=(rel.val k).isSome_eq
  rw [Option.isSome_map] at q
  rw [<- q,<- l]
  exact h _ (I.tok _)
theorem d_notIn {Q:Value -> Shared -> Prop} (hu:A.units + 1 < cLine) (I:Inv X pins σ H s) (g:DGet H a y o) (ry:RelV y u) (h:∀ s',Inv X pins σ H s' -> Q (.bool (!o.isSome)) s') :
  wpAny (model X.prog X.w) A (compareOp .NotIn u (.ref a)) Q E s:= by
 rcases g with ⟨kvs,k,e,ey,l⟩ | ⟨kvs,k,b,e,ey,eb,l⟩
 ·subst ey
  obtain ⟨z,hd,vs,rel,dd⟩:=dk_rd I.hok e
  refine wpAny_notIn_of (kV_is ry) hd dd.mapOf ?_
  rw [<- (rel.val k).isSome_eq,<- l]
  exact h _ (I.tok _)
 ·subst ey
  cases (show u = Value.ref b from ry)
  obtain ⟨z,hd,xs,rel,dd⟩:=dt_rd I.hok e
  refine wpAny_notIn_heap (tupleKind_room_in1 hu) (key_of I.hok eb) hd dd ?_
  have q:=(rel.val k).isSome_eq
  rw [Option.isSome_map] at q
  rw [<- q,<- l]
  exact h _ (I.tok _)
theorem d_write {h':Heap} {t':Nat} {ob:HO} (I:Inv X pins σ H s) (mu:Ef (H a)) (hs:Heap.SameBut a s.heap h') (he:∃ q,h'.get? a = some q) (new:bX X.prog X.w (upd H a ob) h' a ob) :
  Inv X pins σ (upd H a ob) { s with heap:=h',toks:=t' } :=
 I.write (x:=a) (e:=a) mu (.inl rfl) (fun b q hb z => (hs.2 b hb).trans z) he new
theorem dk_new {P:Program} {w:World} {H':Hp} {h':Heap} {kvs:List (Key × V)} {vs:List (Key × Value)} (z:kvs.length ≤ sizeLine) (hd:(a == sysModules) = false) (rel:KV kvs vs) (dd:h'.DictOf (aY P w) a vs) :
  bX P w H' h' a (.dK kvs):=⟨z,hd,vs,rel,dd⟩
theorem d_setItem {H':Hp} {Q:Unit -> Shared -> Prop} (hu:A.units + 1 < cLine) (I:Inv X pins σ H s) (g:DPut H a y v H') (ry:RelV y u) (rv:RelV v r) (h:∀ s',Inv X pins σ H' s' -> Q () s') :
  wpAny (model X.prog X.w) A (setItem (.ref a) u r) Q E s:= by
 rcases g with ⟨kvs,k,e,ey,l,eH⟩ | ⟨kvs,k,b,e,ey,eb,l,eH⟩
 ·subst ey eH
  obtain ⟨z,hd,vs,rel,dd⟩:=dk_of I.hok e
  have hz:vs.length ≤ sizeLine:=by rw [<- rel.length]; exact z
  have hl:(putK kvs k v).length ≤ sizeLine:=by have:=length_putK kvs k v; omega
  refine wpAny_setItem_pairs (hsz:=hz) (kV_is ry) dd fun h' dd' hs => h _ ?_
  have he:∃ q,h'.get? a = some q:=let ⟨q,_,_,hq,_⟩:=dd'; ⟨q,hq⟩
  exact d_write I (by rw [e]; exact True.intro) hs he (dk_new hl hd (rel.put k rv) dd')
 ·subst ey eH
  cases (show u = Value.ref b from ry)
  obtain ⟨z,hd,xs,rel,dd⟩:=dt_of I.hok e
  have hz:xs.length ≤ sizeLine:=by rw [<- Paired.length rel]; exact z
  have hl:(putK kvs k v).length ≤ sizeLine:=by have:=length_putK kvs k v; omega
  refine wpAny_setItem_heap (hsz:=hz) (tupleKind_room_in1 hu) (key_of I.hok eb) dd fun h' dd' hs => h _ ?_
  obtain ⟨q,es,ep,hq,h2,h3,h4,_,h5⟩:=dd'
  refine d_write I (by rw [e]; exact True.intro) hs ⟨q,hq⟩ ⟨hl,hd,_,(rel.put k eb rv).keeps fun c ys ec => ?_,q,es,ep,hq,h2,h3,h4,h5⟩
  rw [av (zI ec e (fun z => nomatch z))]
  exact ec
end
section
variable {X:Cx} {pins:List (Addr × Obj)} {σ:St} {H:Hp} {s:Shared} {a:Addr} {kvs:List (Key × V)} {k:Key} {u:Value} {A:Around} {E:Value -> Shared -> Prop}
theorem d_delItem {Q:Unit -> Shared -> Prop} (I:Inv X pins σ H s) (e:H a = some (.dK kvs)) (ry:RelV (kV k) u) (l:(valV kvs k).isSome = true) (h:∀ s',Inv X pins σ (upd H a (.dK (dropK kvs k))) s' -> Q () s') :
  wpAny (model X.prog X.w) A (delItem (.ref a) u) Q E s:= by
 obtain ⟨z,hd,vs,rel,dd⟩:=dk_of I.hok e
 refine wpAny_delItem_slot dd.typeIs (by decide) PySem.F.slot_dict_delitem
  (call_meetsIn PySem.F.slot_dict_delitem dd.typeIs PySem.F.entry_dict_delitem (PySem.F.args_dict_delitem_2 _ _) (meets_dict_delitem_pairs (aY X.prog X.w) a (kV_is ry)) ⟨vs,dd,by rw [<- rel.length]; exact z,by rw [<- (rel.val k).isSome_eq]; exact l,fun h' dd' hs => h _ ?_⟩)
 have he:∃ q,h'.get? a = some q:=let ⟨q,_,_,hq,_⟩:=dd'; ⟨q,hq⟩
 exact d_write I (by rw [e]; exact True.intro) hs he (dk_new (Nat.le_trans (dropK_le kvs k) z) hd (rel.drop k) dd')
theorem d_pop {v:V} {more:List Value} {Q:Value -> Shared -> Prop} (I:Inv X pins σ H s) (e:H a = some (.dK kvs)) (ry:RelV (kV k) u) (l:valV kvs k = some v) (hm:more = [] ∨ ∃ x,more = [x])
  (h:∀ w' s',Inv X pins σ (upd H a (.dK (dropK kvs k))) s' -> RelV v w' -> Q w' s'):wpAny (model X.prog X.w) A (call (.builtin "dict.pop") (.ref a :: u :: more)) Q E s:= by
 obtain ⟨z,hd,vs,rel,dd⟩:=dk_of I.hok e
 obtain ⟨w',hw,rw'⟩:=RelO.some_of (v:=v) (o:=valueAt vs k) (by rw [<- l]; exact rel.val k)
 have hp:(keyPart u).isSome = true:= by
  cases k with
  | inl i => obtain ⟨t,q⟩:=(show ∃ t,u = Value.int i t from ry); subst q; rfl
  | inr x => obtain ⟨t,q⟩:=(show ∃ t,u = Value.str x t from ry); subst q; rfl
 have ha:argsOk "dict.pop" ⟨.ref a :: u :: more,[]⟩:= by
  rcases hm with q | ⟨x,q⟩
  ·subst q; exact PySem.F.args_dict_pop_2 _ _
  ·subst q; exact PySem.F.args_dict_pop_3 _ _ _
 refine call_meetsIn PySem.F.slot_dict_pop dd.typeIs PySem.F.entry_dict_pop ha (meets_dict_pop_there (aY X.prog X.w) a (kV_is ry) more hm hp)
  ⟨vs,w',dd,by rw [<- rel.length]; exact z,hw,fun h' dd' hs => h w' _ ?_ rw'⟩
 have he:∃ q,h'.get? a = some q:=let ⟨q,_,_,hq,_⟩:=dd'; ⟨q,hq⟩
 exact d_write I (by rw [e]; exact True.intro) hs he (dk_new (Nat.le_trans (dropK_le kvs k) z) hd (rel.drop k) dd')
theorem d_popD {r:Value} {Q:Value -> Shared -> Prop} (I:Inv X pins σ H s) (e:H a = some (.dK kvs)) (ry:RelV (kV k) u) (l:valV kvs k = none) (h:∀ s',Inv X pins σ H s' -> Q r s') :
  wpAny (model X.prog X.w) A (call (.builtin "dict.pop") [.ref a,u,r]) Q E s:= by
 obtain ⟨z,hd,vs,rel,dd⟩:=dk_of I.hok e
 have hn:valueAt vs k = none:=RelO.none_of (by rw [<- l]; exact rel.val k)
 have hp:(keyPart u).isSome = true:= by
  cases k with
  | inl i => obtain ⟨t,q⟩:=(show ∃ t,u = Value.int i t from ry); subst q; rfl
  | inr x => obtain ⟨t,q⟩:=(show ∃ t,u = Value.str x t from ry); subst q; rfl
 exact call_meetsIn PySem.F.slot_dict_pop dd.typeIs PySem.F.entry_dict_pop (PySem.F.args_dict_pop_3 _ _ _) (meets_dict_pop_default (aY X.prog X.w) a (kV_is ry) hd hp r) ⟨vs,dd,hn,h _ (I.tok _)⟩
theorem d_clear {Q:Value -> Shared -> Prop} (I:Inv X pins σ H s) (e:H a = some (.dK kvs)) (h:∀ s',Inv X pins σ (upd H a (.dK [])) s' -> Q .none s'):wpAny (model X.prog X.w) A (call (.builtin "dict.clear") [.ref a]) Q E s:= by
 obtain ⟨z,hd,vs,rel,dd⟩:=dk_of I.hok e
 refine call_meetsIn PySem.F.slot_dict_clear dd.typeIs PySem.F.entry_dict_clear (PySem.F.args_dict_clear_1 _) (meets_dict_clear (aY X.prog X.w) a) ⟨vs,dd,by rw [<- rel.length]; exact z,fun h' dd' hs => h _ ?_⟩
 have he:∃ q,h'.get? a = some q:=let ⟨q,_,_,hq,_⟩:=dd'; ⟨q,hq⟩
 exact d_write (t':=s.toks) I (by rw [e]; exact True.intro) hs he (dk_new (Nat.zero_le _) hd .nil dd')
theorem d_len {Q:Value -> Shared -> Prop} (I:Inv X pins σ H s) (e:Rd H a (.dK kvs)) (h:∀ t s',Inv X pins σ H s' -> Q (.int kvs.length t) s'):wpAny (model X.prog X.w) A (call (.builtin "len") [.ref a]) Q E s:= by
 obtain ⟨z,hd,vs,rel,dd⟩:=dk_rd I.hok e
 refine call_len_dict hd dd (by rw [<- rel.length]; rw [sizeLine_eq] at z; omega) ?_
 rw [<- rel.length]
 exact h _ _ (I.tok _)
theorem d_truth {Q:Bool -> Shared -> Prop} (I:Inv X pins σ H s) (e:Rd H a (.dK kvs)) (h:∀ s',Inv X pins σ H s' -> Q (!kvs.isEmpty) s'):wpAny (model X.prog X.w) A (truthy (.ref a)) Q E s:= by
 obtain ⟨z,hd,vs,rel,dd⟩:=dk_rd I.hok e
 refine wpAny_truthy_dict hd dd (by rw [<- rel.length]; rw [sizeLine_eq] at z; omega) ?_
 have q:kvs.isEmpty = vs.isEmpty:=by cases rel <;> rfl
 rw [<- q]
 exact h _ (I.tok _)
end
def NoSl (i:Expr):Prop:=∀ ov iv,subscripted i false ov iv = operate [ov,iv] (getItem ov iv)
theorem subD_of {prog:Program} {w:World} {A:Around} {E:Value -> Shared -> Prop} {s:Shared} {env:Env} {value slice:Expr} {pos:Pos} {T id:String} {Q:Value -> Shared -> Prop}
  (hl:typeLookup (.type T) "__getitem__" = pure (some (.builtin id))) (hs:NoSl slice)
  (h:wpAny (model prog w) A (eval value env) (fun o s₁ => wpAny (model prog w) A (eval slice env) (fun i s₂ => s₂.TypeIs o T ∧ wpAny (model prog w) A (getItem o i) Q E s₂) E s₁) E s) :
  wpAny (model prog w) A (eval (.Subscript value slice pos) env) Q E s:= by
 refine Subscript_ (wpAny_mono h (fun o s₁ h₁ => wpAny_mono h₁ (fun i s₂ h₂ => ?_) fun _ _ x => x) fun _ _ x => x)
 obtain ⟨hT,h₂⟩:=h₂
 unfold subscriptTail
 refine wpAny_bind ?_
 rw [getitemInPython_of_ne hT.not_modules]
 refine wpAny_bind (wpAny_specialOf hT hl ?_)
 have fin:wpAny (model prog w) A (subscripted slice false o i) (fun r s₃ => wpAny (model prog w) A (letTemporaryGo value o r >>= fun _ => pure r) Q E s₃) E s₂:= by
  rw [hs o i]
  exact wpAny_operating (wpAny_mono h₂ (fun r s₃ h₃ => wpAny_bind (wpAny_letTemporaryGo (wpAny_pure h₃))) fun _ _ x => x)
 first
  | exact wpAny_pure (wpAny_bind fin)
  | exact wpAny_bind (wpAny_pure (wpAny_bind fin))
  | exact wpAny_bind fin
theorem dict_typeIs {X:Cx} {pins:List (Addr × Obj)} {σ:St} {H:Hp} {s:Shared} {a:Addr} {y:V} {o:Option V} (I:Inv X pins σ H s) (g:DGet H a y o):s.TypeIs (.ref a) "dict":= by
 rcases g with ⟨kvs,k,e,_,_⟩ | ⟨kvs,k,b,e,_,_,_⟩
 ·obtain ⟨_,_,vs,_,dd⟩:=dk_rd I.hok e
  exact dd.typeIs
 ·obtain ⟨_,_,xs,_,dd⟩:=dt_rd I.hok e
  exact dd.typeIs
theorem dict_noDict {X:Cx} {pins:List (Addr × Obj)} {σ:St} {H:Hp} {s:Shared} {a:Addr} {y:V} {o:Option V} (I:Inv X pins σ H s) (g:DGet H a y o) :
  ∀ b,Value.ref a = .ref b -> ∃ ob,s.heap.get? b = some ob ∧ ob.dict = none:=fun b q => by
 cases q
 rcases g with ⟨kvs,k,e,_,_⟩ | ⟨kvs,k,b,e,_,_,_⟩
 ·obtain ⟨_,_,vs,_,ob,_,_,h1,h2,_⟩:=dk_rd I.hok e
  exact ⟨ob,h1,h2.2.1⟩
 ·obtain ⟨_,_,xs,_,ob,_,_,h1,h2,_⟩:=dt_rd I.hok e
  exact ⟨ob,h1,h2.2.1⟩
def tDGet (td ty:TE):TE:=fun σ H Q => td σ H fun x H1 => ty σ H1 fun y H2 => ∃ a v,x = .ref a ∧ DGet H2 a y (some v) ∧ Q v H2
def tDIn (ty td:TE):TE:=fun σ H Q => ty σ H fun y H1 => td σ H1 fun x H2 => ∃ a o,x = .ref a ∧ DGet H2 a y o ∧ Q (.bl o.isSome) H2
def tDNotIn (ty td:TE):TE:=fun σ H Q => ty σ H fun y H1 => td σ H1 fun x H2 => ∃ a o,x = .ref a ∧ DGet H2 a y o ∧ Q (.bl (!o.isSome)) H2
def sDPut (td ty tv:TE):TS:=fun D σ H => tv σ H fun v H1 => td σ H1 fun x H2 => ty σ H2 fun y H3 => ∃ a H4,x = .ref a ∧ DPut H3 a y v H4 ∧ D.nx σ H4
def sDAug (td ty tv:TE) (rd:V -> V -> Hp -> VK -> Prop):TS:=fun D σ H => td σ H fun x H1 => ty σ H1 fun y H2 => ∃ a v,x = .ref a ∧ DGet H2 a y (some v) ∧
 tv σ H2 fun y2 H3 => rd v y2 H3 fun z H4 => ∃ H5,DPut H4 a y z H5 ∧ D.nx σ H5
def sDDel (td ty:TE):TS:=fun D σ H => td σ H fun x H1 => ty σ H1 fun y H2 => ∃ a kvs k,x = .ref a ∧ H2 a = some (.dK kvs) ∧ y = kV k ∧ (valV kvs k).isSome = true ∧ D.nx σ (upd H2 a (.dK (dropK kvs k)))
section
variable {X:Cx} {o i e value:Expr} {pos pos' tpos:Pos} {td ty tv:TE}
theorem pe_dget (hu:X.A.units + 1 < cLine) (ho:PE X o td) (hi:PE X i ty) (hs:NoSl i):PE X (.Subscript o i pos) (tDGet td ty):= by
 intro pins s σ H Q I h
 refine subD_of PySem.F.slot_dict_getitem.lookup hs (bj (ho pins s σ H _ I h) fun u s1 ⟨x,H1,I1,rx,q1⟩ => bj (hi pins s1 σ H1 _ I1 q1) fun iv s2 ⟨y,H2,I2,ry,a,v,ex,g,q2⟩ => ?_)
 subst ex
 obtain rfl:u = Value.ref a:=rx
 exact ⟨dict_typeIs I2 g,d_getItem hu I2 g ry fun w' s3 I3 rw' => ⟨v,H2,I3,rw',q2⟩⟩
theorem pc_din (hu:X.A.units + 1 < cLine) (hi:PE X i ty) (ho:PE X o td):PC X .In i o (tDIn ty td):= by
 intro pins s σ H Q I h
 refine bj (hi pins s σ H _ I h) fun iv s1 ⟨y,H1,I1,ry,q1⟩ => bj (ho pins s1 σ H1 _ I1 q1) fun u s2 ⟨x,H2,I2,rx,a,ov,ex,g,q2⟩ => ?_
 subst ex
 obtain rfl:u = Value.ref a:=rx
 exact d_in hu I2 g ry fun s3 I3 => ⟨.bl ov.isSome,H2,I3,rfl,q2⟩
theorem pc_dnotin (hu:X.A.units + 1 < cLine) (hi:PE X i ty) (ho:PE X o td):PC X .NotIn i o (tDNotIn ty td):= by
 intro pins s σ H Q I h
 refine bj (hi pins s σ H _ I h) fun iv s1 ⟨y,H1,I1,ry,q1⟩ => bj (ho pins s1 σ H1 _ I1 q1) fun u s2 ⟨x,H2,I2,rx,a,ov,ex,g,q2⟩ => ?_
 subst ex
 obtain rfl:u = Value.ref a:=rx
 exact d_notIn hu I2 g ry fun s3 I3 => ⟨.bl (!ov.isSome),H2,I3,rfl,q2⟩
theorem ps_dput (hu:X.A.units + 1 < cLine) (ho:PE X o td) (hi:PE X i ty) (hv:PE X value tv) (hs:swapsWith value (some (.Subscript o i pos')) pos.line X.env = pure false) :
  PS X (.Assign [.Subscript o i pos'] value pos) (sDPut td ty tv):= by
 intro pins s σ H D I h
 refine wpAny_Assign_Subscript (bj (hv pins s σ H _ I h) fun r s1 ⟨v,H1,I1,rv,q1⟩ => bj (ho pins s1 σ H1 _ I1 q1) fun u s2 ⟨x,H2,I2,rx,q2⟩ => bj (hi pins s2 σ H2 _ I2 q2) fun iv s3 ⟨y,H3,I3,ry,a,H4,ex,g,q3⟩ => ?_) hs
 subst ex
 obtain rfl:u = Value.ref a:=rx
 exact d_setItem hu I3 g ry rv fun s4 I4 => ⟨σ,H4,I4,q3⟩
theorem ps_daug {op:Operator} {rd:V -> V -> Hp -> VK -> Prop} (hu:X.A.units + 1 < cLine) (ho:PE X o td) (hi:PE X i ty) (hv:PE X value tv) (hop:FV X op rd)
  (ha:∀ ov iv new,augStore i ov iv new = (do holding [new,ov,iv] (setItem ov iv new); release [new,ov,iv] []; pure .next)):PS X (.AugAssign (.Subscript o i tpos) op value pos) (sDAug td ty tv rd):= by
 intro pins s σ H D I h
 refine wpAny_AugAssign_SubscriptAny (bj (ho pins s σ H _ I h) fun u s1 ⟨x,H1,I1,rx,q1⟩ => bj (hi pins s1 σ H1 _ I1 q1) fun iv s2 ⟨y,H2,I2,ry,a,v,ex,g,q2⟩ => ?_) ha
 subst ex
 obtain rfl:u = Value.ref a:=rx
 refine d_getItem hu I2 g ry fun w' s3 I3 rw' => bj (hv pins s3 σ H2 _ I3 q2) fun w2 s4 ⟨y2,H3,I4,ry2,q3⟩ => bj (hop pins s4 σ H3 v y2 w' w2 _ I4 rw' ry2 q3) fun w3 s5 ⟨z,H4,I5,rz,H5,g5,q4⟩ => ?_
 exact d_setItem hu I5 g5 ry rz fun s6 I6 => ⟨σ,H5,I6,q4⟩
theorem ps_ddel (ho:PE X o td) (hi:PE X i ty):PS X (.Delete [.Subscript o i tpos] pos) (sDDel td ty):= by
 intro pins s σ H D I h
 refine wpAny_Delete (wpAny_deleteEach_cons (wpAny_delete_Subscript (bj (ho pins s σ H _ I h) fun u s1 ⟨x,H1,I1,rx,q1⟩ => bj (hi pins s1 σ H1 _ I1 q1) fun iv s2 ⟨y,H2,I2,ry,a,kvs,k,ex,e,ey,l,q2⟩ => ?_)))
 subst ex ey
 obtain rfl:u = Value.ref a:=rx
 exact d_delItem I2 e ry l fun s3 I3 => wpAny_deleteEach_nil ⟨σ,_,I3,q2⟩
end
theorem dk_empty {P:Program} {w:World} {H:Hp} (h:Heap) (hb:sysModules < h.objs.size):bX P w H (h.push { cls:=.type "dict",data:=.dict #[] }) h.objs.size (.dK []) :=
 ⟨Nat.zero_le _,beq_eq_false_iff_ne.mpr (Ne.symm (Nat.ne_of_lt hb)),[],.nil,Heap.DictOf.new h⟩
theorem dt_empty {P:Program} {w:World} {H:Hp} (h:Heap) (hb:sysModules < h.objs.size):bX P w H (h.push { cls:=.type "dict",data:=.dict #[] }) h.objs.size (.dT []) :=
 ⟨Nat.zero_le _,beq_eq_false_iff_ne.mpr (Ne.symm (Nat.ne_of_lt hb)),[],.nil,_,#[],0,Heap.get?_push_size _ rfl,⟨rfl,rfl,rfl⟩,rfl,rfl,List.nodup_nil⟩
def tDNewK:TE:=fun _ H Q => ∀ p,H p = none -> Q (.ref p) (upd H p (.dK []))
def tDNewT:TE:=fun _ H Q => ∀ p,H p = none -> Q (.ref p) (upd H p (.dT []))
section
variable {X:Cx} {pos:Pos}
theorem pe_dnewK:PE X (.Dict [] [] pos) tDNewK:=fun pins s σ H Q I h =>
 wpAny_Dict_empty ⟨.ref s.heap.objs.size,_,I.laid (a:=s.heap.objs.size) (o:=.dK []) (t':=s.toks) (fun _ _ q => Heap.get?_push_of_some _ q) (Nat.le_refl _) (dk_empty s.heap I.big),rfl,h _ (I.hok.fresh (Nat.le_refl _))⟩
theorem pe_dnewT:PE X (.Dict [] [] pos) tDNewT:=fun pins s σ H Q I h =>
 wpAny_Dict_empty ⟨.ref s.heap.objs.size,_,I.laid (a:=s.heap.objs.size) (o:=.dT []) (t':=s.toks) (fun _ _ q => Heap.get?_push_of_some _ q) (Nat.le_refl _) (dt_empty s.heap I.big),rfl,h _ (I.hok.fresh (Nat.le_refl _))⟩
end
def tPairs:List (TE × TE) -> St -> Hp -> (List (V × V) -> Hp -> Prop) -> Prop
 | [],_,H,Q => Q [] H
 | (tk,tv) :: r,σ,H,Q => tk σ H fun x H1 => tv σ H1 fun y H2 => tPairs r σ H2 fun ps H3 => Q ((x,y) :: ps) H3
abbrev VV:List (V × V) -> List (Value × Value) -> Prop:=Paired fun p q => RelV p.1 q.1 ∧ RelV p.2 q.2
def PPs (X:Cx) (pos:Pos) (keys:List (Option Expr)) (values:List Expr) (trs:List (TE × TE)):Prop :=
 ∀ (pins:List (Addr × Obj)) (s:Shared) (σ:St) (H:Hp) (Q:List (V × V) -> Hp -> Prop),Inv X pins σ H s -> tPairs trs σ H Q ->
  wpAny (model X.prog X.w) X.A (evalPairs (pairTrees keys values X.env pos)) (fun vs s' => ∃ ps H',Inv X pins σ H' s' ∧ VV ps vs ∧ Q ps H') X.xe s
theorem pps_nil {X:Cx} {pos:Pos}:PPs X pos [] [] []:=fun pins s σ H Q I h => pairTrees_nil_walk ⟨[],H,I,.nil,h⟩
theorem pps_cons {X:Cx} {pos:Pos} {k v:Expr} {ks:List (Option Expr)} {vs:List Expr} {tk tv:TE} {trs:List (TE × TE)} (hk:PE X k tk) (hv:PE X v tv) (hr:PPs X pos ks vs trs) :
  PPs X pos (some k :: ks) (v :: vs) ((tk,tv) :: trs):=fun pins s σ H Q I h =>
 pairTrees_cons_walk (bj (hk pins s σ H _ I h) fun u s1 ⟨x,H1,I1,rx,q1⟩ => bj (hv pins s1 σ H1 _ I1 q1) fun w2 s2 ⟨y,H2,I2,ry,q2⟩ =>
  bj (hr pins s2 σ H2 _ I2 q2) fun ws s3 ⟨ps,H3,I3,rel,q3⟩ => ⟨(x,y) :: ps,H3,I3,.cons ⟨rx,ry⟩ rel,q3⟩)
def mergeK (kvs more:List (Key × V)):List (Key × V):=more.foldl (fun acc kv => putK acc kv.1 kv.2) kvs
theorem KV.merge:∀ {more:List (Key × V)} {rs:List (Key × Value)} {kvs:List (Key × V)} {vs:List (Key × Value)},KV more rs -> KV kvs vs -> KV (mergeK kvs more) (merged vs rs):= by
 intro more rs kvs vs r
 unfold KV at r
 induction r generalizing kvs vs with
 | nil => intro q; exact q
 | @cons p q ps qs h t ih =>
  intro r0
  have e:KV (putK kvs p.1 p.2) (stored vs q.1 q.2):= by
   have:=r0.put p.1 h.2
   rw [<- h.1]; exact this
  exact ih e
theorem length_mergeK:∀ (more kvs:List (Key × V)),(mergeK kvs more).length ≤ kvs.length + more.length
 | [],kvs => by show kvs.length ≤ kvs.length + 0; omega
 | p :: r,kvs => by
  have h1:=length_mergeK r (putK kvs p.1 p.2)
  have h2:=length_putK kvs p.1 p.2
  show (mergeK (putK kvs p.1 p.2) r).length ≤ _
  rw [List.length_cons]; omega
theorem carries_of {P:Program} {w:World}:∀ {kvs:List (Key × V)} {ws:List (Value × Value)},VV (kvs.map fun kv => (kV kv.1,kv.2)) ws -> ∃ rs,Carries (aY P w) ws rs ∧ KV kvs rs
 | [],_,r => by rw [List.map_nil] at r; cases r; exact ⟨[],True.intro,.nil⟩
 | p :: kvs,_,r => by
  rw [List.map_cons] at r
  cases r with
  | @cons a b as bs h t =>
   obtain ⟨rs,c,q⟩:=carries_of (P:=P) (w:=w) t
   obtain ⟨b1,b2⟩:=b
   exact ⟨(p.1,b2) :: rs,⟨kV_is h.1,rfl,c⟩,.cons ⟨rfl,h.2⟩ q⟩
def tDisp (trs:List (TE × TE)):TE:=fun σ H Q => ∀ p,H p = none -> tPairs trs σ (upd H p (.dK [])) fun ps H2 => H2 p = some (.dK []) ∧ ∃ kvs:List (Key × V),ps = kvs.map (fun kv => (kV kv.1,kv.2)) ∧ kvs.length ≤ 15 ∧ Q (.ref p) (upd H2 p (.dK (mergeK [] kvs)))
theorem pe_disp {X:Cx} {pos:Pos} {keys:List (Option Expr)} {values:List Expr} {trs:List (TE × TE)} (h:PPs X pos keys values trs) (hall:keys.all (·.isSome) = true) (hl:keys.length = values.length) (h0:keys ≠ [])
  (h15:keys.length ≤ 15):PE X (.Dict keys values pos) (tDisp trs):= by
 intro pins s σ H Q I q
 have hn:=I.hok.fresh (Nat.le_refl s.heap.objs.size)
 have I1:=I.laid (a:=s.heap.objs.size) (o:=.dK []) (h':=s.heap.push { cls:=.type "dict",data:=.dict #[] }) (t':=s.toks) (fun _ _ q => Heap.get?_push_of_some _ q) (Nat.le_refl _) (dk_empty s.heap I.big)
 refine wpAny_Dict_walk (knd:=aY X.prog X.w) hall hl h0 h15 (bj (h pins _ σ _ _ I1 (q _ hn)) fun ws s2 ⟨ps,H2,I2,rel,e,kvs,ep,lk,q2⟩ => ?_)
 subst ep
 obtain ⟨rs,c,rk⟩:=carries_of (P:=X.prog) (w:=X.w) rel
 obtain ⟨z,hd,vs0,r0,dd⟩:=dk_of I2.hok e
 cases r0
 refine ⟨rs,c,dd,fun h' dd' hs => ⟨.ref s.heap.objs.size,_,?_,rfl,q2⟩⟩
 have hz:(mergeK [] kvs).length ≤ sizeLine:= by
  have h1:=length_mergeK kvs []
  rw [List.length_nil] at h1
  rw [sizeLine_eq]; omega
 have he:∃ q,h'.get? s.heap.objs.size = some q:=let ⟨q,_,_,hq,_⟩:=dd'; ⟨q,hq⟩
 exact d_write I2 (by rw [e]; exact True.intro) hs he (dk_new hz hd (rk.merge .nil) dd')
structure M1 (X:Cx) (o:Expr) (m:Str) (apos:Pos) (e:Expr) (cpos:Pos):Prop where
 base:attributeBase o m X.env (eval o X.env) = eval o X.env
 few:((backTo cpos (starEach [e] X.env)).all (fun x => !x.1) && (backToKw cpos (keywordEach [] X.env)).all (fun x => x.1.isSome)
  && decide (([e]:List Expr).length + ([]:List Keyword).length + (if ([]:List Keyword).isEmpty then 0 else 1) < 30)) = true
 line:(apos.endLine == cpos.line) = true
 trees:backTo cpos (starEach [e] X.env) = [(false,eval e X.env)]
structure M2 (X:Cx) (o:Expr) (m:Str) (apos:Pos) (e f:Expr) (cpos:Pos):Prop where
 base:attributeBase o m X.env (eval o X.env) = eval o X.env
 few:((backTo cpos (starEach [e,f] X.env)).all (fun x => !x.1) && (backToKw cpos (keywordEach [] X.env)).all (fun x => x.1.isSome)
  && decide (([e,f]:List Expr).length + ([]:List Keyword).length + (if ([]:List Keyword).isEmpty then 0 else 1) < 30)) = true
 line:(apos.endLine == cpos.line) = true
 trees:backTo cpos (starEach [e,f] X.env) = [(false,eval e X.env),(false,eval f X.env)]
def IsD (H:Hp) (a:Addr):Prop:=(∃ kvs,Rd H a (.dK kvs)) ∨ ∃ kvs,Rd H a (.dT kvs)
theorem isD_at {X:Cx} {pins:List (Addr × Obj)} {σ:St} {H:Hp} {s:Shared} {a:Addr} (I:Inv X pins σ H s) (d:IsD H a) :
  s.TypeIs (.ref a) "dict" ∧ (∀ b,Value.ref a = .ref b -> ∃ ob,s.heap.get? b = some ob ∧ ob.dict = none) ∧ (a == sysModules) = false:= by
 rcases d with ⟨kvs,e⟩ | ⟨kvs,e⟩
 ·obtain ⟨_,hd,vs,_,dd⟩:=dk_rd I.hok e
  refine ⟨dd.typeIs,fun b q => ?_,hd⟩
  cases q
  obtain ⟨ob,_,_,h1,h2,_⟩:=dd
  exact ⟨ob,h1,h2.2.1⟩
 ·obtain ⟨_,hd,xs,_,dd⟩:=dt_rd I.hok e
  refine ⟨dd.typeIs,fun b q => ?_,hd⟩
  cases q
  obtain ⟨ob,_,_,h1,h2,_⟩:=dd
  exact ⟨ob,h1,h2.2.1⟩
section
variable {X:Cx} {pins:List (Addr × Obj)} {σ:St} {H:Hp} {s:Shared} {a:Addr} {y d:V} {u r:Value} {o:Option V} {A:Around} {E:Value -> Shared -> Prop}
theorem d_get1 {Q:Value -> Shared -> Prop} (hu:A.units + 1 < cLine) (I:Inv X pins σ H s) (g:DGet H a y o) (ry:RelV y u) (h:∀ w' s',Inv X pins σ H s' -> RelV (o.getD .non) w' -> Q w' s') :
  wpAny (model X.prog X.w) A (call (.builtin "dict.get") [.ref a,u]) Q E s:= by
 rcases g with ⟨kvs,k,e,ey,l⟩ | ⟨kvs,k,b,e,ey,eb,l⟩
 ·subst ey
  obtain ⟨z,hd,vs,rel,dd⟩:=dk_rd I.hok e
  refine call_meetsIn PySem.F.slot_dict_get dd.typeIs PySem.F.entry_dict_get (PySem.F.args_dict_get_2 _ _) (meets_dict_get (aY X.prog X.w) a (kV_is ry) hd) ⟨_,dd.mapOf,h _ _ (I.tok _) ?_⟩
  rw [l]
  exact (rel.val k).getD rfl
 ·subst ey
  cases (show u = Value.ref b from ry)
  obtain ⟨z,hd,xs,rel,dd⟩:=dt_rd I.hok e
  refine call_meetsIn PySem.F.slot_dict_get dd.typeIs PySem.F.entry_dict_get (PySem.F.args_dict_get_2 _ _) (meetsH_dict_get (tupleKind (aY X.prog X.w)) a b hd) ⟨tupleKind_room_in1 hu,k,xs,key_of I.hok eb,dd,h _ _ (I.tok _) ?_⟩
  rw [l]
  exact (rel.val k).getD rfl
theorem d_get2 {Q:Value -> Shared -> Prop} (hu:A.units + 1 < cLine) (I:Inv X pins σ H s) (g:DGet H a y o) (ry:RelV y u) (rd:RelV d r) (h:∀ w' s',Inv X pins σ H s' -> RelV (o.getD d) w' -> Q w' s') :
  wpAny (model X.prog X.w) A (call (.builtin "dict.get") [.ref a,u,r]) Q E s:= by
 rcases g with ⟨kvs,k,e,ey,l⟩ | ⟨kvs,k,b,e,ey,eb,l⟩
 ·subst ey
  obtain ⟨z,hd,vs,rel,dd⟩:=dk_rd I.hok e
  refine call_meetsIn PySem.F.slot_dict_get dd.typeIs PySem.F.entry_dict_get (PySem.F.args_dict_get_3 _ _ _) (meets_dict_get_default (aY X.prog X.w) a (kV_is ry) hd r) ⟨_,dd.mapOf,h _ _ (I.tok _) ?_⟩
  rw [l]
  exact (rel.val k).getD rd
 ·subst ey
  cases (show u = Value.ref b from ry)
  obtain ⟨z,hd,xs,rel,dd⟩:=dt_rd I.hok e
  refine call_meetsIn PySem.F.slot_dict_get dd.typeIs PySem.F.entry_dict_get (PySem.F.args_dict_get_3 _ _ _) (meetsH_dict_get_default (tupleKind (aY X.prog X.w)) a b hd r) ⟨tupleKind_room_in1 hu,k,xs,key_of I.hok eb,dd,h _ _ (I.tok _) ?_⟩
  rw [l]
  exact (rel.val k).getD rd
end
def tDGet1 (td ty:TE):TE:=fun σ H Q => td σ H fun x H1 => ∃ a,x = .ref a ∧ IsD H1 a ∧ ty σ H1 fun y H2 => ∃ o,DGet H2 a y o ∧ Q (o.getD .non) H2
def tDGet2 (td ty tx:TE):TE:=fun σ H Q => td σ H fun x H1 => ∃ a,x = .ref a ∧ IsD H1 a ∧ ty σ H1 fun y H2 => tx σ H2 fun z H3 => ∃ o,DGet H3 a y o ∧ Q (o.getD z) H3
def tDPop1 (td ty:TE):TE:=fun σ H Q => td σ H fun x H1 => ∃ a,x = .ref a ∧ IsD H1 a ∧ ty σ H1 fun y H2 => ∃ kvs k v,H2 a = some (.dK kvs) ∧ y = kV k ∧ valV kvs k = some v ∧ Q v (upd H2 a (.dK (dropK kvs k)))
def tDPop2 (td ty tx:TE):TE:=fun σ H Q => td σ H fun x H1 => ∃ a,x = .ref a ∧ IsD H1 a ∧ ty σ H1 fun y H2 => tx σ H2 fun z H3 => ∃ kvs k,H3 a = some (.dK kvs) ∧ y = kV k ∧
 (∀ v,valV kvs k = some v -> Q v (upd H3 a (.dK (dropK kvs k)))) ∧ (valV kvs k = none -> Q z H3)
section
variable {X:Cx} {o e f:Expr} {apos cpos:Pos} {td ty tx:TE}
theorem pe_dget1 (hu:X.A.units + 1 < cLine) (ho:PE X o td) (he:PE X e ty) (m:M1 X o "get" apos e cpos):PE X (.Call (.Attribute o "get" apos) [e] [] cpos) (tDGet1 td ty):= by
 intro pins s σ H Q I h
 refine wpAny_Call_method m.base m.few m.line PySem.F.plainAttrs_dict PySem.F.slot_dict_get PySem.F.type_dict_get (bj (ho pins s σ H _ I h) fun u s1 ⟨x,H1,I1,rx,a,ex,d,q1⟩ => ?_)
 subst ex
 obtain rfl:u = Value.ref a:=rx
 obtain ⟨t1,t2,_⟩:=isD_at I1 d
 refine ⟨t1,t2,?_⟩
 rw [m.trees]
 refine Calls.callWith_builtin rfl (Calls.evalArgs_plain (Calls.spliced_cons (bj (he pins s1 σ H1 _ I1 q1) fun iv s2 ⟨y,H2,I2,ry,ov,g,q2⟩ => Calls.spliced_nil ?_)))
 exact d_get1 hu I2 g ry fun w' s3 I3 rw' => ⟨_,H2,I3,rw',q2⟩
theorem pe_dget2 (hu:X.A.units + 1 < cLine) (ho:PE X o td) (he:PE X e ty) (hf:PE X f tx) (m:M2 X o "get" apos e f cpos):PE X (.Call (.Attribute o "get" apos) [e,f] [] cpos) (tDGet2 td ty tx):= by
 intro pins s σ H Q I h
 refine wpAny_Call_method m.base m.few m.line PySem.F.plainAttrs_dict PySem.F.slot_dict_get PySem.F.type_dict_get (bj (ho pins s σ H _ I h) fun u s1 ⟨x,H1,I1,rx,a,ex,d,q1⟩ => ?_)
 subst ex
 obtain rfl:u = Value.ref a:=rx
 obtain ⟨t1,t2,_⟩:=isD_at I1 d
 refine ⟨t1,t2,?_⟩
 rw [m.trees]
 refine Calls.callWith_builtin rfl (Calls.evalArgs_plain (Calls.spliced_cons (bj (he pins s1 σ H1 _ I1 q1) fun iv s2 ⟨y,H2,I2,ry,q2⟩ =>
  Calls.spliced_cons (bj (hf pins s2 σ H2 _ I2 q2) fun fv s3 ⟨z,H3,I3,rz,ov,g,q3⟩ => Calls.spliced_nil ?_))))
 exact d_get2 hu I3 g ry rz fun w' s4 I4 rw' => ⟨_,H3,I4,rw',q3⟩
theorem pe_dpop1 (ho:PE X o td) (he:PE X e ty) (m:M1 X o "pop" apos e cpos):PE X (.Call (.Attribute o "pop" apos) [e] [] cpos) (tDPop1 td ty):= by
 intro pins s σ H Q I h
 refine wpAny_Call_method m.base m.few m.line PySem.F.plainAttrs_dict PySem.F.slot_dict_pop PySem.F.type_dict_pop (bj (ho pins s σ H _ I h) fun u s1 ⟨x,H1,I1,rx,a,ex,d,q1⟩ => ?_)
 subst ex
 obtain rfl:u = Value.ref a:=rx
 obtain ⟨t1,t2,_⟩:=isD_at I1 d
 refine ⟨t1,t2,?_⟩
 rw [m.trees]
 refine Calls.callWith_builtin rfl (Calls.evalArgs_plain (Calls.spliced_cons (bj (he pins s1 σ H1 _ I1 q1) fun iv s2 ⟨y,H2,I2,ry,kvs,k,v,ea,ey,l,q2⟩ => Calls.spliced_nil ?_)))
 subst ey
 exact d_pop I2 ea ry l (.inl rfl) fun w' s3 I3 rw' => ⟨v,_,I3,rw',q2⟩
theorem pe_dpop2 (ho:PE X o td) (he:PE X e ty) (hf:PE X f tx) (m:M2 X o "pop" apos e f cpos):PE X (.Call (.Attribute o "pop" apos) [e,f] [] cpos) (tDPop2 td ty tx):= by
 intro pins s σ H Q I h
 refine wpAny_Call_method m.base m.few m.line PySem.F.plainAttrs_dict PySem.F.slot_dict_pop PySem.F.type_dict_pop (bj (ho pins s σ H _ I h) fun u s1 ⟨x,H1,I1,rx,a,ex,d,q1⟩ => ?_)
 subst ex
 obtain rfl:u = Value.ref a:=rx
 obtain ⟨t1,t2,_⟩:=isD_at I1 d
 refine ⟨t1,t2,?_⟩
 rw [m.trees]
 refine Calls.callWith_builtin rfl (Calls.evalArgs_plain (Calls.spliced_cons (bj (he pins s1 σ H1 _ I1 q1) fun iv s2 ⟨y,H2,I2,ry,q2⟩ =>
  Calls.spliced_cons (bj (hf pins s2 σ H2 _ I2 q2) fun fv s3 ⟨z,H3,I3,rz,kvs,k,ea,ey,q3,q4⟩ => Calls.spliced_nil ?_))))
 subst ey
 cases l:valV kvs k with
 | some v => exact d_pop I3 ea ry l (.inr ⟨fv,rfl⟩) fun w' s4 I4 rw' => ⟨v,_,I4,rw',q3 v l⟩
 | none => exact d_popD I3 ea ry l fun s4 I4 => ⟨z,H3,I4,rz,q4 l⟩
end
section
variable {X:Cx} {pins:List (Addr × Obj)} {σ:St} {H:Hp} {s:Shared} {a:Addr} {kvs:List (Key × V)} {A:Around} {E:Value -> Shared -> Prop}
theorem d_copyOf {Q:Value -> Shared -> Prop} (I:Inv X pins σ H s) (e:Rd H a (.dK kvs)) (h:∀ p s',H p = none -> Inv X pins σ (upd H p (.dK kvs)) s' -> Q (.ref p) s'):wpAny (model X.prog X.w) A (call (.type "dict") [.ref a]) Q E s:= by
 obtain ⟨z,hd,vs,rel,dd⟩:=dk_rd I.hok e
 refine kt_call_dict hd dd (by rw [<- rel.length]; exact z) fun h' dd' hs => ?_
 refine h _ _ (I.hok.fresh (Nat.le_refl _)) (I.laid (a:=s.heap.objs.size) (o:=.dK kvs) (t':=s.toks) (fun b q hq => ?_) (Nat.le_refl _) (dk_new z (beq_eq_false_iff_ne.mpr (Ne.symm (Nat.ne_of_lt I.big))) rel dd'))
 exact (hs.2 b (Nat.ne_of_lt (Heap.lt_size hq))).trans (Heap.get?_push_of_some _ hq)
end
section
variable {X:Cx} {pins:List (Addr × Obj)} {σ:St} {H:Hp} {s:Shared} {a:Addr} {y:V} {u:Value} {A:Around} {E:Value -> Shared -> Prop}
theorem d_missing {Q:Value -> Shared -> Prop} (hu:A.units + 1 < cLine) (hh:A.handled = none) (I:Inv X pins σ H s) (g:DGet H a y none) (ry:RelV y u)
  (h:∀ h' e t',Heap.NewExc s.heap h' e "KeyError" -> E (.ref e) { s with heap:=h',toks:=t' }):wpAny (model X.prog X.w) A (getItem (.ref a) u) Q E s:= by
 rcases g with ⟨kvs,k,e,ey,l⟩ | ⟨kvs,k,b,e,ey,eb,l⟩
 ·subst ey
  obtain ⟨z,hd,vs,rel,dd⟩:=dk_rd I.hok e
  have hn:valueAt vs k = none:=RelO.none_of (by rw [l]; exact rel.val k)
  exact wpAny_getItem_missing_of (kV_is ry) hd hh dd.mapOf hn fun h' ex ne => h h' ex _ ne
 ·subst ey
  cases (show u = Value.ref b from ry)
  obtain ⟨z,hd,xs,rel,dd⟩:=dt_rd I.hok e
  have hn:(atKey xs k).map (·.2) = none:=RelO.none_of (by rw [l]; exact rel.val k)
  exact wpAny_getItem_missing_heap (tupleKind_room_in1 hu) (key_of I.hok eb) hd hh dd (Option.map_eq_none_iff.mp hn) fun h' ex ne => h h' ex _ ne
end
end L2
namespace L2
open PySem PySem.Spec PyProof.Rows
theorem kR {prog:Program} {w:World} {A:Around} {R:Result -> Shared -> Prop} {s:Shared} {kx vx target iter:Expr} {ifs:List Expr} {scope:Scope} {pos:Pos} {it:Value} {D:Addr} {env:Env} (I:Nat -> Shared -> Prop)
  (turn:∀ n s,I n s -> wpAny (model prog w) A (pyNext it) (fun r s1 => match r with
   | none => R (.ok .next) s1
   | some v => wpAny (model prog w) A (letOwnedTupleGo target it v) (fun _ s2 => wpAny (model prog w) A (assign target env v) (fun _ s3 =>
     wpAny (model prog w) A (forIn ifs true fun c r => if r = true then do let ok <- isTrue c env (eval c env); pure (ForInStep.yield ok) else pure (ForInStep.yield r)) (fun ok s4 =>
      if ok = true then wpAny (model prog w) A (eval kx env) (fun y s5 => wpAny (model prog w) A (eval vx env) (fun x s6 =>
       wpAny (model prog w) A (dictSet D y x) (fun _ s7 => ∃ m,m < n ∧ I m s7) (fun _ _ => False) s6) (fun _ _ => False) s5) (fun _ _ => False) s4
      else ∃ m,m < n ∧ I m s4) (fun _ _ => False) s3) (fun _ _ => False) s2) (fun _ _ => False) s1) (fun _ _ => False) s)
  (n:Nat) (h:I n s) :
  codeAny (model prog w) A (.compLoop (.DictComp kx vx [⟨target,iter,ifs,0⟩] scope pos) 0 it (.ref D) env) R s:= by
 refine codeAny_loop rfl I (fun n s hI => ?_) n h
 show wpAny _ A ((compTurn (.DictComp kx vx [⟨target,iter,ifs,0⟩] scope pos) 0 it (.ref D) env).onRaise (fun x => do noteFrame x env; theTreesLotGoes x)) _ _ s
 refine wpAny_noted ?_
 rw [compTurn_dict]
 refine wpAny_bind (wpAny_standAt (wpAny_bind (wpAny_mono (turn n s hI) (fun r s₁ h₁ => ?_) fun _ _ h' => h'.elim)))
 cases r with
 | none => exact wpAny_pure h₁
 | some v =>
  refine wpAny_bind (wpAny_mono h₁ (fun _ s₂ h₂ => ?_) fun _ _ h' => h'.elim)
  refine wpAny_bind (wpAny_mono h₂ (fun _ s₃ h₃ => wpAny_bind (wpAny_mono h₃ (fun ok s₄ h₄ => ?_) fun _ _ h' => h'.elim)) fun _ _ h' => h'.elim)
  cases ok with
  | false => exact wpAny_pure ⟨rfl,h₄⟩
  | true =>
   refine wpAny_bind (wpAny_bind (wpAny_mono h₄ (fun y s₅ h₅ => wpAny_bind (wpAny_holding (wpAny_mono h₅ (fun x s₆ h₆ => wpAny_bind (wpAny_standAt (wpAny_holding (wpAny_mono h₆ (fun _ s₇ h₇ => wpAny_pure ⟨rfl,h₇⟩) fun _ _ h' => h'.elim)))) fun _ _ h' => h'.elim))) fun _ _ h' => h'.elim))
section
variable {X:Cx} {pins:List (Addr × Obj)} {σ:St} {H:Hp} {s:Shared} {a:Addr} {y v:V} {u r:Value} {A:Around} {E:Value -> Shared -> Prop}
theorem s_ {H':Hp} {Q:Unit -> Shared -> Prop} (hu:A.units < cLine) (I:Inv X pins σ H s) (g:DPut H a y v H') (ry:RelV y u) (rv:RelV v r) (h:∀ s',Inv X pins σ H' s' -> Q () s') :
  wpAny (model X.prog X.w) A (dictSet a u r) Q E s:= by
 rcases g with ⟨kvs,k,e,ey,l,eH⟩ | ⟨kvs,k,b,e,ey,eb,l,eH⟩
 ·subst ey eH
  obtain ⟨z,hd,vs,rel,dd⟩:=dk_of I.hok e
  have hz:vs.length ≤ sizeLine:=by rw [<- rel.length]; exact z
  have hl:(putK kvs k v).length ≤ sizeLine:=by have:=length_putK kvs k v; omega
  refine wpAny_dictSet_pairs (kV_is ry) dd (fun h' dd' hs => h _ ?_) hz
  have he:∃ q,h'.get? a = some q:=let ⟨q,_,_,hq,_⟩:=dd'; ⟨q,hq⟩
  exact d_write I (by rw [e]; exact True.intro) hs he (dk_new hl hd (rel.put k rv) dd')
 ·subst ey eH
  cases (show u = Value.ref b from ry)
  obtain ⟨z,hd,xs,rel,dd⟩:=dt_of I.hok e
  have hz:xs.length ≤ sizeLine:=by rw [<- Paired.length rel]; exact z
  have hl:(putK kvs k v).length ≤ sizeLine:=by have:=length_putK kvs k v; omega
  refine wpAny_dictSet_heap (knd:=tupleKind (aY X.prog X.w)) hu (key_of I.hok eb) dd (fun h' dd' hs => h _ ?_) hz
  obtain ⟨q,es,ep,hq,h2,h3,h4,_,h5⟩:=dd'
  refine d_write I (by rw [e]; exact True.intro) hs ⟨q,hq⟩ ⟨hl,hd,_,(rel.put k eb rv).keeps fun c ys ec => ?_,q,es,ep,hq,h2,h3,h4,h5⟩
  rw [av (zI ec e (fun z => nomatch z))]
  exact ec
end
def p7 (wi:TI) (own:Nat) (g:TG) (tt:TT) (tk tv:TE):TE:=fun σ H Q => wi σ H fun J H1 => ∀ l,H1 l = none -> ∃ o0:HO,(o0 = .dK [] ∨ o0 = .dT []) ∧ ∃ W:Nat -> Nat -> Hp -> Prop,(∃ m,W 0 m (upd H1 l o0)) ∧ ∀ i m H,W i m H ->
 ((J.stop i H ∧ Q (.ref l) H) ∨ (J.go i H ∧ ∀ x H',J.yld i H x H' -> g x (σ ++ List.replicate own none) H' fun σ2 H2 => σ2.take σ.length = σ ∧ tt σ2 H2 fun b H3 =>
  if b = true then tk σ2 H3 fun y H4 => tv σ2 H4 fun v H5 => ∃ H6,DPut H5 l y v H6 ∧ ∃ m',m' < m ∧ W (i + 1) m' H6
  else ∃ m',m' < m ∧ W (i + 1) m' H3))
section
variable {X:Cx} {kx vx tg iter:Expr} {ifs:List Expr} {scope:Scope} {pos pos':Pos} {N' own:List Str} {wi:TI} {g:TG} {tt:TT} {tk tv:TE}
theorem uK {cal:Cx -> Prop} (hc:∀ s H fp pins,cal (blk X N' own scope s H fp pins)) (hi:Ft cal X tg iter wi) (hk:scope.kind = .function) (hS:dZ N' own X.env.scope scope = true) (hM:dX X.N N' scope = true)
  (hg:∀ s H fp pins,PG (blk X N' own scope s H fp pins) tg g) (ht:∀ s H fp pins,tK (blk X N' own scope s H fp pins) ifs tt) (he:∀ s H fp pins,PE (blk X N' own scope s H fp pins) kx tk) (hv:∀ s H fp pins,PE (blk X N' own scope s H fp pins) vx tv) (hu:X.A.units < cLine)
  (hs:∀ x,foldedSetIterable iter X.env x = pure x) {use:Option (Value -> Sem Unit)} {Q0:Value -> Shared -> Prop} {pins:List (Addr × Obj)} {s:Shared} {σ:St} {H:Hp} {Q:VK}
  (I:Inv X pins σ H s) (h:p7 wi own.length g tt tk tv σ H Q)
  (fin:∀ (l:Addr) (H':Hp) (s':Shared) (C:Addr) (m:Str -> Option Value),Inv X pins σ H' s' -> Q (.ref l) H' -> s'.heap.Ns C m -> H' C = none -> C ≠ X.env.locals -> X.s₀.heap.objs.size ≤ C -> (∀ x c,X.env.cells.lookup x = some c -> c ≠ C) -> (∀ p ∈ X.pn ++ pins,p.1 ≠ C) ->
   compPost (model X.prog X.w) X.A X.xe use Q0 (.ref l) C (.ok .next) s') :
  wpAny (model X.prog X.w) X.A (comprehension (.DictComp kx vx [⟨tg,iter,ifs,0⟩] scope pos) scope X.env pos' newDict false (eval iter X.env) use) Q0 X.xe s:= by
 have S:=lr hS
 have Mk:=lu hM
 refine wpAny_comprehension_free rfl hs (gn fun n hn => I.ok.has n (S.free n hn)) hk S.loc (bj (hi pins s σ H _ I h) fun xv s1 h1 => bj h1 fun itv s2 h2 => ?_)
 obtain ⟨it,fp,tn,J,H2,e,I2,T,st2,f2,q2⟩:=h2
 subst e
 refine wpAny_newObj_type ?_
 have hl2:H2 s2.heap.objs.size = none:=I2.fresh
 obtain ⟨o0,ho0,W,⟨m0,w0⟩,turn⟩:=q2 s2.heap.objs.size hl2
 have I3:Inv X pins σ (upd H2 s2.heap.objs.size o0) { s2 with heap:=s2.heap.push { cls:=.type "dict",data:=.dict #[] } }:= by
  rcases ho0 with rfl | rfl
  ·exact I2.laid (t':=s2.toks) (fun _ _ q => Heap.get?_push_of_some _ q) (Nat.le_refl _) (dk_empty s2.heap I2.big)
  ·exact I2.laid (t':=s2.toks) (fun _ _ q => Heap.get?_push_of_some _ q) (Nat.le_refl _) (dt_empty s2.heap I2.big)
 generalize hl:s2.heap.objs.size = l at *
 have ob2:∀ b ∈ fp,b < l:=fun b hb => by
  obtain ⟨o,e,_⟩:=T.obj _ _ st2 b hb
  rw [<- hl]; exact Heap.lt_size e
 have st3:tn 0 (s2.heap.push { cls:=.type "dict",data:=.dict #[] }):=T.keep _ _ _ st2 fun b _ o e => Heap.get?_push_of_some _ e
 have sz3:l < (s2.heap.push { cls:=.type "dict",data:=.dict #[] }).objs.size:=by rw [Heap.size_push,hl]; exact Nat.lt_succ_self _
 have f3:∀ b ∈ fp,fk X pins (upd H2 l o0) b:=fun b hb => ⟨by rw [av (Nat.ne_of_lt (ob2 b hb))]; exact (f2 b hb).1,(f2 b hb).2⟩
 generalize hs3:({ s2 with heap:=s2.heap.push { cls:=.type "dict",data:=.dict #[] } }:Shared) = s3 at I3
 have hh3:s3.heap = s2.heap.push { cls:=.type "dict",data:=.dict #[] }:=by rw [<- hs3]
 rw [<- hh3] at st3 sz3
 have ob3:∀ b ∈ fp,b < s3.heap.objs.size:=fun b hb => Nat.lt_trans (ob2 b hb) sz3
 generalize upd H2 l o0 = H3 at *
 show wpAny _ _ (newFunctionEnv scope X.env.globals (fg X.env.cells scope.names []) [] X.env.qual none .none (some X.env)) _ _ _
 have goal:wpAny (model X.prog X.w) X.A (newFunctionEnv scope X.env.globals (fg X.env.cells scope.names []) [] X.env.qual none .none (some X.env))
   (fun cenv s₄ => codeAny (model X.prog X.w) X.A (.compStart (.DictComp kx vx [⟨tg,iter,ifs,0⟩] scope pos) 0 (.ref it) (.ref l) { cenv with scope:=relabel scope X.env }) (compPost (model X.prog X.w) X.A X.xe use Q0 (.ref l) cenv.locals) s₄) X.xe s3:= by
  refine i4 ?_
  have IY:=I3.blk f3 ob3 hk S Mk
  have keep:=@Inv.blkKeep s3 scope
  have st4:tn 0 (pushCells (s3.heap.push { cls:=.type "dict",data:=.dict #[] }) scope.names):=T.keep _ _ _ st3 fun b _ o e => keep b o e
  have hcells:=iE I3 S
  have stat:∀ {H':Hp},(∀ b ∈ fp,H' b = none) -> ∀ b ∈ fp,fk (blk X N' own scope s3 H3 fp pins) [] H' b:=fun hn b hb => by
   refine ⟨hn b hb,Nat.ne_of_lt (ob3 b hb),fun z => ?_,.inl hb,fun x c h => ?_,fun p hp => ?_⟩
   ·rcases List.mem_cons.mp (I3.stkSub b z) with z | z
    ·exact (f3 b hb).2.1 z
    ·exact (f3 b hb).2.2.1 z
   ·rcases hcells x c h with ⟨_,_,a3,_⟩ | ⟨a1,_,_⟩
    ·intro z; subst z; exact absurd (ob3 _ hb) (Nat.not_lt.mpr (Nat.le_of_succ_le a3))
    ·exact (f3 b hb).2.2.2.2.1 x c a1
   ·have hp':p ∈ X.pn ++ pins:= by
     rcases List.mem_append.mp hp with z | z
     ·exact z
     ·exact nomatch z
    exact (f3 b hb).2.2.2.2.2 p hp'
  have loop:codeAny (model X.prog X.w) X.A (.compLoop (.DictComp kx vx [⟨tg,iter,ifs,0⟩] scope pos) 0 (.ref it) (.ref l) (blk X N' own scope s3 H3 fp pins).env)
    (compPost (model X.prog X.w) X.A X.xe use Q0 (.ref l) s3.heap.objs.size) { s3 with heap:=pushCells (s3.heap.push { cls:=.type "dict",data:=.dict #[] }) scope.names }:= by
   refine kR (fun n s' => ∃ i σ' H',Inv (blk X N' own scope s3 H3 fp pins) [] σ' H' s' ∧ σ'.take σ.length = σ ∧ tn i s'.heap ∧ (∀ b ∈ fp,H' b = none) ∧ W i n H') ?_ m0
    ⟨0,_,H3,IY,by rw [List.take_left'] <;> rfl,st4,fun b hb => (f3 b hb).1,w0⟩
   rintro n s5 ⟨i,σ5,H5,I5,e5,st5,fr5,w5⟩
   rcases turn i n H5 w5 with ⟨stop,q⟩ | ⟨go,step⟩
   ·refine wpAny_mono (T.done (blk X N' own scope s3 H3 fp pins) rfl rfl rfl (hc _ _ _ _) i [] s5 σ5 H5 (fun _ _ => False) I5 (stat fr5) st5 stop) (fun r s6 hr => ?_) fun _ _ z => z
    obtain ⟨rfl,I6⟩:=hr
    obtain ⟨m,hn,_⟩:=id I6.loc
    refine fin l H5 s6 _ m (I3.unblk f3 I6) q hn I6.free (Nat.ne_of_gt I3.lt) I3.sz (fun x c e z => ?_) fun p hp z => ?_
    ·obtain ⟨v,qc⟩:=I3.cell x c e
     exact absurd qc.lt (by rw [z]; exact Nat.lt_irrefl _)
    ·exact absurd (Heap.lt_size (I3.pin p hp).1) (by rw [z]; exact Nat.lt_irrefl _)
   ·have lenσ:σ5.length = (σ ++ List.replicate own.length (none:Option V)).length:= by
     rw [I5.len,List.length_append,List.length_replicate,I.len]
     show (N' ++ own).length = _
     rw [List.length_append,Mk.len]
    have I5':Inv (blk X N' own scope s3 H3 fp pins) [] (σ ++ List.replicate own.length none) H5 s5:=I5.weak lenσ.symm fun j v e => by
     have hj:j < σ.length:= by
      by_cases hj:j < σ.length
      ·exact hj
      ·rw [List.getElem?_append_right (by omega),List.getElem?_replicate] at e
       split at e <;> cases e
     rw [List.getElem?_append_left hj] at e
     rw [<- e5,List.getElem?_take_of_lt hj] at e
     exact e
    refine wpAny_mono (T.item (blk X N' own scope s3 H3 fp pins) rfl rfl rfl (hc _ _ _ _) i [] s5 _ H5 (fun _ _ => False) I5' (stat fr5) st5 go) (fun r s6 hr => ?_) fun _ _ z => z
    obtain ⟨u,rfl,h6⟩:=hr
    refine bj h6 fun _ s7 ⟨x,H7,I7,r7,y7,st7,fr7⟩ => ?_
    have I7':=I7.pinned (stat fr7) (T.obj _ _ st7)
    refine bj (hg s3 H3 fp pins _ s7 _ H7 x u _ I7' r7 (step x H7 y7)) fun _ s8 ⟨σ8,H8,I8,e8,q8⟩ => ?_
    refine bj (ht s3 H3 fp pins _ s8 σ8 H8 _ I8 q8) fun b s9 ⟨H9,I9,q9⟩ => ?_
    have again:∀ {Ha:Hp} {sa:Shared} {m':Nat},Inv (blk X N' own scope s3 H3 fp pins) ([] ++ iP fp s7.heap) σ8 Ha sa -> m' < n -> W (i + 1) m' Ha ->
      ∃ m,m < n ∧ ∃ i σ' H',Inv (blk X N' own scope s3 H3 fp pins) [] σ' H' sa ∧ σ'.take σ.length = σ ∧ tn i sa.heap ∧ (∀ b ∈ fp,H' b = none) ∧ W i m H':=fun {Ha sa m'} Ia hm wa => by
     refine ⟨m',hm,i + 1,σ8,Ha,Ia.unpinned,e8,T.keep _ _ _ st7 fun b hb o e => (Ia.pin (b,o) (List.mem_append_right _ (List.mem_append_right _ (cY hb e)))).1,fun b hb => ?_,wa⟩
     obtain ⟨o,e,d⟩:=T.obj _ _ st7 b hb
     exact (Ia.pin (b,o) (List.mem_append_right _ (List.mem_append_right _ (cY hb e)))).2.1
    cases b with
    | false =>
     rw [if_neg Bool.false_ne_true] at q9 ⊢
     obtain ⟨m',hm,wa⟩:=q9
     exact again I9 hm wa
    | true =>
     rw [if_pos rfl] at q9 ⊢
     refine bj (he s3 H3 fp pins _ s9 σ8 H9 _ I9 q9) fun y s10 ⟨ky,H10,I10,rk,q10⟩ => ?_
     refine bj (hv s3 H3 fp pins _ s10 σ8 H10 _ I10 q10) fun x2 s11 ⟨v,H11,I11,rv,H12,dp,m',hm,wa⟩ => ?_
     exact s_ (X:=blk X N' own scope s3 H3 fp pins) hu I11 dp rk rv fun s12 I12 => again I12 hm wa
  exact codeAny_compStart_dict loop (T.self _ 0 _ _ _ st4 loop)
 exact goal
theorem vb (hi:PI X tg iter wi) (hg:∀ s H fp pins,PG (blk X N' own scope s H fp pins) tg g) (ht:∀ s H fp pins,tK (blk X N' own scope s H fp pins) ifs tt) (he:∀ s H fp pins,PE (blk X N' own scope s H fp pins) kx tk) (hv:∀ s H fp pins,PE (blk X N' own scope s H fp pins) vx tv) (hu:X.A.units < cLine)
  (hS:dZ N' own X.env.scope scope = true:=by rfl) (hM:dX X.N N' scope = true:=by rfl) (hk:scope.kind = .function:=by rfl) (hc:X.calm = true:=by rfl) (hs:∀ x,foldedSetIterable iter X.env x = pure x:=by intro _; rfl) :
  PE X (.DictComp kx vx [⟨tg,iter,ifs,0⟩] scope pos) (p7 wi own.length g tt tk tv):= by
 intro pins s σ H Q I h
 have ev:eval (.DictComp kx vx [⟨tg,iter,ifs,0⟩] scope pos) X.env = comprehension (.DictComp kx vx [⟨tg,iter,ifs,0⟩] scope pos) scope X.env (firstIterPos [⟨tg,iter,ifs,0⟩] pos) newDict (firstAsync [⟨tg,iter,ifs,0⟩]) (firstIter [⟨tg,iter,ifs,0⟩] X.env):=by rw [eval]
 rw [ev]
 refine uK (use:=none) (cal:=fun X => X.calm = true) (fun _ _ _ _ => hc) hi.g hk hS hM hg ht he hv hu hs I h fun l H' s' C m I' q hn h1 h2 h3 h4 h5 => ?_
 refine ⟨m,hn,fun h' sb => ⟨.ref l,H',?_,rfl,q⟩⟩
 exact I'.turned (t':=s'.toks) (fun b o hb e => (sb.2 b hb).trans e) h1 h2 (.inr h3) h4 h5
end
end L2
namespace Jt
open PySem L2 PySem.Spec PyProof.Rows
theorem Sl.unhideO {c:Ct} {δ:DS} {S:List D} {σ:L2.St} {T:List V} {H:Hp} {p:Addr} {o:HO} {d:D} (s:Sl { c with Z:=upd c.Z p o } δ S σ T H) (hp:c.Z p = none) (hR:∀ Hh:Hp,Hh p = some o -> R Hh d (.ref p)):Sl c δ (d :: S) σ (.ref p :: T) H:= by
 have hpH:H p = some o:=s.zz p _ aA
 have npow:=s.noOw
 have zc:∀ a u,c.Z a = some u -> upd c.Z p o a = some u:=fun a u h => by rw [av fun q => by rw [q,hp] at h; cases h]; exact h
 have m:∀ b u,eJ { c with Z:=upd c.Z p o } δ σ H b = some u -> eJ c δ σ H b = some u:=aU (fun a u e z => by
  rcases z with ⟨w,z⟩ | z
  ·exact .inl ⟨w,zc a w z⟩
  ·exact .inr z) fun a u ha e => e
 refine ⟨s.len,fun i d e => ?_,fun i b xs e => ?_,s.ne,.cons (hR _ (dn.mpr ⟨fun z => ?_,hpH⟩)) (s.st.mono m),s.keep,s.bb,fun a u hz => s.zz a u (zc a u hz)⟩
 ·obtain ⟨v,e,r⟩:=s.pu i d e
  exact ⟨v,e,r.mono m⟩
 ·obtain ⟨a,vs',e,h1,h2,h3,h4,h5⟩:=s.ow i b xs e
  refine ⟨a,vs',e,h1,h2.mono m,h3,h4,?_⟩
  have h5':upd c.Z p o a = none:=h5
  by_cases q:a = p
  ·rw [q]; exact hp
  ·rwa [av q] at h5'
 ·rcases z with ⟨u,z⟩ | z
  ·rw [hp] at z; cases z
  ·exact npow z
section
variable {X:Cx}
def Du:R2:=fun x y H Q => ∃ a v,x = .ref a ∧ DGet H a y (some v) ∧ Q v H
theorem zk (hu:X.A.units + 1 < cLine):q0 X Du:= by
 intro value slice pins s σ H x y v u Q I rx ry h hs
 obtain ⟨a,w,rfl,g,q⟩:=h
 cases rx
 have hT:=dict_typeIs I g
 have h2:wpAny (model X.prog X.w) X.A (getItem (.ref a) u) (EP X pins σ Q) X.xe s:=d_getItem hu I g ry fun w' s3 I3 rw' => ⟨w,H,I3,rw',q⟩
 unfold subscriptTail
 refine wpAny_bind ?_
 rw [getitemInPython_of_ne hT.not_modules]
 refine wpAny_bind (wpAny_specialOf hT PySem.F.slot_dict_getitem.lookup ?_)
 have fin:wpAny (model X.prog X.w) X.A (subscripted slice false (.ref a) u) (fun r s₃ => wpAny (model X.prog X.w) X.A (letTemporaryGo value (.ref a) r >>= fun _ => pure r) (EP X pins σ Q) X.xe s₃) X.xe s:= by
  rw [hs]
  exact wpAny_operating (wpAny_mono h2 (fun r s₃ h₃ => wpAny_bind (wpAny_letTemporaryGo (wpAny_pure h₃))) fun _ _ x => x)
 exact wpAny_pure (wpAny_bind fin)
theorem Cj {r r':R2} (h:q0 X r) (h':q0 X r'):q0 X (fun x y H Q => r x y H Q ∨ r' x y H Q):=fun value slice pins s σ H x y v u Q I rx ry q hs => q.elim (fun q => h value slice pins s σ H x y v u Q I rx ry q hs) fun q => h' value slice pins s σ H x y v u Q I rx ry q hs
end
def jb (kvs:List (Int × Int)) (k:Int):Option Int:=(kvs.find? fun p => decide (p.1 = k)).map (·.2)
def rm (kvs:List ((Int × Int) × Int)) (a b:Int):Option Int:=(kvs.find? fun p => decide (p.1 = (a,b))).map (·.2)
theorem u9 (k:Int):∀ kvs:List (Int × Int),valV (kvs.map fun p => ((.inl p.1,.int p.2):Key × V)) (.inl k) = (jb kvs k).map V.int
 | [] => rfl
 | (x,y) :: r => by
  have ih:=u9 k r
  unfold valV jb at *
  rw [List.map_cons,List.find?_cons,List.find?_cons]
  by_cases q:x = k
  ·simp [q]
  ·have q':¬ ((.inl x:Key) = .inl k):=fun z => q (Sum.inl.inj z)
   simp only [q',q,decide_false]
   exact ih
theorem vw (a b:Int):∀ kvs:List ((Int × Int) × Int),valV (kvs.map fun p => (([.inl p.1.1,.inl p.1.2],.int p.2):List Key × V)) [.inl a,.inl b] = (rm kvs a b).map V.int
 | [] => rfl
 | ((x,x'),y) :: r => by
  have ih:=vw a b r
  unfold valV rm at *
  rw [List.map_cons,List.find?_cons,List.find?_cons]
  by_cases q:(x,x') = (a,b)
  ·cases q
   simp
  ·have q':¬ (([.inl x,.inl x']:List Key) = [.inl a,.inl b]):=fun z => q (by
    simp only [List.cons.injEq,Sum.inl.injEq,and_true] at z
    rw [z.1,z.2])
   simp only [q',q,decide_false]
   exact ih
def tE:D -> D -> Option D
 | .dic kvs,.int i => (jb kvs i).map .int
 | .dip kvs,.tup [.int a,.int b] => (rm kvs a b).map .int
 | x,y => dj x y
section
variable {X:Cx} {a b:Expr} {fa fb:M D} {pos:Pos}
theorem xU {K:PySem.W.Frag}:oQ (fun x y H Q => E2 K x y H Q ∨ Du x y H Q) tE:=fun c δ S σ T H x y v u d Q s e k => by
 unfold tE at e
 split at e
 ·rename_i kvs i
  cases q:jb kvs i with
  | none => rw [q] at e; cases e
  | some w =>
   rw [q] at e; cases e
   obtain ⟨p,rfl,h1⟩:=s.st.tail.head.dic
   have hy:=s.st.head.int
   subst hy
   refine .inr ⟨p,.int w,rfl,?_,k _ _ (s.stk (.cons .mkI s.st.tail.tail))⟩
   have g:=DGet.k (k:=.inl i) (aF _ _ h1)
   rw [u9,q] at g
   exact g
 ·rename_i kvs x y
  cases q:rm kvs x y with
  | none => rw [q] at e; cases e
  | some w =>
   rw [q] at e; cases e
   obtain ⟨p,rfl,h1⟩:=s.st.tail.head.dip
   obtain ⟨b,vs,rfl,h2,h3⟩:=s.st.head.tup
   obtain ⟨v1,r1,rfl,g1,h3⟩:=h3.inv
   obtain ⟨v2,r2,rfl,g2,h3⟩:=h3.inv
   have e3:=h3.inv0
   subst e3
   cases g1.int
   cases g2.int
   refine .inr ⟨p,.int w,rfl,?_,k _ _ (s.stk (.cons .mkI s.st.tail.tail))⟩
   have g:=DGet.t (k:=[.inl x,.inl y]) (aF _ _ h1) (aF _ _ h2)
   rw [vw,q] at g
   exact g
 ·exact .inl (wK c δ S σ T H x y v u d Q s e k)
theorem ud {k:Nat} (hr:b6 k X.A) (ha:DE X a fa) (hb:DE X b fb) (hs:gQ b:=by exact fun _ _ => rfl):DE X (.Subscript a b pos) (m2 tE fa fb):=zM (Cj vo (zk (by have:=gH hr; omega))) xU ha hb hs
end
def kL (kvs:List (Int × Int)) (k v:Int):List (Int × Int):=if (kvs.any fun p => decide (p.1 = k)) = true then kvs.map (fun p => if p.1 = k then (p.1,v) else p) else kvs ++ [(k,v)]
theorem B3 (kvs:List (Int × Int)) (k v:Int):putK (kvs.map fun p => ((.inl p.1,.int p.2):Key × V)) (.inl k) (.int v) = (kL kvs k v).map fun p => (.inl p.1,.int p.2):= by
 unfold putK kL
 have e:((kvs.map fun p => ((.inl p.1,.int p.2):Key × V)).any fun kv => decide (kv.1 = .inl k)) = kvs.any fun p => decide (p.1 = k):= by
  rw [List.any_map]
  refine List.any_congr rfl fun p => ?_
  exact decide_eq_decide.mpr ⟨fun z => Sum.inl.inj z,fun z => by show (.inl p.1:Key) = .inl k; rw [z]⟩
 rw [e]
 split
 ·rw [List.map_map,List.map_map]
  refine List.map_congr_left fun p _ => ?_
  by_cases q:p.1 = k
  ·simp [q]
  ·have q':¬ ((.inl p.1:Key) = .inl k):=fun z => q (Sum.inl.inj z)
   simp [q]
 ·rw [List.map_append]; rfl
theorem wA (kvs:List (Int × Int)) (k v:Int):(kL kvs k v).length ≤ kvs.length + 1:= by
 unfold kL
 split
 ·rw [List.length_map]; omega
 ·rw [List.length_append]; exact Nat.le_refl _
def lU (gt:D -> M Unit) (tt:M Bool) (tk tv:M D) (d:D):M (Option (Int × Int)):=do
 gt d
 let b <- tt
 if b = true then do
  let k <- tk
  let v <- tv
  match k,v with
  | .int i,.int j => pure (some (i,j))
  | _,_ => lift none
 else pure none
def zA (acc:List (Int × Int)):Option (Int × Int) -> List (Int × Int)
 | none => acc
 | some (k,v) => kL acc k v
def fz (own:Nat) (turn:D -> M (Option (Int × Int))) (fin:DS -> Bool):List (DS -> Option D) -> List (Int × Int) -> M (List (Int × Int))
 | [],acc => fun δ => if fin δ = true then some (acc,δ) else none
 | a :: r,acc => fun δ => match a δ with
  | none => none
  | some d => match turn d (δ ++ List.replicate own .un) with
   | none => none
   | some (o,δ2) => fz own turn fin r (zA acc o) (δ2.take δ.length)
def ka (lo own:Nat) (fi:M jn) (turn:D -> M (Option (Int × Int))):M D:=do
 h9 lo
 let it <- fi
 let _ <- lift (few it.1.length)
 let kvs <- fz own turn it.2 it.1 []
 pure (.dic kvs)
section
variable {fi:M jn} {gt:D -> M Unit} {tt:M Bool} {tk tv:M D}
theorem rN {lo own:Nat}:∀ σ H Q,tM (ka lo own fi (lU gt tt tk tv)) σ H Q -> p7 (EC fi) own (EH lo gt) (vp tt) (tM tk) (tM tv) σ H Q:=fun σ H Q ⟨c,δ0,S,T,dd,δ',s0,e,k⟩ => by
 obtain ⟨u,δ1,e0,e⟩:=bind_some e
 have hlo:σ.length = lo ∧ δ0 = δ1:= by
  unfold h9 at e0
  split at e0
  ·cases e0; exact ⟨by rw [<- s0.len]; assumption,rfl⟩
  ·cases e0
 obtain ⟨hlo,rfl⟩:=hlo
 obtain ⟨it,δ2,e1,e⟩:=bind_some e
 obtain ⟨u',δ3,e2,e⟩:=bind_some e
 obtain ⟨e3,rfl⟩:=aw e2
 have hfew:=(fV e3).2
 obtain ⟨kvs,δ4,e4,e⟩:=bind_some e
 obtain ⟨rfl,rfl⟩:=ak e
 refine ⟨c,δ0,S,T,it,δ2,s0,e1,fun J Sx Tx H1 l hJ s1 q hq => ?_⟩
 obtain ⟨items,fin⟩:=it
 dsimp only at e4 hfew
 obtain ⟨f1,f2,f3⟩:=s1.fresh hq
 refine ⟨.dK [],.inl rfl,fun i m H => ∃ δi acc,m = items.length - i ∧ i ≤ items.length ∧ acc.length ≤ i ∧ Sl { c with Z:=upd c.Z q (gU acc) } δi (Sx ++ S) σ (Tx ++ T) H ∧
  fz own (lU gt tt tk tv) fin (items.drop i) acc δi = some (kvs,δ4),⟨_,δ2,[],rfl,Nat.zero_le _,Nat.le_refl _,s1.hide hq,e4⟩,?_⟩
 rintro i m H ⟨δi,acc,rfl,hi,li,s,em⟩
 by_cases hlt:i < items.length
 ·rw [List.drop_eq_getElem_cons hlt] at em
  unfold fz at em
  cases ea:items[i] δi with
  | none => rw [ea] at em; cases em
  | some d =>
   rw [ea] at em
   dsimp only at em
   cases et:lU gt tt tk tv d (δi ++ List.replicate own .un) with
   | none => rw [et] at em; cases em
   | some p =>
    obtain ⟨o,δt⟩:=p
    rw [et] at em
    dsimp only at em
    obtain ⟨u1,δa,ea1,et⟩:=bind_some et
    obtain ⟨b,δb,eb1,et⟩:=bind_some et
    obtain ⟨go,yld⟩:=(hJ { c with Z:=upd c.Z q (gU acc) } δi S T H i s).1 items[i] d (List.getElem?_eq_getElem hlt) ea
    refine .inr ⟨go,fun x H' y => ?_⟩
    refine ⟨{ c with Z:=upd c.Z q (gU acc) },δi ++ List.replicate own .un,Sx ++ S,Tx ++ T,d,δa,(yld x H' y).ext own,ea1,fun σ2 H2 hn s2 => ?_⟩
    have ht:σ2.take σ.length = σ:= by
     rw [hn _ (Nat.le_of_eq hlo)]
     exact List.take_left' rfl
    refine ⟨ht,{ c with Z:=upd c.Z q (gU acc) },δa,Sx ++ S,Tx ++ T,b,δb,s2,eb1,fun H3 s3 => ?_⟩
    have cutL:δi.length = σ.length:=s.len
    cases b with
    | true =>
     rw [if_pos rfl] at et
     refine AR ?_
     obtain ⟨kd,δk,ek,et⟩:=bind_some et
     obtain ⟨vd,δv,ev,et⟩:=bind_some et
     split at et
     ·rename_i ki vi _
      obtain ⟨rfl,rfl⟩:=ak et
      refine ⟨{ c with Z:=upd c.Z q (gU acc) },δb,Sx ++ S,Tx ++ T,_,δk,s3,ek,fun v1 H4 s4 => ?_⟩
      have hv1:=s4.st.head.int
      subst hv1
      refine ⟨{ c with Z:=upd c.Z q (gU acc) },δk,_,_,_,δv,s4,ev,fun v2 H5 s5 => ?_⟩
      have hv2:=s5.st.head.int
      subst hv2
      have hq5:H5 q = some (gU acc):=s5.zz q _ aA
      have pt:=DPut.k (k:=.inl ki) (v:=.int vi) hq5 (by rw [List.length_map]; omega)
      rw [B3] at pt
      refine ⟨_,pt,items.length - (i + 1),by omega,δv.take δi.length,kL acc ki vi,rfl,hlt,by have:=wA acc ki vi; omega,?_,em⟩
      have s6:=s5.pop.pop.cut σ.length
      rw [ht,<- cutL] at s6
      exact Sl.hideSet (gU (kL acc ki vi)) s6 f2 f3
     ·cases et
    | false =>
     rw [if_neg Bool.false_ne_true] at et
     refine Cf ?_
     obtain ⟨rfl,rfl⟩:=ak et
     refine ⟨items.length - (i + 1),by omega,δb.take δi.length,acc,rfl,hlt,by omega,?_,em⟩
     have s5:=s3.cut σ.length
     rw [ht,<- cutL] at s5
     exact s5
 ·have ei:i = items.length:=by omega
  subst ei
  rw [List.drop_length] at em
  unfold fz at em
  by_cases hf:fin δi = true
  ·rw [if_pos hf] at em
   obtain ⟨rfl,rfl⟩:acc = kvs ∧ δi = δ4:=by cases em; exact ⟨rfl,rfl⟩
   refine .inl ⟨(hJ { c with Z:=upd c.Z q (gU acc) } _ S T H _ s).2 rfl hf,k _ _ ?_⟩
   have s2:=s.unhideO (d:=.dic acc) f1 fun Hh h => .mkDic h
   exact s2.stk (.cons s2.st.head (s2.st.tail.right l))
  ·rw [if_neg hf] at em; cases em
variable {X:Cx} {kx vx tg iter:Expr} {N' own:List Str} {scope:Scope} {ifs:List Expr} {lo:Nat} {pos:Pos}
theorem vG {k:Nat} (hr:b6 k X.A) (hi:DC X tg iter fi) (hg:∀ s H fp pins,DG (blk X N' own scope s H fp pins) lo tg gt) (ht:∀ s H fp pins,tK (blk X N' own scope s H fp pins) ifs (vp tt)) (he:∀ s H fp pins,DE (blk X N' own scope s H fp pins) kx tk) (hv:∀ s H fp pins,DE (blk X N' own scope s H fp pins) vx tv)
  (hS:dZ N' own X.env.scope scope = true:=by rfl) (hM:dX X.N N' scope = true:=by rfl) (hk:scope.kind = .function:=by rfl) (hc:X.calm = true:=by rfl) (hs:∀ x,foldedSetIterable iter X.env x = pure x:=by intro _; rfl) :
  DE X (.DictComp kx vx [⟨tg,iter,ifs,0⟩] scope pos) (ka lo own.length fi (lU gt tt tk tv)):=b8 (vb hi hg ht he hv (by have:=gH hr; omega) hS hM hk hc hs) rN
end
end Jt
namespace Jt
open PySem L2 PySem.Spec PyProof.Rows
section
variable {X:Cx} {a b:Expr} {fs:M (List D)} {p pos:Pos}
def El (ta:TA):TE:=fun σ H Q => ta σ H fun vs H1 => ∃ i j:Int,vs = [.int i,.int j] ∧ ∀ q,H1 q = none -> Q (.ref q) (upd H1 q (.rng i j))
theorem sJ {ta:TA} (hg:Gl X "range") (hm:X.mg "range" = none) (ha:PA X [a,b] ta) (hs:starEach [a,b] X.env = [(false,eval a X.env),(false,eval b X.env)]:=by rfl) (hs2:starEach [b] X.env = [(false,eval b X.env)]:=by rfl):PE X (.Call (.Name "range" p) [a,b] [] pos) (El ta):= by
 intro pins s σ H Q I h
 refine PyProof.Rows.Call_ (fL I hg hm (show bootBuiltins "range" = some (.type "range") by decide +kernel) (PyProof.Rows.callWith_type1 (bj (ha pos pins s σ H _ I h) fun us s1 ⟨vs,H1,I1,r1,q1⟩ => ?_) (by rw [hs,hs2]) (by rw [hs2]; rfl)))
 obtain ⟨i,j,e,q⟩:=q1
 subst e
 cases r1 with
 | cons r rr =>
  cases rr with
  | cons r' rr =>
   cases rr
   obtain ⟨t,rfl⟩:=r
   obtain ⟨t',rfl⟩:=r'
   refine call_range_2 ⟨.ref s1.heap.objs.size,upd H1 s1.heap.objs.size (.rng i j),I1.laid (fun b u e => Heap.get?_push_of_some _ e) (Nat.le_refl _) ?_,rfl,q _ I1.fresh⟩
   exact ⟨_,_,_,Heap.get?_push_size _ rfl⟩
theorem nj (hc:X.calm = true):cQ X (.type "list") (fun xs H Q => ∃ q i j,xs = [.ref q] ∧ H q = some (.rng i j) ∧ 0 ≤ i ∧ i < 100000 ∧ j < 100000 ∧ -(2 ^ 62) ≤ j ∧ ∀ l,H l = none -> Q (.ref l) (upd H l (.lst ((List.range (j - i).toNat).map fun (k:Nat) => V.int (i + (k:Int)))))):= by
 intro pins s σ H xs us Q I r h
 obtain ⟨q,i,j,rfl,hq,hi0,hi1,hj,hj2,k⟩:=h
 obtain ⟨u,rfl,rx⟩:=r.one
 cases rx
 obtain ⟨t,u',v,hr⟩:=I.hok q _ hq
 refine call_list_range (n:=(j - i).toNat) (I.ok.hd hc) hr (small_one (by omega) (by omega) hj2 (by omega)) (by rw [rangeSize_one]; split <;> omega) (by omega) fun h' tk acc' c' kp e hi => ?_
 refine ⟨.ref s.heap.objs.size,_,I.laid (t':=tk) kp (Nat.le_refl _) (show bX X.prog X.w _ h' _ (.lst _) from ⟨?_,acc'.toList,c',j7 hi,by simpa using e⟩),rfl,k _ I.fresh⟩
 have:(100000:Nat) < sizeLine:=by rw [sizeLine_eq]; decide
 simp; omega
def lP:List D -> Option (List D)
 | [.int i,.int j] => if 0 ≤ i ∧ i < 100000 ∧ j < 100000 ∧ -(2 ^ 62) ≤ j then some (bC i (j - i).toNat) else none
 | _ => none
theorem rV {p2 pos2:Pos} (hml:X.mg "list" = none) (hmr:X.mg "range" = none) (ha:DA X [a,b] fs) (hgl:Gl X "list":=by rfl) (hgr:Gl X "range":=by rfl) (hc:X.calm = true:=by rfl) (hs:starEach [a,b] X.env = [(false,eval a X.env),(false,eval b X.env)]:=by rfl) (hs2:starEach [b] X.env = [(false,eval b X.env)]:=by rfl) :
  DF X (.Call (.Name "list" p) [.Call (.Name "range" p2) [a,b] [] pos2] [] pos) (mC lP fs) :=
 b8 (d9 (nj hc) hgl hml (by decide +kernel) (cG (sJ hgr hmr ha hs hs2) eZ) (by decide) (by decide) rfl rfl) fun σ H Q ⟨c,δ,S,T,d,δ',s,e,k⟩ => by
  obtain ⟨ds,δ1,e1,e⟩:=bind_some e
  obtain ⟨e2,rfl⟩:=aw e
  refine ⟨c,δ,S,T,ds,δ1,s,e1,fun vs H1 l s1 => ?_⟩
  unfold lP at e2
  split at e2
  ·rename_i i j
   split at e2
   ·rename_i hj
    cases e2
    obtain ⟨v,u,rfl,r1,r2⟩:=EB (s1.st.left l)
    cases r1.int
    cases r2.int
    refine ⟨i,j,rfl,fun q hq => ⟨q,i,j,rfl,aA,hj.1,hj.2.1,hj.2.2.1,hj.2.2.2,fun m hm => ?_⟩⟩
    have s2:=(s1.drop l).grow (d4 hq (.rng i j))
    obtain ⟨f1,f2,f3⟩:=s2.fresh hm
    refine k m _ _ (mM (H:=H)).length ((s2.hide hm).stk ?_) f1 f2 f3
    exact mM.append (s2.hide hm).st
   ·cases e2
  ·cases e2
end
end Jt
namespace Jt
open PySem L2 PySem.Spec PyProof.Rows
section
variable {X:Cx} {a b:Expr} {fs:M (List D)} {pos:Pos}
def A9 (i j:Nat) (fs:M (List D)):M Fl:=do
 let ds <- fs
 match ds with
 | [x,y] => do
  a9 i x
  a9 j y
  pure .nx
 | _ => lift none
theorem CG (i j:Nat) {x y:Str} {px py pt:Pos} {kt k2 pt2} (hN:X.N.Nodup) (ha:DA X [a,b] fs) (hw:swappedStores [.Tuple [.Name x px,.Name y py] kt pt] (.Tuple [a,b] k2 pt2) X.env = pure (some [x,y]):=by rfl) (hi:X.N[i]? = some x:=by rfl) (hj:X.N[j]? = some y:=by rfl) (hij:i ≠ j:=by decide)
  (hx:X.env.scope.names.lookup x = some .local:=by rfl) (hy:X.env.scope.names.lookup y = some .local:=by rfl) (hc:X.calm = true:=by rfl)
  (hs:swapsWithSole [.Tuple [.Name x px,.Name y py] kt pt] (.Tuple [a,b] k2 pt2) pos.line X.env = pure false:=by rfl) :
  o3 X (.Assign [.Tuple [.Name x px,.Name y py] kt pt] (.Tuple [a,b] k2 pt2) pos) (A9 i j fs):=jo (CQ hc hN hi hj hij hx hy ha hw hs) fun E σ H ⟨c,δ,S,T,fl,δ',s,e,k⟩ => by
 obtain ⟨ds,δ1,e1,e⟩:=bind_some e
 refine ⟨c,δ,S,T,ds,δ1,s,e1,fun vs H' l s' => ?_⟩
 split at e
 ·obtain ⟨u,δ2,e2,e⟩:=bind_some e
  obtain ⟨u',δ3,e3,e⟩:=bind_some e
  obtain ⟨rfl,rfl⟩:=ak e
  obtain ⟨hi1,rfl⟩:=ee e2
  obtain ⟨hj1,rfl⟩:=ee e3
  obtain ⟨v,w,rfl,r1,r2⟩:=EB (s'.st.left l)
  exact ⟨v,w,rfl,k _ _ ((Sl.setPu s' hi1).setPu hj1)⟩
 ·cases e
end
end Jt
namespace Jt
open PySem L2 PySem.Spec PyProof.Rows
section
variable {prog:Program} {w:World} {A:Around} {E:Value -> Shared -> Prop} {s:Shared}
theorem oi {it t:Addr} {items:Array Value} (hne:t ≠ it):∀ (n i:Nat) (s:Shared) (Q:List Value -> Shared -> Prop),s.heap.IsListIter it t i -> s.heap.IsList t items -> i + n ≤ items.size ->
  (∀ h':Heap,h'.IsListIter it t (i + n) -> Heap.SameBut it s.heap h' -> Q ((items.toList.drop i).take n) { s with heap:=h' }) -> wpAny (model prog w) A (draw (.ref it) n) Q E s
 | 0,i,s,Q,hit,_,_,hQ => by
  show wpAny _ _ (pure []) Q E s
  exact wpAny_pure (by simpa using hQ s.heap hit (Heap.SameBut.refl ..))
 | n + 1,i,s,Q,hit,ht,hle,hQ => by
  have hlt:i < items.size:=by omega
  show wpAny _ _ (pyNext (.ref it) >>= _) Q E s
  refine wpAny_bind (wpAny_pyNext_list_item hit ht (x:=items[i]) (by simp [hlt]) fun h₁ hit₁ hs₁ => ?_)
  refine wpAny_bind (wpAny_holding (oi hne n (i + 1) _ _ hit₁ (ht.extBut hs₁.extBut hne) (by omega) fun h₂ hit₂ hs₂ => wpAny_pure ?_))
  have hd:items.toList.drop i = items[i] :: items.toList.drop (i + 1):=by simp [List.drop_eq_getElem_cons,hlt]
  have:=hQ h₂ (by rw [show i + (n + 1) = i + 1 + n by omega]; exact hit₂) (hs₁.trans hs₂)
  rw [hd,List.take_succ_cons] at this
  exact this
theorem p_ {t:Addr} {items:Array Value} {Q:List Value -> Shared -> Prop} (hh:A.handled = none) (ht:s.heap.IsList t items)
  (hQ:∀ h',Heap.ExtBut s.heap.objs.size s.heap h' -> Q items.toList { s with heap:=h' }):wpAny (model prog w) A (unpackItems (.ref t) items.size none) Q E s:= by
 have hlt:t ≠ s.heap.objs.size:=by obtain ⟨o,ho,_⟩:=ht; exact Nat.ne_of_lt (Heap.lt_size ho)
 unfold unpackItems
 refine wpAny_bind ?_
 unfold notIterableAtAll
 refine wpAny_bind (wpAny_specialOf ht.typeIs slot_list_iter.lookup ?_)
 refine wpAny_pure ?_
 simp only [Bool.false_eq_true,if_false]
 refine wpAny_bind (wpAny_holding (wpAny_pyIter_list ht ?_))
 refine wpAny_bind (wpAny_holding (oi hlt items.size 0 _ _ ⟨_,Heap.get?_push_size _ rfl,rfl,rfl⟩ (ht.push _) (by omega) fun h₁ hit₁ hs₁ => ?_))
 have hall:List.take items.size (List.drop 0 items.toList) = items.toList:= by
  rw [List.drop_zero]; exact List.take_of_length_le (by simp)
 rw [hall]
 rw [if_neg (by simp)]
 have ht₁:h₁.IsList t items:=(ht.push _).extBut hs₁.extBut hlt
 refine wpAny_bind (wpAny_holding (wpAny_pyNext_list_end hh hit₁ ht₁ (by simp) fun h₂ he₂ => ?_))
 simp only [Option.isSome_none,Bool.false_eq_true,if_false]
 exact wpAny_pure (hQ h₂ fun b o hb e => he₂ b o hb (hs₁.extBut b o hb (Heap.get?_push_of_some _ e)))
theorem pS {env:Env} {elts:List Expr} {x1} {pos:Pos} {t:Addr} {items:Array Value} {Q:Unit -> Shared -> Prop} (hh:A.handled = none) (ht:s.heap.IsList t items)
  (hn:(assignEach elts env).length = items.size) (hstar:(assignEach elts env).findIdx? (·.1) = none)
  (h:∀ h',Heap.ExtBut s.heap.objs.size s.heap h' -> wpAny (model prog w) A (assignInOrder ((assignEach elts env).map (·.2)) items.toList) Q E { s with heap:=h' }) :
  wpAny (model prog w) A (assign (.Tuple elts x1 pos) env (.ref t)) Q E s:= by
 rw [assign_Tuple]
 refine wpAny_bind (wpAny_standAt ?_)
 unfold unpack
 rw [hn,hstar]
 exact wpAny_bind (wpAny_holding (p_ hh ht h))
end
section
variable {X:Cx} {pos:Pos}
def Fu (K:PySem.W.Frag) (n:Nat) (t:xo):TG:=fun v σ H Q => ∃ a xs,v = .ref a ∧ fI K H a xs ∧ xs.length = n ∧ t xs σ H Q
theorem AE {es:List Expr} {k:Nat} {t:xo} {n:Nat} (hc:X.calm = true) (h:zH X es t)
  (hn:(assignEach es X.env).length = n:=by rfl) (hst:(assignEach es X.env).findIdx? (·.1) = none:=by rfl):PG X (.Tuple es k pos) (Fu X.K n t):= by
 intro pins s σ H v u Q I r hw
 obtain ⟨a,xs,e1,hq,hl,hw⟩:=hw
 subst e1
 cases r
 obtain ⟨its,rv,ht,hz⟩:=I.list hq
 refine pS (I.ok.hd hc) ht.isList (by simp [hn,<- hl,rv.length]) hst fun h' hx => ?_
 have I1:L2.Inv X pins σ H { s with heap:=h' }:=I.kept (t':=s.toks) fun b o e => hx b o (Nat.ne_of_lt (Heap.lt_size e)) e
 exact h pins _ σ H xs _ Q I1 (by simpa using rv) hw
def uW (n:Nat) (g:List D -> M Unit):D -> M Unit
 | .lst ds => if ds.length = n then g ds else lift none
 | _ => lift none
theorem BQ {lo:Nat} {es:List Expr} {k:Nat} {g:List D -> M Unit} {n:Nat} (h:DK X lo es g) (hc:X.calm = true:=by rfl)
  (hn:(assignEach es X.env).length = n:=by rfl) (hst:(assignEach es X.env).findIdx? (·.1) = none:=by rfl):DG X lo (.Tuple es k pos) (uW n g):=AU (AE hc h hn hst) fun v σ H Q ⟨c,δ,S,T,d,δ',s,e,k⟩ => by
 cases d with
 | lst ds =>
  have e':(if ds.length = n then g ds else lift none) δ = some ((),δ'):=e
  split at e'
  ·rename_i hl
   obtain ⟨p,vs,rfl,h1,h2⟩:=s.st.head.lst
   exact ⟨p,vs,rfl,.inl (Rd.mono aF h1),by rw [h2.length]; exact hl,c,δ,S,T,ds,δ',h2.length,s.stk (h2.append s.st.tail),e',k⟩
  ·cases e'
 | _ => cases e
@[simp] theorem ER {n:Nat} {g:List D -> M Unit} {ds:List D} {δ:DS} {Q:Unit -> DS -> Prop}:Ok (uW n g (.lst ds)) δ Q ↔ (if ds.length = n then Ok (g ds) δ Q else False):= by
 show Ok (if ds.length = n then g ds else lift none) δ Q ↔ _
 split <;> simp
end
end Jt
namespace K04
open PySem L2 Jt
def top (i:Nat):Stmt:=PySem.Challenge.pw_jointrees_k04_whole_layouts_together.main.body.getD i (.Pass ⟨0,0,0,0⟩)
structure Bi (mg:Str -> Option Value):Prop where
 all:mg "all" = none
 bool:mg "bool" = none
 enumerate:mg "enumerate" = none
 int:mg "int" = none
 isinstance:mg "isinstance" = none
 len:mg "len" = none
 list:mg "list" = none
 max:mg "max" = none
 min:mg "min" = none
 range:mg "range" = none
 set:mg "set" = none
 sorted:mg "sorted" = none
 tuple:mg "tuple" = none
 zip:mg "zip" = none
 g_MOST_COLUMNS:∃ t,mg "MOST_COLUMNS" = some (.int 7 t)
 g_MOST_HEADS:∃ t,mg "MOST_HEADS" = some (.int 6 t)
section
variable {P:Program} {w:World} {K:PySem.W.Frag} {mg:Str -> Option Value} {base:Heap}
abbrev v8:Stmt:=top 7
abbrev lH:List Str:=["thing"]
theorem Bz:aB lH ["thing"] (ai v8):=⟨rfl,rfl,rfl,by decide +kernel,rfl,by decide +kernel,by decide +kernel⟩
def jM:M Fl :=
 (do let d <- (kF (mN .int (ag 0)) (yC (mN .bool (ag 0)))); pure (Fl.rt d))
variable (P w K mg base) in
abbrev eL (k:Nat):Prop:=Kn P w K mg base cT k "is_whole" ["thing"] (jl 1 (aE lH jM))
theorem BG {k:Nat} (E:Ent K mg "is_whole" ["thing"] v8) (m:Bi mg):eL P w K mg base (k + 1) :=
 l6 E Bz fun _ cdv A outer s H E hr =>
  (ao (aQ (fS (kB .int m.isinstance m.int (ab 0)) (gC (Bu (kB .bool m.isinstance m.bool (ab 0)))))))
abbrev w8:Stmt:=top 8
abbrev lp:List Str:=["thing","many"]
theorem BZ:aB lp ["thing","many"] (ai w8):=⟨rfl,rfl,rfl,by decide +kernel,rfl,by decide +kernel,by decide +kernel⟩
def jH:M Fl :=
 (do let d <- (kF (mC (au 1 (aE lH jM)) (ae (ag 0) (pure []))) (tP oV sx (pure (.int 0)) (ag 0) (ag 1))); pure (Fl.rt d))
variable (P w K mg base) in
abbrev dq (k:Nat):Prop:=Kn P w K mg base cT k "is_below" ["thing","many"] (jl 2 (aE lp jH))
theorem CK {k:Nat} (E:Ent K mg "is_below" ["thing","many"] w8) (G_q13:eL P w K mg base k):dq P w K mg base (k + 1) :=
 l6 E BZ fun _ cdv A outer s H E hr =>
  (ao (aQ (fS (ay G_q13 hr (aa (ab 0) af)) (gC (xq aj (ab 0) (ab 1))))))
abbrev Cy:Stmt:=top 9
abbrev mZ:List Str:=["thing","many"]
theorem Dc:aB mZ ["thing","many"] (ai Cy):=⟨rfl,rfl,rfl,by decide +kernel,rfl,by decide +kernel,by decide +kernel⟩
def oo:M Fl :=
 (do let d <- (kF (mN .tup (ag 0)) (mC kP (ae (do let xs <- (aZ 2 1 (do let x <- (ag 0); lift (aH x)) (bc (a9 2) (pure true) (mC (au 2 (aE lp jH)) (ae (ag 2) (ae (ag 1) (pure [])))))); pure (D.lst xs)) (pure [])))); pure (Fl.rt d))
variable (P w K mg base) in
abbrev dM (k:Nat):Prop:=Kn P w K mg base cT k "are_below" ["thing","many"] (jl 2 (aE mZ oo))
theorem D_ {k:Nat} (E:Ent K mg "are_below" ["thing","many"] Cy) (m:Bi mg) (G_q15:dq P w K mg base k):dM P w K mg base (k + 1) :=
 l6 E Dc fun _ cdv A outer s H E hr =>
  (ao (aQ (fS (kB .tup m.isinstance m.tuple (ab 0)) (gC (pB m.all (aa (az (a0 (N':=mZ) (own:=["part"]) (lo:=2) (bR (bU (ab 0))) (fun _ _ _ _ => (aq 2 (show (mZ ++ (["part"]:List Str):List Str).Nodup by decide +kernel))) (fun _ _ _ _ => bK) (fun _ _ _ _ => (ay G_q15 hr (aa (ab 2) (aa (ab 1) af)))))) af))))))
abbrev Bq:Stmt:=top 10
abbrev zr:List Str:=["things"]
theorem Dz:aB zr ["things"] (ai Bq):=⟨rfl,rfl,rfl,by decide +kernel,rfl,by decide +kernel,by decide +kernel⟩
def vD:M Fl :=
 (do let d <- (m2 (cn false) (mQ md (do let x <- (ag 0); lift (b5 x))) (mC bG (ae (ag 0) (pure [])))); pure (Fl.rt d))
variable (P w K mg base) in
abbrev eN (k:Nat):Prop:=Kn P w K mg base cT k "are_unlike" ["things"] (jl 1 (aE zr vD))
theorem Dq {k:Nat} (E:Ent K mg "are_unlike" ["things"] Bq) (m:Bi mg):eN P w K mg base (k + 1) :=
 l6 E Dz fun _ cdv A outer s H E hr =>
  (ao (aQ (w6 (rO m.len m.set (k7 (ab 0))) (b4 m.len (aa (ab 0) af)))))
abbrev B_:Stmt:=top 11
abbrev yp:List Str:=["thing","many"]
theorem D2:aB yp ["thing","many"] (ai B_):=⟨rfl,rfl,rfl,by decide +kernel,rfl,by decide +kernel,by decide +kernel⟩
def l8:M Fl :=
 (do let d <- (kF (mC (au 2 (aE mZ oo)) (ae (ag 0) (ae (ag 1) (pure [])))) (kF (m2 (cn false) (mC bG (ae (ag 0) (pure []))) (ag 1)) (mC (au 1 (aE zr vD)) (ae (ag 0) (pure []))))); pure (Fl.rt d))
variable (P w K mg base) in
abbrev df (k:Nat):Prop:=Kn P w K mg base cT k "are_all_below" ["thing","many"] (jl 2 (aE yp l8))
theorem D1 {k:Nat} (E:Ent K mg "are_all_below" ["thing","many"] B_) (m:Bi mg) (G_q7:dM P w K mg base k) (G_q4:eN P w K mg base k):df P w K mg base (k + 1) :=
 l6 E D2 fun _ cdv A outer s H E hr =>
  (ao (aQ (fS (ay G_q7 hr (aa (ab 0) (aa (ab 1) af))) (fS (w6 (b4 m.len (aa (ab 0) af)) (ab 1)) (gC (ay G_q4 hr (aa (ab 0) af)))))))
abbrev vY:Stmt:=top 12
abbrev kh:List Str:=["things"]
theorem AY:aB kh ["things"] (ai vY):=⟨rfl,rfl,rfl,by decide +kernel,rfl,by decide +kernel,by decide +kernel⟩
def nD:M Fl :=
 (do let d <- (mC kP (ae (do let xs <- (aZ 1 2 (mC mR (ae (ag 0) (ae (AV (ag 0) ((pure (.int 1)) >>= xu) (pure none)) (pure [])))) (bc (dz 2 (bw (a9 1) (bw (a9 2) c9))) (pure true) (m2 sx (ag 1) (ag 2)))); pure (D.lst xs)) (pure []))); pure (Fl.rt d))
variable (P w K mg base) in
abbrev fB (k:Nat):Prop:=Kn P w K mg base cT k "is_rising" ["things"] (jl 1 (aE kh nD))
theorem BA {k:Nat} (E:Ent K mg "is_rising" ["things"] vY) (m:Bi mg):fB P w K mg base (k + 1) :=
 l6 E AY fun _ cdv A outer s H E hr =>
  (ao (aQ (pB m.all (aa (az (a0 (N':=kh) (own:=["one","other"]) (lo:=1) (bR (AH m.zip (aa (ab 0) (aa (hU (ab 0) (jE aj) jG) af)))) (fun _ _ _ _ => (gz (bB (aq 1 (show (kh ++ (["one","other"]:List Str):List Str).Nodup by decide +kernel)) (bB (aq 2 (show (kh ++ (["one","other"]:List Str):List Str).Nodup by decide +kernel)) dN)))) (fun _ _ _ _ => bK) (fun _ _ _ _ => (C8 (ab 1) (ab 2))))) af))))
abbrev uC:Stmt:=top 13
abbrev kY:List Str:=["labels","one","other","least","most"]
theorem pD:aB kY ["labels","one","other"] (ai uC):=⟨rfl,rfl,rfl,by decide +kernel,rfl,by decide +kernel,by decide +kernel⟩
def nU:M Fl :=
 (aI (dH 3 (mC jm (ae (m2 dj (ag 0) (ag 1)) (ae (m2 dj (ag 0) (ag 2)) (pure [])))))
  (aI (dH 4 (mC oy (ae (m2 dj (ag 0) (ag 1)) (ae (m2 dj (ag 0) (ag 2)) (pure [])))))
  (do let d <- (mC bf (ae (do let xs <- (aZ 5 1 (do let x <- (ag 0); lift (aH x)) (bc (a9 5) (pure true) (gh ((m2 (dP false) (ag 5) (ag 4)) >>= cB) (ag 3) (ag 5)))); pure (D.lst xs)) (pure []))); pure (Fl.rt d))))
variable (P w K mg base) in
abbrev j6 (k:Nat):Prop:=Kn P w K mg base cT k "linked" ["labels","one","other"] (jl 3 (aE kY nU))
theorem CM {k:Nat} (E:Ent K mg "linked" ["labels","one","other"] uC) (m:Bi mg):j6 P w K mg base (k + 1) :=
 l6 E pD fun _ cdv A outer s H E hr =>
  (ah (aR 3 pD.nd (mY m.min (aa (aG (ab 0) (ab 1)) (aa (aG (ab 0) (ab 2)) af))))
  (ah (aR 4 pD.nd (uB m.max (aa (aG (ab 0) (ab 1)) (aa (aG (ab 0) (ab 2)) af))))
  (ao (aQ (bg m.tuple (aa (az (a0 (N':=kY) (own:=["label"]) (lo:=5) (bR (bU (ab 0))) (fun _ _ _ _ => (aq 5 (show (kY ++ (["label"]:List Str):List Str).Nodup by decide +kernel))) (fun _ _ _ _ => bK) (fun _ _ _ _ => (Ee (rB hr (ab 5) (ab 4)) (ab 3) (ab 5))))) af))))))
abbrev u6:Stmt:=top 17
abbrev qA:List Str:=["thing","many"]
theorem BK:aB qA ["thing","many"] (ai u6):=⟨rfl,rfl,rfl,by decide +kernel,rfl,by decide +kernel,by decide +kernel⟩
def n_:M Fl :=
 (do let d <- (kF (mC (au 2 (aE mZ oo)) (ae (ag 0) (ae (ag 1) (pure [])))) (kF (m2 l_ (mC bG (ae (ag 0) (pure []))) (pure (.int 0))) (mC (au 1 (aE kh nD)) (ae (ag 0) (pure []))))); pure (Fl.rt d))
variable (P w K mg base) in
abbrev iK (k:Nat):Prop:=Kn P w K mg base cT k "is_head" ["thing","many"] (jl 2 (aE qA n_))
theorem AF {k:Nat} (E:Ent K mg "is_head" ["thing","many"] u6) (m:Bi mg) (G_q7:dM P w K mg base k) (G_q11:fB P w K mg base k):iK P w K mg base (k + 1) :=
 l6 E BK fun _ cdv A outer s H E hr =>
  (ao (aQ (fS (ay G_q7 hr (aa (ab 0) (aa (ab 1) af))) (fS (DY (b4 m.len (aa (ab 0) af)) aj) (gC (ay G_q11 hr (aa (ab 0) af)))))))
abbrev Bt:Stmt:=top 18
abbrev r9:List Str:=["thing","many","heads"]
theorem uH:aB r9 ["thing"] (ai Bt):=⟨rfl,rfl,rfl,by decide +kernel,rfl,by decide +kernel,by decide +kernel⟩
def vn:M Fl :=
 (aI (gh (pq (e_ (do let x <- (mN .tup (ag 0)); lift (cv x))) (m2 (cn true) (mC bG (ae (ag 0) (pure []))) (pure (.int 2)) >>= cB)) (do let d <- (pure (.bl false)); pure (Fl.rt d)) (pure .nx))
  (aI (do let d <- (ag 0); (dz 2 (bw (a9 1) (bw (a9 2) c9))) d; pure Fl.nx)
  (aI (gh (pq (e_ (do let x <- (mC (au 1 (aE lH jM)) (ae (ag 1) (pure []))); lift (cv x))) (e_ ((tP oV oV (pure (.int 1)) (ag 1) (pure (.int 7))) >>= cB))) (do let d <- (pure (.bl false)); pure (Fl.rt d)) (pure .nx))
  (aI (gh (pq (e_ (do let x <- (mN .tup (ag 2)); lift (cv x))) (e_ ((tP oV oV (pure (.int 1)) (mC bG (ae (ag 2) (pure []))) (pure (.int 6))) >>= cB))) (do let d <- (pure (.bl false)); pure (Fl.rt d)) (pure .nx))
  (do let d <- (mC kP (ae (do let xs <- (aZ 3 1 (do let x <- (ag 2); lift (aH x)) (bc (a9 3) (pure true) (mC (au 2 (aE qA n_)) (ae (ag 3) (ae (ag 1) (pure [])))))); pure (D.lst xs)) (pure []))); pure (Fl.rt d))))))
variable (P w K mg base) in
abbrev fu (k:Nat):Prop:=Kn P w K mg base cT k "is_layout" ["thing"] (jl 1 (aE r9 vn))
theorem C6 {k:Nat} (E:Ent K mg "is_layout" ["thing"] Bt) (m:Bi mg) (G_q18:iK P w K mg base k) (G_q13:eL P w K mg base k):fu P w K mg base (k + 1) :=
 l6 E uH fun _ cdv A outer s H E hr =>
  (ah (b9 (iQ (fP (dg (cb (kB .tup m.isinstance m.tuple (ab 0)))) (eW (wB (b4 m.len (aa (ab 0) af)) aj)))) (ao (aQ fG)) ba)
  (ah (jV (ab 0) (gz (bB (aq 1 uH.nd) (bB (aq 2 uH.nd) dN))))
  (ah (b9 (iQ (fP (dg (cb (ay G_q13 hr (aa (ab 1) af)))) (eW (dg (qQ aj (ab 1) (gX m.g_MOST_COLUMNS)))))) (ao (aQ fG)) ba)
  (ah (b9 (iQ (fP (dg (cb (kB .tup m.isinstance m.tuple (ab 2)))) (eW (dg (qQ aj (b4 m.len (aa (ab 2) af)) (gX m.g_MOST_HEADS)))))) (ao (aQ fG)) ba)
  (ao (aQ (pB m.all (aa (az (a0 (N':=r9) (own:=["head"]) (lo:=3) (bR (bU (ab 2))) (fun _ _ _ _ => (aq 3 (show (r9 ++ (["head"]:List Str):List Str).Nodup by decide +kernel))) (fun _ _ _ _ => bK) (fun _ _ _ _ => (ay G_q18 hr (aa (ab 3) (aa (ab 1) af)))))) af))))))))
abbrev t9:Stmt:=top 19
abbrev jJ:List Str:=["layout","thing"]
theorem AK:aB jJ ["layout","thing"] (ai t9):=⟨rfl,rfl,rfl,by decide +kernel,rfl,by decide +kernel,by decide +kernel⟩
def kA:M Fl :=
 (gh (e_ (do let x <- (mC (au 2 (aE lp jH)) (ae (ag 1) (ae (mC bG (ae (m2 dj (ag 0) (pure (.int 1))) (pure []))) (pure [])))); lift (cv x))) never (pure .nx))
variable (P w K mg base) in
abbrev dQ (k:Nat):Prop:=Kn P w K mg base cT k "need_head" ["layout","thing"] (jl 2 (aE jJ kA))
theorem CC {k:Nat} (E:Ent K mg "need_head" ["layout","thing"] t9) (m:Bi mg) (G_q15:dq P w K mg base k):dQ P w K mg base (k + 1) :=
 l6 E AK fun _ cdv A outer s H E hr =>
  (ao (b9 (dg (cb (ay G_q15 hr (aa (ab 1) (aa (b4 m.len (aa (aG (ab 0) aj) af)) af))))) (ao fA) ba))
abbrev wJ:Stmt:=top 20
abbrev gk:List Str:=["layout","column","many","heads"]
theorem qi:aB gk ["layout","column"] (ai wJ):=⟨rfl,rfl,rfl,by decide +kernel,rfl,by decide +kernel,by decide +kernel⟩
def jc:M Fl :=
 (aI (do let d <- (ag 0); (dz 2 (bw (a9 2) (bw (a9 3) c9))) d; pure Fl.nx)
  (aI (gh (e_ (do let x <- (mC (au 2 (aE lp jH)) (ae (ag 1) (ae (ag 2) (pure [])))); lift (cv x))) never (pure .nx))
  (do let d <- (mC bf (ae (do let xs <- (aZ 4 2 (mC iV (ae (ag 3) (pure []))) (bc (dz 2 (bw (a9 4) (bw (a9 5) c9))) (m2 (qk false) (ag 1) (ag 5) >>= cB) (ag 4))); pure (D.lst xs)) (pure []))); pure (Fl.rt d))))
variable (P w K mg base) in
abbrev eR (k:Nat):Prop:=Kn P w K mg base cT k "heads_of" ["layout","column"] (jl 2 (aE gk jc))
theorem Cc {k:Nat} (E:Ent K mg "heads_of" ["layout","column"] wJ) (m:Bi mg) (G_q15:dq P w K mg base k):eR P w K mg base (k + 1) :=
 l6 E qi fun _ cdv A outer s H E hr =>
  (ah (jV (ab 0) (gz (bB (aq 2 qi.nd) (bB (aq 3 qi.nd) dN))))
  (ah (b9 (dg (cb (ay G_q15 hr (aa (ab 1) (aa (ab 2) af))))) (ao fA) ba)
  (ao (aQ (bg m.tuple (aa (az (a0 (N':=gk) (own:=["number","head"]) (lo:=4) (bR (qM m.enumerate (aa (ab 3) af))) (fun _ _ _ _ => (gz (bB (aq 4 (show (gk ++ (["number","head"]:List Str):List Str).Nodup by decide +kernel)) (bB (aq 5 (show (gk ++ (["number","head"]:List Str):List Str).Nodup by decide +kernel)) dN)))) (fun _ _ _ _ => cx (wH (ab 1) (ab 5))) (fun _ _ _ _ => (ab 4)))) af))))))
abbrev wj:Stmt:=top 21
abbrev dJ:List Str:=["layout","one","other","heads"]
theorem wU:aB dJ ["layout","one","other"] (ai wj):=⟨rfl,rfl,rfl,by decide +kernel,rfl,by decide +kernel,by decide +kernel⟩
def d6:M Fl :=
 (aI (do let _ <- (mC (au 2 (aE jJ kA)) (ae (ag 0) (ae (ag 1) (pure [])))); pure Fl.nx)
  (aI (do let _ <- (mC (au 2 (aE jJ kA)) (ae (ag 0) (ae (ag 2) (pure [])))); pure Fl.nx)
  (aI (dH 3 (m2 dj (ag 0) (pure (.int 1))))
  (do let d <- (mC bf (ae (do let xs <- (aZ 4 1 (do let x <- (m2 dj (ag 3) (ag 1)); lift (aH x)) (bc (a9 4) (m2 (qk false) (ag 4) (m2 dj (ag 3) (ag 2)) >>= cB) (ag 4))); pure (D.lst xs)) (pure []))); pure (Fl.rt d)))))
variable (P w K mg base) in
abbrev eE (k:Nat):Prop:=Kn P w K mg base cT k "common" ["layout","one","other"] (jl 3 (aE dJ d6))
theorem Ba {k:Nat} (E:Ent K mg "common" ["layout","one","other"] wj) (m:Bi mg) (G_q10:dQ P w K mg base k):eE P w K mg base (k + 1) :=
 l6 E wU fun _ cdv A outer s H E hr =>
  (ah (mH (ay G_q10 hr (aa (ab 0) (aa (ab 1) af))))
  (ah (mH (ay G_q10 hr (aa (ab 0) (aa (ab 2) af))))
  (ah (aR 3 wU.nd (aG (ab 0) aj))
  (ao (aQ (bg m.tuple (aa (az (a0 (N':=dJ) (own:=["column"]) (lo:=4) (bR (bU (aG (ab 3) (ab 1)))) (fun _ _ _ _ => (aq 4 (show (dJ ++ (["column"]:List Str):List Str).Nodup by decide +kernel))) (fun _ _ _ _ => cx (wH (ab 4) (aG (ab 3) (ab 2)))) (fun _ _ _ _ => (ab 4)))) af)))))))
abbrev ue:Stmt:=top 22
abbrev e9:List Str:=["layout","numbers","labels","one","other"]
theorem iC:aB e9 ["layout"] (ai ue):=⟨rfl,rfl,rfl,by decide +kernel,rfl,by decide +kernel,by decide +kernel⟩
def ia:M Fl :=
 (aI (dH 1 (do let xs <- (mC kO (ae (mC bG (ae (m2 dj (ag 0) (pure (.int 1))) (pure []))) (pure []))); pure (D.lst xs)))
  (aI (dH 2 (mC bf (ae (ag 1) (pure []))))
  (aI (
  do let it <- (do let x <- (ag 1); lift (aH x)); forM (a9 3) (
  do let it <- (do let x <- (AV (ag 1) (pure none) ((ag 3) >>= xu)); lift (aH x)); forM (a9 4) (gh (do let x <- (mC (au 3 (aE dJ d6)) (ae (ag 0) (ae (ag 3) (ae (ag 4) (pure []))))); lift (cv x)) (dH 2 (mC (au 3 (aE kY nU)) (ae (ag 2) (ae (ag 3) (ae (ag 4) (pure [])))))) (pure .nx)) it.2 it.1) it.2 it.1)
  (do let d <- (aZ 5 1 (do let x <- (ag 1); lift (aH x)) (bc (a9 5) ((m2 (dP false) (m2 dj (ag 2) (ag 5)) (ag 5)) >>= cB) (mC bf (ae (do let xs <- (aZ 6 1 (do let x <- (ag 1); lift (aH x)) (bc (a9 6) ((m2 (dP false) (m2 dj (ag 2) (ag 6)) (ag 5)) >>= cB) (ag 6))); pure (D.lst xs)) (pure []))))); pure (Fl.rf d)))))
variable (P w K mg base) in
abbrev fE (k:Nat):Prop:=Kn P w K mg base cT k "pieces" ["layout"] (CY 1 (ff e9 ia))
theorem Cn {k:Nat} (E:Ent K mg "pieces" ["layout"] ue) (m:Bi mg) (G_q20:eE P w K mg base k) (G_q21:j6 P w K mg base k):fE P w K mg base (k + 1) :=
 Gk E iC fun _ cdv A outer s H E hr =>
  (ah (aR 1 iC.nd (az (ik m.list m.range (aa (b4 m.len (aa (aG (ab 0) aj) af)) af))))
  (ah (aR 2 iC.nd (bg m.tuple (aa (ab 1) af)))
  (ah (eP (bU (ab 1)) (aq 3 iC.nd) (ao (eP (bU (hU (ab 1) jG (jE (ab 3)))) (aq 4 iC.nd) (ao (b9 (cb (ay G_q20 hr (aa (ab 0) (aa (ab 3) (aa (ab 4) af))))) (ao (aR 2 iC.nd (ay G_q21 hr (aa (ab 2) (aa (ab 3) (aa (ab 4) af)))))) ba)))))
  (ao (mF (a0 (N':=e9) (own:=["least"]) (lo:=5) (bR (bU (ab 1))) (fun _ _ _ _ => (aq 5 (show (e9 ++ (["least"]:List Str):List Str).Nodup by decide +kernel))) (fun _ _ _ _ => cx (rB hr (aG (ab 2) (ab 5)) (ab 5))) (fun _ _ _ _ => (bg m.tuple (aa (az (a0 (N':=(e9 ++ (["least"]:List Str))) (own:=["number"]) (lo:=6) (bR (bU (ab 1))) (fun _ _ _ _ => (aq 6 (show ((e9 ++ (["least"]:List Str)) ++ (["number"]:List Str):List Str).Nodup by decide +kernel))) (fun _ _ _ _ => cx (rB hr (aG (ab 2) (ab 6)) (ab 5))) (fun _ _ _ _ => (ab 6)))) af)))))))))
abbrev t6:Stmt:=top 23
abbrev g6:List Str:=["heads","places"]
theorem AQ:aB g6 ["heads","places"] (ai t6):=⟨rfl,rfl,rfl,by decide +kernel,rfl,by decide +kernel,by decide +kernel⟩
def lq:M Fl :=
 (do let d <- (mC bf (ae (do let xs <- (aZ 2 1 (do let x <- (ag 0); lift (aH x)) (bc (a9 2) (pure true) (mC bf (ae (do let xs <- (mQ sortI (do let x <- (do let xs <- (aZ 3 1 (do let x <- (ag 2); lift (aH x)) (bc (a9 3) (pure true) (m2 tE (ag 1) (ag 3)))); pure (D.lst xs)); lift (b5 x))); pure (D.lst xs)) (pure []))))); pure (D.lst xs)) (pure []))); pure (Fl.rt d))
variable (P w K mg base) in
abbrev jz (k:Nat):Prop:=Kn P w K mg base cT k "moved" ["heads","places"] (jl 2 (aE g6 lq))
theorem Cg {k:Nat} (E:Ent K mg "moved" ["heads","places"] t6) (m:Bi mg):jz P w K mg base (k + 1) :=
 l6 E AQ fun _ cdv A outer s H E hr =>
  (ao (aQ (bg m.tuple (aa (az (a0 (N':=g6) (own:=["head"]) (lo:=2) (bR (bU (ab 0))) (fun _ _ _ _ => (aq 2 (show (g6 ++ (["head"]:List Str):List Str).Nodup by decide +kernel))) (fun _ _ _ _ => bK) (fun _ _ _ _ => (bg m.tuple (aa (az (fZ m.sorted (k7 (az (a0 (N':=(g6 ++ (["head"]:List Str))) (own:=["column"]) (lo:=3) (bR (bU (ab 2))) (fun _ _ _ _ => (aq 3 (show ((g6 ++ (["head"]:List Str)) ++ (["column"]:List Str):List Str).Nodup by decide +kernel))) (fun _ _ _ _ => bK) (fun _ _ _ _ => (ud hr (ab 1) (ab 3)))))))) af))))) af))))
abbrev vZ:Stmt:=top 24
abbrev i9:List Str:=["layout","order","many","heads"]
theorem qg:aB i9 ["layout","order"] (ai vZ):=⟨rfl,rfl,rfl,by decide +kernel,rfl,by decide +kernel,by decide +kernel⟩
def kX:M Fl :=
 (aI (do let d <- (ag 0); (dz 2 (bw (a9 2) (bw (a9 3) c9))) d; pure Fl.nx)
  (aI (gh (e_ (do let x <- (mC (au 2 (aE yp l8)) (ae (ag 1) (ae (ag 2) (pure [])))); lift (cv x))) never (pure .nx))
  (do let d <- (fH (ae (ag 2) (ae (mC (au 2 (aE g6 lq)) (ae (ag 3) (ae (ka 4 2 (mC iV (ae (ag 1) (pure []))) (lU (dz 2 (bw (a9 4) (bw (a9 5) c9))) (pure true) (ag 5) (ag 4))) (pure [])))) (pure [])))); pure (Fl.rt d))))
variable (P w K mg base) in
abbrev mj (k:Nat):Prop:=Kn P w K mg base cT k "named" ["layout","order"] (jl 2 (aE i9 kX))
theorem B6 {k:Nat} (E:Ent K mg "named" ["layout","order"] vZ) (m:Bi mg) (G_q2:df P w K mg base k) (G_q23:jz P w K mg base k):mj P w K mg base (k + 1) :=
 l6 E qg fun _ cdv A outer s H E hr =>
  (ah (jV (ab 0) (gz (bB (aq 2 qg.nd) (bB (aq 3 qg.nd) dN))))
  (ah (b9 (dg (cb (ay G_q2 hr (aa (ab 1) (aa (ab 2) af))))) (ao fA) ba)
  (ao (aQ (cP (aa (ab 2) (aa (ay G_q23 hr (aa (ab 3) (aa (vG (N':=i9) (own:=["place","column"]) (lo:=4) hr (bR (qM m.enumerate (aa (ab 1) af))) (fun _ _ _ _ => (gz (bB (aq 4 (show (i9 ++ (["place","column"]:List Str):List Str).Nodup by decide +kernel)) (bB (aq 5 (show (i9 ++ (["place","column"]:List Str):List Str).Nodup by decide +kernel)) dN)))) (fun _ _ _ _ => bK) (fun _ _ _ _ => (ab 5)) (fun _ _ _ _ => (ab 4))) af))) af)))))))
abbrev vt:Stmt:=top 25
abbrev qy:List Str:=["one","other","many","heads"]
theorem pW:aB qy ["one","other"] (ai vt):=⟨rfl,rfl,rfl,by decide +kernel,rfl,by decide +kernel,by decide +kernel⟩
def nQ:M Fl :=
 (aI (dH 2 (m2 de (m2 dj (ag 0) (pure (.int 0))) (m2 dj (ag 1) (pure (.int 0)))))
  (aI (dH 3 (m2 kr (m2 dj (ag 0) (pure (.int 1))) (mC (au 2 (aE g6 lq)) (ae (m2 dj (ag 1) (pure (.int 1))) (ae (do let xs <- (mC lP (ae (m2 dj (ag 0) (pure (.int 0))) (ae (ag 2) (pure [])))); pure (D.lst xs)) (pure []))))))
  (aI (gh (pq (m2 l_ (ag 2) (pure (.int 7)) >>= cB) (m2 l_ (mC bG (ae (ag 3) (pure []))) (pure (.int 6)) >>= cB)) never (pure .nx))
  (do let d <- (fH (ae (ag 2) (ae (ag 3) (pure [])))); pure (Fl.rt d)))))
variable (P w K mg base) in
abbrev j9 (k:Nat):Prop:=Kn P w K mg base cT k "beside" ["one","other"] (jl 2 (aE qy nQ))
theorem BR {k:Nat} (E:Ent K mg "beside" ["one","other"] vt) (m:Bi mg) (G_q23:jz P w K mg base k):j9 P w K mg base (k + 1) :=
 l6 E pW fun _ cdv A outer s H E hr =>
  (ah (aR 2 pW.nd (cZ (aG (ab 0) aj) (aG (ab 1) aj)))
  (ah (aR 3 pW.nd (qW (aG (ab 0) aj) (ay G_q23 hr (aa (aG (ab 1) aj) (aa (az (rV m.list m.range (aa (aG (ab 0) aj) (aa (ab 2) af)))) af)))))
  (ah (b9 (iQ (fP (jN (ab 2) (gX m.g_MOST_COLUMNS)) (eW (jN (b4 m.len (aa (ab 3) af)) (gX m.g_MOST_HEADS))))) (ao fA) ba)
  (ao (aQ (cP (aa (ab 2) (aa (ab 3) af))))))))
abbrev u7:Stmt:=top 26
abbrev rA:List Str:=["layout","head","many","heads"]
theorem pA:aB rA ["layout","head"] (ai u7):=⟨rfl,rfl,rfl,by decide +kernel,rfl,by decide +kernel,by decide +kernel⟩
def oz:M Fl :=
 (aI (do let _ <- (mC (au 2 (aE jJ kA)) (ae (ag 0) (ae (ag 1) (pure [])))); pure Fl.nx)
  (aI (do let d <- (ag 0); (dz 2 (bw (a9 2) (bw (a9 3) c9))) d; pure Fl.nx)
  (aI (gh (m2 (cn false) (mC bG (ae (ag 3) (pure []))) (pure (.int 1)) >>= cB) never (pure .nx))
  (do let d <- (fH (ae (ag 2) (ae (m2 kr (AV (ag 3) (pure none) ((ag 1) >>= xu)) (AV (ag 3) ((m2 de (ag 1) (pure (.int 1))) >>= xu) (pure none))) (pure [])))); pure (Fl.rt d)))))
variable (P w K mg base) in
abbrev iU (k:Nat):Prop:=Kn P w K mg base cT k "without" ["layout","head"] (jl 2 (aE rA oz))
theorem B8 {k:Nat} (E:Ent K mg "without" ["layout","head"] u7) (m:Bi mg) (G_q10:dQ P w K mg base k):iU P w K mg base (k + 1) :=
 l6 E pA fun _ cdv A outer s H E hr =>
  (ah (mH (ay G_q10 hr (aa (ab 0) (aa (ab 1) af))))
  (ah (jV (ab 0) (gz (bB (aq 2 pA.nd) (bB (aq 3 pA.nd) dN))))
  (ah (b9 (fw (b4 m.len (aa (ab 3) af)) aj) (ao fA) ba)
  (ao (aQ (cP (aa (ab 2) (aa (qW (hU (ab 3) jG (jE (ab 1))) (hU (ab 3) (jE (cZ (ab 1) aj)) jG)) af))))))))
abbrev vR:Stmt:=top 28
abbrev oM:List Str:=["_law_script","_law_k"]
theorem Bl:aB oM ["_law_script","_law_k"] (ai vR):=⟨rfl,rfl,rfl,by decide +kernel,rfl,by decide +kernel,by decide +kernel⟩
def k9:M Fl :=
 (aI (gh (m2 sx (ag 1) (mC bG (ae (ag 0) (pure []))) >>= cB) (do let d <- (m2 dj (ag 0) (ag 1)); pure (Fl.rt d)) (pure .nx))
  (do let d <- (m2 de (m2 gK (pure (.int 6151)) (ag 1)) (pure (.int 29))); pure (Fl.rt d)))
variable (P w K mg base) in
abbrev fC (k:Nat):Prop:=Kn P w K mg base cT k "_law_cell" ["_law_script","_law_k"] (jl 2 (aE oM k9))
theorem AW {k:Nat} (E:Ent K mg "_law_cell" ["_law_script","_law_k"] vR) (m:Bi mg):fC P w K mg base (k + 1) :=
 l6 E Bl fun _ cdv A outer s H E hr =>
  (ah (b9 (Aw (ab 1) (b4 m.len (aa (ab 0) af))) (ao (aQ (aG (ab 0) (ab 1)))) ba)
  (ao (aQ (cZ (i0 aj (ab 1)) aj))))
abbrev uc:Stmt:=top 29
abbrev nk:List Str:=["_law_script","_law_k","_law_cell_here","_law_number","_law_mixed","_law_j"]
theorem gI:aB nk ["_law_script","_law_k"] (ai uc):=⟨rfl,rfl,rfl,by decide +kernel,rfl,by decide +kernel,by decide +kernel⟩
def kZ:M Fl :=
 (aI (dH 2 (mC (au 2 (aE oM k9)) (ae (ag 0) (ae (ag 1) (pure [])))))
  (aI (gh (m2 (cn false) (m2 mq (ag 2) (pure (.int 2))) (pure (.int 0)) >>= cB) (do let d <- (gF (ae (m2 wx (ag 2) (pure (.int 2))) (pure []))); pure (Fl.rf d)) (pure .nx))
  (aI (dH 3 (pure (.int 0)))
  (aI (dH 4 (m2 mq (ag 2) (pure (.int 2147483647))))
  (aI (
  do let it <- (mC cz (ae (pure (.int 24)) (pure []))); forM (a9 5) (aI (dH 4 (m2 mq (m2 de (m2 de (m2 de (m2 gK (ag 4) (pure (.int 48271))) (m2 gK (m2 gK (pure (.int 7)) (ag 5)) (ag 5))) (m2 gK (pure (.int 11)) (ag 1))) (pure (.int 1))) (pure (.int 2147483647))))
  (dH 3 (m2 de (m2 gK (ag 3) (pure (.int 2147483647))) (ag 4)))) it.2 it.1)
  (do let d <- (gF (ae (ag 3) (pure []))); pure (Fl.rf d)))))))
variable (P w K mg base) in
abbrev gx (k:Nat):Prop:=Kn P w K mg base cT k "_law_box" ["_law_script","_law_k"] (CY 2 (ff nk kZ))
theorem Cw {k:Nat} (E:Ent K mg "_law_box" ["_law_script","_law_k"] uc) (m:Bi mg) (G_q12:fC P w K mg base k):gx P w K mg base (k + 1) :=
 Gk E gI fun _ cdv A outer s H E hr =>
  (ah (aR 2 gI.nd (ay G_q12 hr (aa (ab 0) (aa (ab 1) af))))
  (ah (b9 (fw (kD (ab 2) aj) aj) (ao (mF (dE (aa (vv (ab 2) aj) af)))) ba)
  (ah (aR 3 gI.nd aj)
  (ah (aR 4 gI.nd (kD (ab 2) aj))
  (ah (eP (bu rfl m.range (aa aj af)) (aq 5 gI.nd) (ah (aR 4 gI.nd (kD (cZ (cZ (cZ (i0 (ab 4) aj) (i0 (i0 aj (ab 5)) (ab 5))) (i0 aj (ab 1))) aj) aj))
  (ao (aR 3 gI.nd (cZ (i0 (ab 3) aj) (ab 4))))))
  (ao (mF (dE (aa (ab 3) af)))))))))
abbrev CN:Stmt:=top 30
abbrev dY:List Str:=["_law_box_here","_law_many","_law_digit"]
theorem z0:aB dY ["_law_box_here","_law_many"] (ai CN):=⟨rfl,rfl,rfl,by decide +kernel,rfl,by decide +kernel,by decide +kernel⟩
def dF:M Fl :=
 (aI (dH 2 (m2 mq (oH 0 (pure (.int 0))) (ag 1)))
  (aI (mr 0 (m2 wx (oH 0 (pure (.int 0))) (ag 1)) 0)
  (do let d <- (ag 2); pure (Fl.rt d))))
variable (P w K mg base) in
abbrev cC (k:Nat):Prop:=Kn P w K mg base cT k "_law_take" ["_law_box_here","_law_many"] (Ar 2 (cm dY dF))
theorem Dd {k:Nat} (E:Ent K mg "_law_take" ["_law_box_here","_law_many"] CN):cC P w K mg base (k + 1) :=
 EW E z0 fun _ cdv A outer s H E hr =>
  (ah (aR 2 z0.nd (kD (jY 0 aj) (ab 1)))
  (ah (ug 0 (vv (jY 0 aj) (ab 1)))
  (ao (aQ (ab 2)))))
abbrev A6:Stmt:=top 31
abbrev eD:List Str:=["_law_box_here","_law_many","_law_way","_law_size","_law_heads","_law_turn","_law_some","_law_ahead","_law_fresh","_law_left","_law_order_here"]
theorem dA:aB eD ["_law_box_here"] (ai A6):=⟨rfl,rfl,rfl,by decide +kernel,rfl,by decide +kernel,by decide +kernel⟩
def w4:M Fl :=
 (aI (dH 1 (m2 de (pure (.int 1)) (do let _ <- bh 0; c_ 0 2 (cm dY dF) (ae (pure (.int 7)) (pure [])))))
  (aI (dH 2 (do let _ <- bh 0; c_ 0 2 (cm dY dF) (ae (pure (.int 6)) (pure []))))
  (aI (dH 3 (m2 de (pure (.int 1)) (do let _ <- bh 0; c_ 0 2 (cm dY dF) (ae (pure (.int 6)) (pure [])))))
  (aI (gh (kK (m2 (cn false) (ag 2) (pure (.int 4)) >>= cB) (m2 l_ (ag 1) (pure (.int 2)) >>= cB)) (aI (dH 3 (mC jm (ae (ag 1) (ae (pure (.int 6)) (pure [])))))
  (do let d <- (fH (ae (ag 1) (ae (mC bf (ae (do let xs <- (aZ 11 1 (mC cz (ae (ag 3) (pure []))) (bc (a9 11) (pure true) (mC bf (ae (do let xs <- (mQ sortI (do let x <- (do let xs <- (gF (ae (ag 11) (ae (m2 mq (m2 de (ag 11) (pure (.int 1))) (ag 3)) (pure [])))); pure (D.lst xs)); lift (b5 x))); pure (D.lst xs)) (pure []))))); pure (D.lst xs)) (pure []))) (pure [])))); pure (Fl.rt d))) (pure .nx))
  (aI (gh (kK (m2 (cn false) (ag 2) (pure (.int 5)) >>= cB) (m2 l_ (ag 1) (pure (.int 2)) >>= cB)) (aI (dH 3 (m2 de (pure (.int 3)) (do let _ <- bh 0; c_ 0 2 (cm dY dF) (ae (m2 kJ (mC jm (ae (ag 1) (ae (pure (.int 6)) (pure [])))) (pure (.int 2))) (pure [])))))
  (do let d <- (fH (ae (ag 1) (ae (mC bf (ae (do let xs <- (aZ 11 1 (mC cz (ae (ag 3) (pure []))) (bc (a9 11) (pure true) (mC bf (ae (do let xs <- (aZ 12 1 (mC cz (ae (ag 3) (pure []))) (bc (a9 12) ((m2 (dP true) (ag 12) (ag 11)) >>= cB) (ag 12))); pure (D.lst xs)) (pure []))))); pure (D.lst xs)) (pure []))) (pure [])))); pure (Fl.rt d))) (pure .nx))
  (aI (Ak 4 (gF (pure [])))
  (aI (
  do let it <- (mC cz (ae (ag 3) (pure []))); forM (a9 5) (aI (dH 6 (do let xs <- (aZ 11 1 (mC cz (ae (ag 1) (pure []))) (bc (a9 11) (m2 (cn false) (do let _ <- bh 0; c_ 0 2 (cm dY dF) (ae (pure (.int 3)) (pure []))) (pure (.int 0)) >>= cB) (ag 11))); pure (D.lst xs)))
  (aI (gh (kK (m2 sx (ag 2) (pure (.int 3)) >>= cB) ((rH (yd true) (rM 4) (do let x <- (do let xs <- (gF (pure [])); pure (D.lst xs)); pure (Hn.th x))) >>= cB)) (aI (dH 7 (oH 4 (do let _ <- bh 0; c_ 0 2 (cm dY dF) (ae (jf 4) (pure [])))))
  (aI (dH 8 (do let xs <- (aZ 11 1 (do let x <- (ag 6); lift (aH x)) (bc (a9 11) ((m2 (dP false) (do let xs <- (aZ 12 1 (do let xs <- bh 4; pure (b_ 4 xs.length)) (bc (a9 12) (m2 (qk false) (ag 11) (ag 12) >>= cB) (ag 12))); pure (D.lst xs)) (do let xs <- (gF (pure [])); pure (D.lst xs))) >>= cB) (ag 11))); pure (D.lst xs)))
  (dH 6 (do let xs <- (rH pK (do let x <- (ag 8); pure (Hn.th x)) (do let x <- (do let xs <- (aZ 11 1 (do let x <- (ag 7); lift (aH x)) (bc (a9 11) (m2 (cn false) (do let _ <- bh 0; c_ 0 2 (cm dY dF) (ae (pure (.int 2)) (pure []))) (pure (.int 0)) >>= cB) (ag 11))); pure (D.lst xs)); pure (Hn.th x))); pure (D.lst xs))))) (pure .nx))
  (aI (gh (kK (m2 (cn false) (ag 2) (pure (.int 3)) >>= cB) (kK ((rH (yd true) (rM 4) (do let x <- (do let xs <- (gF (pure [])); pure (D.lst xs)); pure (Hn.th x))) >>= cB) (m2 (cn false) (do let _ <- bh 0; c_ 0 2 (cm dY dF) (ae (pure (.int 4)) (pure []))) (pure (.int 0)) >>= cB))) (dH 6 (oH 4 (do let _ <- bh 0; c_ 0 2 (cm dY dF) (ae (jf 4) (pure []))))) (pure .nx))
  (jx 4 (ae (EJ (mC bf (ae (do let xs <- (mQ ib (do let x <- (ag 6); lift (b5 x))); pure (D.lst xs)) (pure []))) (fH (ae (do let _ <- bh 0; c_ 0 2 (cm dY dF) (ae (ag 1) (pure []))) (pure [])))) (pure [])))))) it.2 it.1)
  (aI (Ak 9 (mC kO (ae (ag 3) (pure []))))
  (aI (dH 10 (do let xs <- (aZ 11 1 (mC cz (ae (ag 3) (pure []))) (bc (a9 11) (pure true) (v7 9 (ae (do let _ <- bh 0; c_ 0 2 (cm dY dF) (ae (jf 9) (pure []))) (pure []))))); pure (D.lst xs)))
  (do let d <- (fH (ae (ag 1) (ae (mC bf (ae (do let xs <- (aZ 11 1 (do let x <- (ag 10); lift (aH x)) (bc (a9 11) (pure true) (oH 4 (ag 11)))); pure (D.lst xs)) (pure []))) (pure [])))); pure (Fl.rt d)))))))))))
variable (P w K mg base) in
abbrev dW (k:Nat):Prop:=Kn P w K mg base cT k "_law_layout" ["_law_box_here"] (Ar 1 (cm eD w4))
theorem Er {k:Nat} (E:Ent K mg "_law_layout" ["_law_box_here"] A6) (m:Bi mg) (G_q8:cC P w K mg base k):dW P w K mg base (k + 1) :=
 EW E dA fun _ cdv A outer s H E hr =>
  (ah (aR 1 dA.nd (cZ aj (aX 0 G_q8 hr (aa aj af))))
  (ah (aR 2 dA.nd (aX 0 G_q8 hr (aa aj af)))
  (ah (aR 3 dA.nd (cZ aj (aX 0 G_q8 hr (aa aj af))))
  (ah (b9 (iQ (jU (fw (ab 2) aj) (jy (jN (ab 1) aj)))) (ah (aR 3 dA.nd (mY m.min (aa (ab 1) (aa aj af))))
  (ao (aQ (cP (aa (ab 1) (aa (bg m.tuple (aa (az (a0 (N':=eD) (own:=["_law_k"]) (lo:=11) (bR (bu rfl m.range (aa (ab 3) af))) (fun _ _ _ _ => (aq 11 (show (eD ++ (["_law_k"]:List Str):List Str).Nodup by decide +kernel))) (fun _ _ _ _ => bK) (fun _ _ _ _ => (bg m.tuple (aa (az (fZ m.sorted (k7 (az (dE (aa (ab 11) (aa (kD (cZ (ab 11) aj) (ab 3)) af))))))) af))))) af)) af)))))) ba)
  (ah (b9 (iQ (jU (fw (ab 2) aj) (jy (jN (ab 1) aj)))) (ah (aR 3 dA.nd (cZ aj (aX 0 G_q8 hr (aa (mB (mY m.min (aa (ab 1) (aa aj af))) aj) af))))
  (ao (aQ (cP (aa (ab 1) (aa (bg m.tuple (aa (az (a0 (N':=eD) (own:=["_law_out"]) (lo:=11) (bR (bu rfl m.range (aa (ab 3) af))) (fun _ _ _ _ => (aq 11 (show (eD ++ (["_law_out"]:List Str):List Str).Nodup by decide +kernel))) (fun _ _ _ _ => bK) (fun _ _ _ _ => (bg m.tuple (aa (az (a0 (N':=(eD ++ (["_law_out"]:List Str))) (own:=["_law_k"]) (lo:=12) (bR (bu rfl m.range (aa (ab 3) af))) (fun _ _ _ _ => (aq 12 (show ((eD ++ (["_law_out"]:List Str)) ++ (["_law_k"]:List Str):List Str).Nodup by decide +kernel))) (fun _ _ _ _ => cx (gm hr (ab 12) (ab 11))) (fun _ _ _ _ => (ab 12)))) af))))) af)) af)))))) ba)
  (ah (jD 4 dA.nd (dE af))
  (ah (eP (bu rfl m.range (aa (ab 3) af)) (aq 5 dA.nd) (ah (fU 6 dA.nd (N':=eD) (own:=["_law_column"]) (lo:=11) (bR (bu rfl m.range (aa (ab 1) af))) (fun _ _ _ _ => (aq 11 (show (eD ++ (["_law_column"]:List Str):List Str).Nodup by decide +kernel))) (fun _ _ _ _ => cx (fw (aX 0 G_q8 hr (aa aj af)) aj)) (fun _ _ _ _ => (ab 11)))
  (ah (b9 (iQ (jU (Aw (ab 2) aj) (jy (vI hr (wy 4) (i7 (az (dE af))))))) (ah (aR 7 dA.nd (jY 4 (aX 0 G_q8 hr (aa (jt 4 m.len) af))))
  (ah (fU 8 dA.nd (N':=eD) (own:=["_law_column"]) (lo:=11) (bR (bU (ab 6))) (fun _ _ _ _ => (aq 11 (show (eD ++ (["_law_column"]:List Str):List Str).Nodup by decide +kernel))) (fun _ _ _ _ => cx (rB hr (az (a0 (N':=(eD ++ (["_law_column"]:List Str))) (own:=["_law_head"]) (lo:=12) (Cp 4) (fun _ _ _ _ => (aq 12 (show ((eD ++ (["_law_column"]:List Str)) ++ (["_law_head"]:List Str):List Str).Nodup by decide +kernel))) (fun _ _ _ _ => cx (wH (ab 11) (ab 12))) (fun _ _ _ _ => (ab 12)))) (az (dE af)))) (fun _ _ _ _ => (ab 11)))
  (ao (aR 6 dA.nd (az (pd (i7 (ab 8)) (i7 (az (a0 (N':=eD) (own:=["_law_column"]) (lo:=11) (bR (bU (ab 7))) (fun _ _ _ _ => (aq 11 (show (eD ++ (["_law_column"]:List Str):List Str).Nodup by decide +kernel))) (fun _ _ _ _ => cx (fw (aX 0 G_q8 hr (aa aj af)) aj)) (fun _ _ _ _ => (ab 11))))))))))) ba)
  (ah (b9 (iQ (jU (fw (ab 2) aj) (jU (vI hr (wy 4) (i7 (az (dE af)))) (jy (fw (aX 0 G_q8 hr (aa aj af)) aj))))) (ao (aR 6 dA.nd (jY 4 (aX 0 G_q8 hr (aa (jt 4 m.len) af))))) ba)
  (ao (tm 4 (aa (B5 (bg m.tuple (aa (az (mw m.sorted m.set (k7 (ab 6)))) af)) (gC (cP (aa (aX 0 G_q8 hr (aa (ab 1) af)) af)))) af)))))))
  (ah (jD 9 dA.nd (ik m.list m.range (aa (ab 3) af)))
  (ah (fU 10 dA.nd (N':=(["_law_box_here","_law_many","_law_way","_law_size","_law_heads","?5","_law_some","_law_ahead","_law_fresh","_law_left","_law_order_here"]:List Str)) (own:=["_law_turn"]) (lo:=11) (bR (bu rfl m.range (aa (ab 3) af))) (fun _ _ _ _ => (aq 11 (show ((["_law_box_here","_law_many","_law_way","_law_size","_law_heads","?5","_law_some","_law_ahead","_law_fresh","_law_left","_law_order_here"]:List Str) ++ (["_law_turn"]:List Str):List Str).Nodup by decide +kernel))) (fun _ _ _ _ => bK) (fun _ _ _ _ => (wD 9 (aa (aX 0 G_q8 hr (aa (jt 9 m.len) af)) af))))
  (ao (aQ (cP (aa (ab 1) (aa (bg m.tuple (aa (az (a0 (N':=eD) (own:=["_law_number"]) (lo:=11) (bR (bU (ab 10))) (fun _ _ _ _ => (aq 11 (show (eD ++ (["_law_number"]:List Str):List Str).Nodup by decide +kernel))) (fun _ _ _ _ => bK) (fun _ _ _ _ => (jY 4 (ab 11))))) af)) af))))))))))))))
abbrev Bp:Stmt:=top 32
abbrev sX:List Str:=["_law_box_here","_law_many","_law_left"]
theorem zV:aB sX ["_law_box_here","_law_many"] (ai Bp):=⟨rfl,rfl,rfl,by decide +kernel,rfl,by decide +kernel,by decide +kernel⟩
def vk:M Fl :=
 (aI (Ak 2 (mC kO (ae (ag 1) (pure []))))
  (do let d <- (mC bf (ae (do let xs <- (aZ 3 1 (mC cz (ae (ag 1) (pure []))) (bc (a9 3) (pure true) (v7 2 (ae (do let _ <- bh 0; c_ 0 2 (cm dY dF) (ae (jf 2) (pure []))) (pure []))))); pure (D.lst xs)) (pure []))); pure (Fl.rt d)))
variable (P w K mg base) in
abbrev eS (k:Nat):Prop:=Kn P w K mg base cT k "_law_order" ["_law_box_here","_law_many"] (Ar 2 (cm sX vk))
theorem Dn {k:Nat} (E:Ent K mg "_law_order" ["_law_box_here","_law_many"] Bp) (m:Bi mg) (G_q8:cC P w K mg base k):eS P w K mg base (k + 1) :=
 EW E zV fun _ cdv A outer s H E hr =>
  (ah (jD 2 zV.nd (ik m.list m.range (aa (ab 1) af)))
  (ao (aQ (bg m.tuple (aa (az (a0 (N':=sX) (own:=["_law_place"]) (lo:=3) (bR (bu rfl m.range (aa (ab 1) af))) (fun _ _ _ _ => (aq 3 (show (sX ++ (["_law_place"]:List Str):List Str).Nodup by decide +kernel))) (fun _ _ _ _ => bK) (fun _ _ _ _ => (wD 2 (aa (aX 0 G_q8 hr (aa (jt 2 m.len) af)) af))))) af)))))
abbrev Bj:Stmt:=top 33
abbrev r6:List Str:=["_law_layout_here","_law_column","_law_number","_law_met","_law_piece","_law_others","_law_one"]
theorem jd:aB r6 ["_law_layout_here"] (ai Bj):=⟨rfl,rfl,rfl,by decide +kernel,rfl,by decide +kernel,by decide +kernel⟩
def vc:M Fl :=
 (aI (
  do let it <- (mC cz (ae (m2 dj (ag 0) (pure (.int 0))) (pure []))); forM (a9 1) (
  do let it <- (mC cz (ae (mC bG (ae (m2 dj (ag 0) (pure (.int 1))) (pure []))) (pure []))); forM (a9 2) (gh ((m2 (dP true) (m2 (qk false) (ag 2) (mC (au 2 (aE gk jc)) (ae (ag 0) (ae (ag 1) (pure []))))) (m2 (qk false) (ag 1) (m2 dj (m2 dj (ag 0) (pure (.int 1))) (ag 2)))) >>= cB) (do let d <- (pure (.bl false)); pure (Fl.rt d)) (pure .nx)) it.2 it.1) it.2 it.1)
  (aI (dH 3 (do let xs <- (gF (pure [])); pure (D.lst xs)))
  (aI (
  do let it <- (do let x <- (do let xs <- (mC (au 1 (ff e9 ia)) (ae (ag 0) (pure []))); pure (D.lst xs)); lift (aH x)); forM (a9 4) (aI (dH 3 (do let xs <- (rH pK (do let x <- (ag 3); pure (Hn.th x)) (do let x <- (do let xs <- (mC dList (ae (ag 4) (pure []))); pure (D.lst xs)); pure (Hn.th x))); pure (D.lst xs)))
  (aI (dH 5 (do let xs <- (aZ 7 1 (mC cz (ae (mC bG (ae (m2 dj (ag 0) (pure (.int 1))) (pure []))) (pure []))) (bc (a9 7) (m2 (qk true) (ag 7) (ag 4) >>= cB) (ag 7))); pure (D.lst xs)))
  (
  do let it <- (do let x <- (ag 4); lift (aH x)); forM (a9 6) (gh ((m2 (dP true) (do let xs <- (aZ 7 1 (do let x <- (ag 5); lift (aH x)) (bc (a9 7) ((m2 (dP true) (mC (au 3 (aE dJ d6)) (ae (ag 0) (ae (ag 6) (ae (ag 7) (pure []))))) (fH (pure []))) >>= cB) (ag 7))); pure (D.lst xs)) (do let xs <- (gF (pure [])); pure (D.lst xs))) >>= cB) (do let d <- (pure (.bl false)); pure (Fl.rt d)) (pure .nx)) it.2 it.1))) it.2 it.1)
  (do let d <- (m2 (dP false) (do let xs <- (mQ sortI (do let x <- (ag 3); lift (b5 x))); pure (D.lst xs)) (do let xs <- (mC kO (ae (mC bG (ae (m2 dj (ag 0) (pure (.int 1))) (pure []))) (pure []))); pure (D.lst xs))); pure (Fl.rt d)))))
variable (P w K mg base) in
abbrev eY (k:Nat):Prop:=Kn P w K mg base cT k "_law_right" ["_law_layout_here"] (jl 1 (aE r6 vc))
theorem Dw {k:Nat} (E:Ent K mg "_law_right" ["_law_layout_here"] Bj) (m:Bi mg) (G_q20:eE P w K mg base k) (G_q16:eR P w K mg base k) (G_q19:fE P w K mg base k):eY P w K mg base (k + 1) :=
 l6 E jd fun _ cdv A outer s H E hr =>
  (ah (eP (bu rfl m.range (aa (aG (ab 0) aj) af)) (aq 1 jd.nd) (ao (eP (bu rfl m.range (aa (b4 m.len (aa (aG (ab 0) aj) af)) af)) (aq 2 jd.nd) (ao (b9 (gm hr (zU (ab 2) (ay G_q16 hr (aa (ab 0) (aa (ab 1) af)))) (zU (ab 1) (aG (aG (ab 0) aj) (ab 2)))) (ao (aQ fG)) ba)))))
  (ah (aR 3 jd.nd (az (dE af)))
  (ah (eP (bU (az (d5 G_q19 hr (aa (ab 0) af)))) (aq 4 jd.nd) (ah (aR 3 jd.nd (az (pd (i7 (ab 3)) (i7 (az (za m.list (aa (ab 4) af)))))))
  (ah (fU 5 jd.nd (N':=(["_law_layout_here","_law_column","?2","_law_met","_law_piece","_law_others","_law_one"]:List Str)) (own:=["_law_number"]) (lo:=7) (bR (bu rfl m.range (aa (b4 m.len (aa (aG (ab 0) aj) af)) af))) (fun _ _ _ _ => (aq 7 (show ((["_law_layout_here","_law_column","?2","_law_met","_law_piece","_law_others","_law_one"]:List Str) ++ (["_law_number"]:List Str):List Str).Nodup by decide +kernel))) (fun _ _ _ _ => cx (ui (ab 7) (ab 4))) (fun _ _ _ _ => (ab 7)))
  (ao (eP (bU (ab 4)) (aq 6 jd.nd) (ao (b9 (gm hr (az (a0 (N':=r6) (own:=["_law_other"]) (lo:=7) (bR (bU (ab 5))) (fun _ _ _ _ => (aq 7 (show (r6 ++ (["_law_other"]:List Str):List Str).Nodup by decide +kernel))) (fun _ _ _ _ => cx (gm hr (ay G_q20 hr (aa (ab 0) (aa (ab 6) (aa (ab 7) af)))) (cP af))) (fun _ _ _ _ => (ab 7)))) (az (dE af))) (ao (aQ fG)) ba)))))))
  (ao (aQ (q_ hr (az (fZ m.sorted (k7 (ab 3)))) (az (ik m.list m.range (aa (b4 m.len (aa (aG (ab 0) aj) af)) af)))))))))
abbrev B9:Stmt:=top 34
abbrev oh:List Str:=["_law_box_here","_law_layout_here","_law_order_here","_law_later","_law_back","_law_one","_law_other","_law_due"]
theorem lh:aB oh ["_law_box_here","_law_layout_here"] (ai B9):=⟨rfl,rfl,rfl,by decide +kernel,rfl,by decide +kernel,by decide +kernel⟩
def ub:M Fl :=
 (aI (dH 2 (do let _ <- bh 0; c_ 0 2 (cm sX vk) (ae (m2 dj (ag 1) (pure (.int 0))) (pure []))))
  (aI (dH 3 (mC (au 2 (aE i9 kX)) (ae (ag 1) (ae (ag 2) (pure [])))))
  (aI (dH 4 (mC bf (ae (do let xs <- (aZ 8 1 (mC cz (ae (m2 dj (ag 1) (pure (.int 0))) (pure []))) (bc (a9 8) (pure true) (vh (ag 2) (ae (ag 8) (pure []))))); pure (D.lst xs)) (pure []))))
  (aI (gh (pq ((m2 (dP true) (mC (au 2 (aE i9 kX)) (ae (ag 3) (ae (ag 4) (pure [])))) (ag 1)) >>= cB) (pq ((m2 (dP true) (do let xs <- (mC (au 1 (ff e9 ia)) (ae (ag 3) (pure []))); pure (D.lst xs)) (do let xs <- (mC (au 1 (ff e9 ia)) (ae (ag 1) (pure []))); pure (D.lst xs))) >>= cB) (e_ (do let x <- (mC (au 1 (aE r9 vn)) (ae (ag 3) (pure []))); lift (cv x))))) (do let d <- (pure (.bl false)); pure (Fl.rt d)) (pure .nx))
  (aI (A9 5 6 (ae (do let _ <- bh 0; c_ 0 2 (cm dY dF) (ae (mC bG (ae (m2 dj (ag 1) (pure (.int 1))) (pure []))) (pure []))) (ae (do let _ <- bh 0; c_ 0 2 (cm dY dF) (ae (mC bG (ae (m2 dj (ag 1) (pure (.int 1))) (pure []))) (pure []))) (pure []))))
  (aI (dH 7 (mC bf (ae (do let xs <- (mQ sortI (do let x <- (do let xs <- (aZ 8 1 (do let x <- (mC (au 3 (aE dJ d6)) (ae (ag 1) (ae (ag 5) (ae (ag 6) (pure []))))); lift (aH x)) (bc (a9 8) (pure true) (vh (ag 2) (ae (ag 8) (pure []))))); pure (D.lst xs)); lift (b5 x))); pure (D.lst xs)) (pure []))))
  (do let d <- (kF (m2 (dP false) (mC (au 3 (aE dJ d6)) (ae (ag 3) (ae (ag 5) (ae (ag 6) (pure []))))) (ag 7)) (m2 (dP false) (mC (au 3 (aE dJ d6)) (ae (ag 3) (ae (ag 6) (ae (ag 5) (pure []))))) (ag 7))); pure (Fl.rt d))))))))
variable (P w K mg base) in
abbrev cy (k:Nat):Prop:=Kn P w K mg base cT k "_law_named_right" ["_law_box_here","_law_layout_here"] (Ar 2 (cm oh ub))
theorem DU {k:Nat} (E:Ent K mg "_law_named_right" ["_law_box_here","_law_layout_here"] B9) (m:Bi mg) (G_q5:eS P w K mg base k) (G_q8:cC P w K mg base k) (G_q20:eE P w K mg base k) (G_q9:fu P w K mg base k) (G_q24:mj P w K mg base k) (G_q19:fE P w K mg base k):cy P w K mg base (k + 1) :=
 EW E lh fun _ cdv A outer s H E hr =>
  (ah (aR 2 lh.nd (aX 0 G_q5 hr (aa (aG (ab 1) aj) af)))
  (ah (aR 3 lh.nd (ay G_q24 hr (aa (ab 1) (aa (ab 2) af))))
  (ah (aR 4 lh.nd (bg m.tuple (aa (az (a0 (N':=oh) (own:=["_law_column"]) (lo:=8) (bR (bu rfl m.range (aa (aG (ab 1) aj) af))) (fun _ _ _ _ => (aq 8 (show (oh ++ (["_law_column"]:List Str):List Str).Nodup by decide +kernel))) (fun _ _ _ _ => bK) (fun _ _ _ _ => (nc (ab 2) (aa (ab 8) af))))) af)))
  (ah (b9 (iQ (fP (gm hr (ay G_q24 hr (aa (ab 3) (aa (ab 4) af))) (ab 1)) (fP (gm hr (az (d5 G_q19 hr (aa (ab 3) af))) (az (d5 G_q19 hr (aa (ab 1) af)))) (eW (dg (cb (ay G_q9 hr (aa (ab 3) af)))))))) (ao (aQ fG)) ba)
  (ah (CG 5 6 lh.nd (aa (aX 0 G_q8 hr (aa (b4 m.len (aa (aG (ab 1) aj) af)) af)) (aa (aX 0 G_q8 hr (aa (b4 m.len (aa (aG (ab 1) aj) af)) af)) af)))
  (ah (aR 7 lh.nd (bg m.tuple (aa (az (fZ m.sorted (k7 (az (a0 (N':=oh) (own:=["_law_column"]) (lo:=8) (bR (bU (ay G_q20 hr (aa (ab 1) (aa (ab 5) (aa (ab 6) af)))))) (fun _ _ _ _ => (aq 8 (show (oh ++ (["_law_column"]:List Str):List Str).Nodup by decide +kernel))) (fun _ _ _ _ => bK) (fun _ _ _ _ => (nc (ab 2) (aa (ab 8) af)))))))) af)))
  (ao (aQ (fS (q_ hr (ay G_q20 hr (aa (ab 3) (aa (ab 5) (aa (ab 6) af)))) (ab 7)) (gC (q_ hr (ay G_q20 hr (aa (ab 3) (aa (ab 6) (aa (ab 5) af)))) (ab 7))))))))))))
abbrev CB:Stmt:=top 35
abbrev kU:List Str:=["_law_layout_here","_law_small","_law_whole","_law_behind"]
theorem qO:aB kU ["_law_layout_here"] (ai CB):=⟨rfl,rfl,rfl,by decide +kernel,rfl,by decide +kernel,by decide +kernel⟩
def wG:M Fl :=
 (aI (dH 1 (fH (ae (pure (.int 2)) (ae (fH (ae (fH (ae (pure (.int 0)) (ae (pure (.int 1)) (pure [])))) (ae (fH (ae (pure (.int 1)) (pure []))) (pure [])))) (pure [])))))
  (aI (gh (pq (m2 l_ (m2 dj (ag 0) (pure (.int 0))) (pure (.int 5)) >>= cB) (m2 l_ (mC bG (ae (m2 dj (ag 0) (pure (.int 1))) (pure []))) (pure (.int 4)) >>= cB)) (do let d <- (pure (.bl true)); pure (Fl.rt d)) (pure .nx))
  (aI (dH 2 (mC (au 2 (aE qy nQ)) (ae (ag 1) (ae (ag 0) (pure [])))))
  (aI (dH 3 (do let xs <- (aZ 4 1 (do let x <- (do let xs <- (mC (au 1 (ff e9 ia)) (ae (ag 0) (pure []))); pure (D.lst xs)); lift (aH x)) (bc (a9 4) (pure true) (mC bf (ae (do let xs <- (aZ 5 1 (do let x <- (ag 4); lift (aH x)) (bc (a9 5) (pure true) (m2 de (ag 5) (pure (.int 2))))); pure (D.lst xs)) (pure []))))); pure (D.lst xs)))
  (aI (gh (pq ((m2 (dP true) (do let xs <- (mC (au 1 (ff e9 ia)) (ae (ag 2) (pure []))); pure (D.lst xs)) (do let xs <- (rH pK (do let x <- (do let xs <- (gF (ae (fH (ae (pure (.int 0)) (ae (pure (.int 1)) (pure [])))) (pure []))); pure (D.lst xs)); pure (Hn.th x)) (do let x <- (ag 3); pure (Hn.th x))); pure (D.lst xs))) >>= cB) ((m2 (dP true) (mC (au 2 (aE gk jc)) (ae (ag 2) (ae (pure (.int 1)) (pure [])))) (fH (ae (pure (.int 0)) (ae (pure (.int 1)) (pure []))))) >>= cB)) (do let d <- (pure (.bl false)); pure (Fl.rt d)) (pure .nx))
  (do let d <- (m2 (dP false) (mC (au 2 (aE gk jc)) (ae (ag 2) (ae (pure (.int 2)) (pure [])))) (mC bf (ae (do let xs <- (aZ 4 1 (do let x <- (mC (au 2 (aE gk jc)) (ae (ag 0) (ae (pure (.int 0)) (pure [])))); lift (aH x)) (bc (a9 4) (pure true) (m2 de (ag 4) (pure (.int 2))))); pure (D.lst xs)) (pure [])))); pure (Fl.rt d)))))))
variable (P w K mg base) in
abbrev cp (k:Nat):Prop:=Kn P w K mg base cT k "_law_beside_right" ["_law_layout_here"] (jl 1 (aE kU wG))
theorem C5 {k:Nat} (E:Ent K mg "_law_beside_right" ["_law_layout_here"] CB) (m:Bi mg) (G_q22:j9 P w K mg base k) (G_q16:eR P w K mg base k) (G_q19:fE P w K mg base k):cp P w K mg base (k + 1) :=
 l6 E qO fun _ cdv A outer s H E hr =>
  (ah (aR 1 qO.nd (cP (aa aj (aa (cP (aa (cP (aa aj (aa aj af))) (aa (cP (aa aj af)) af))) af))))
  (ah (b9 (iQ (fP (jN (aG (ab 0) aj) aj) (eW (jN (b4 m.len (aa (aG (ab 0) aj) af)) aj)))) (ao (aQ fG)) ba)
  (ah (aR 2 qO.nd (ay G_q22 hr (aa (ab 1) (aa (ab 0) af))))
  (ah (fU 3 qO.nd (N':=kU) (own:=["_law_piece"]) (lo:=4) (bR (bU (az (d5 G_q19 hr (aa (ab 0) af))))) (fun _ _ _ _ => (aq 4 (show (kU ++ (["_law_piece"]:List Str):List Str).Nodup by decide +kernel))) (fun _ _ _ _ => bK) (fun _ _ _ _ => (bg m.tuple (aa (az (a0 (N':=(kU ++ (["_law_piece"]:List Str))) (own:=["_law_number"]) (lo:=5) (bR (bU (ab 4))) (fun _ _ _ _ => (aq 5 (show ((kU ++ (["_law_piece"]:List Str)) ++ (["_law_number"]:List Str):List Str).Nodup by decide +kernel))) (fun _ _ _ _ => bK) (fun _ _ _ _ => (cZ (ab 5) aj)))) af))))
  (ah (b9 (iQ (fP (gm hr (az (d5 G_q19 hr (aa (ab 2) af))) (az (pd (i7 (az (dE (aa (cP (aa aj (aa aj af))) af)))) (i7 (ab 3))))) (eW (gm hr (ay G_q16 hr (aa (ab 2) (aa aj af))) (cP (aa aj (aa aj af))))))) (ao (aQ fG)) ba)
  (ao (aQ (q_ hr (ay G_q16 hr (aa (ab 2) (aa aj af))) (bg m.tuple (aa (az (a0 (N':=kU) (own:=["_law_number"]) (lo:=4) (bR (bU (ay G_q16 hr (aa (ab 0) (aa aj af))))) (fun _ _ _ _ => (aq 4 (show (kU ++ (["_law_number"]:List Str):List Str).Nodup by decide +kernel))) (fun _ _ _ _ => bK) (fun _ _ _ _ => (cZ (ab 4) aj)))) af))))))))))
abbrev nh:Stmt:=top 36
abbrev vM:List Str:=["_law_script","_law_k","_law_box_here","_law_layout_here","_law_size","_law_gone","_law_less","_law_one","_law_other"]
theorem eG:aB vM ["_law_script"] (ai nh):=⟨rfl,rfl,rfl,by decide +kernel,rfl,by decide +kernel,by decide +kernel⟩
def rh:M Fl :=
 (aI (
  do let it <- (mC cz (ae (mC oy (ae (pure (.int 1)) (ae (mC jm (ae (mC bG (ae (ag 0) (pure []))) (ae (pure (.int 4)) (pure [])))) (pure [])))) (pure []))); forM (a9 1) (aI (Ak 2 (mC (au 2 (ff nk kZ)) (ae (ag 0) (ae (ag 1) (pure [])))))
  (aI (dH 3 (do let _ <- bh 2; c_ 2 1 (cm eD w4) (pure [])))
  (aI (gh (pq (e_ (do let x <- (mC (au 1 (aE r6 vc)) (ae (ag 3) (pure []))); lift (cv x))) (pq (e_ (do let x <- (do let _ <- bh 2; c_ 2 2 (cm oh ub) (ae (ag 3) (pure []))); lift (cv x))) (e_ (do let x <- (mC (au 1 (aE kU wG)) (ae (ag 3) (pure []))); lift (cv x))))) (do let d <- (pure (.bl false)); pure (Fl.rt d)) (pure .nx))
  (aI (dH 4 (mC bG (ae (m2 dj (ag 3) (pure (.int 1))) (pure []))))
  (gh (m2 l_ (ag 4) (pure (.int 2)) >>= cB) (aI (dH 5 (do let _ <- bh 2; c_ 2 2 (cm dY dF) (ae (ag 4) (pure []))))
  (aI (dH 6 (mC (au 2 (aE rA oz)) (ae (ag 3) (ae (ag 5) (pure [])))))
  (aI (do let d <- (do let xs <- (aZ 9 1 (do let x <- (do let xs <- (gF (ae (pure (.int 0)) (ae (m2 kJ (ag 4) (pure (.int 2))) (pure [])))); pure (D.lst xs)); lift (aH x)) (bc (a9 9) (pure true) (m2 dj (do let xs <- (aZ 10 1 (mC cz (ae (ag 4) (pure []))) (bc (a9 10) ((m2 (dP true) (ag 10) (ag 5)) >>= cB) (ag 10))); pure (D.lst xs)) (ag 9)))); pure (D.lst xs)); (uW 2 (bw (a9 7) (bw (a9 8) c9))) d; pure Fl.nx)
  (gh (pq ((m2 (dP true) (mC (au 3 (aE dJ d6)) (ae (ag 6) (ae (pure (.int 0)) (ae (m2 kJ (ag 4) (pure (.int 2))) (pure []))))) (mC (au 3 (aE dJ d6)) (ae (ag 3) (ae (ag 7) (ae (ag 8) (pure [])))))) >>= cB) (m2 (cn true) (mC bG (ae (m2 dj (ag 6) (pure (.int 1))) (pure []))) (m2 kJ (ag 4) (pure (.int 1))) >>= cB)) (do let d <- (pure (.bl false)); pure (Fl.rt d)) (pure .nx))))) (pure .nx)))))) it.2 it.1)
  (do let d <- (pure (.bl true)); pure (Fl.rt d)))
theorem Eg {k:Nat} (m:Bi mg) (G_q0:cp P w K mg base k) (G_q14:gx P w K mg base k) (G_q3:dW P w K mg base k) (G_q1:cy P w K mg base k) (G_q6:eY P w K mg base k) (G_q8:cC P w K mg base k) (G_q20:eE P w K mg base k) (G_q17:iU P w K mg base k) (f:Addr) (cdv:Value) (A:Around) (outer:List Env) (s:Shared) (H:Hp) (E:XK) (hr:b6 k (A.deeper (PyProof.Rows.envOfC "law" (ai nh) s.heap.objs.size f cdv))):oY (ic cT P w K mg base vM "law" (ai nh) f cdv A outer s H E).nox (bP nh) rh :=
  (ah (eP (bu rfl m.range (aa (uB m.max (aa aj (aa (mY m.min (aa (b4 m.len (aa (ab 0) af)) (aa aj af))) af))) af)) (aq 1 eG.nd) (ah (jD 2 eG.nd (d5 G_q14 hr (aa (ab 0) (aa (ab 1) af))))
  (ah (aR 3 eG.nd (aX 2 G_q3 hr af))
  (ah (b9 (iQ (fP (dg (cb (ay G_q6 hr (aa (ab 3) af)))) (fP (dg (cb (aX 2 G_q1 hr (aa (ab 3) af)))) (eW (dg (cb (ay G_q0 hr (aa (ab 3) af)))))))) (ao (aQ fG)) ba)
  (ah (aR 4 eG.nd (b4 m.len (aa (aG (ab 3) aj) af)))
  (ao (b9 (jN (ab 4) aj) (ah (aR 5 eG.nd (aX 2 G_q8 hr (aa (ab 4) af)))
  (ah (aR 6 eG.nd (ay G_q17 hr (aa (ab 3) (aa (ab 5) af))))
  (ah (jV (az (a0 (N':=(["_law_script","?1","_law_box_here","_law_layout_here","_law_size","_law_gone","_law_less","_law_one","_law_other"]:List Str)) (own:=["_law_k"]) (lo:=9) (bR (bU (az (dE (aa aj (aa (mB (ab 4) aj) af)))))) (fun _ _ _ _ => (aq 9 (show ((["_law_script","?1","_law_box_here","_law_layout_here","_law_size","_law_gone","_law_less","_law_one","_law_other"]:List Str) ++ (["_law_k"]:List Str):List Str).Nodup by decide +kernel))) (fun _ _ _ _ => bK) (fun _ _ _ _ => (aG (az (a0 (N':=((["_law_script","?1","_law_box_here","_law_layout_here","_law_size","_law_gone","_law_less","_law_one","_law_other"]:List Str) ++ (["_law_k"]:List Str))) (own:=["_law_number"]) (lo:=10) (bR (bu rfl m.range (aa (ab 4) af))) (fun _ _ _ _ => (aq 10 (show (((["_law_script","?1","_law_box_here","_law_layout_here","_law_size","_law_gone","_law_less","_law_one","_law_other"]:List Str) ++ (["_law_k"]:List Str)) ++ (["_law_number"]:List Str):List Str).Nodup by decide +kernel))) (fun _ _ _ _ => cx (gm hr (ab 10) (ab 5))) (fun _ _ _ _ => (ab 10)))) (ab 9))))) (BQ (bB (aq 7 eG.nd) (bB (aq 8 eG.nd) dN))))
  (ao (b9 (iQ (fP (gm hr (ay G_q20 hr (aa (ab 6) (aa aj (aa (mB (ab 4) aj) af)))) (ay G_q20 hr (aa (ab 3) (aa (ab 7) (aa (ab 8) af))))) (eW (wB (b4 m.len (aa (aG (ab 6) aj) af)) (mB (ab 4) aj))))) (ao (aQ fG)) ba))))) ba)))))))
  (ao (aQ fG)))
end
end K04
namespace K04
def lk (L:List Nat) (i j:Nat):List Nat:=L.map fun l => if l = max (L.getD i 0) (L.getD j 0) then min (L.getD i 0) (L.getD j 0) else l
def gN (mt:Nat -> Nat -> Bool) (i:Nat):Nat -> List Nat -> List Nat
 | 0,L => L
 | j + 1,L => if mt i j = true then lk (gN mt i j L) i j else gN mt i j L
def jO (mt:Nat -> Nat -> Bool):Nat -> List Nat -> List Nat
 | 0,L => L
 | i + 1,L => gN mt i i (jO mt i L)
def cw (mt:Nat -> Nat -> Bool) (n:Nat):List Nat:=jO mt n (List.range n)
def pc (L:List Nat) (n l:Nat):List Nat:=(List.range n).filter fun k => decide (L.getD k 0 = l)
def i8 (mt:Nat -> Nat -> Bool) (n:Nat):List (List Nat):=((List.range n).filter fun l => decide ((cw mt n).getD l 0 = l)).map (pc (cw mt n) n)
def Lb (n:Nat) (L:List Nat):Prop:=L.length = n ∧ ∀ k,k < n -> L.getD k 0 ≤ k ∧ L.getD (L.getD k 0) 0 = L.getD k 0
theorem uk (L:List Nat) (i j:Nat):(lk L i j).length = L.length:=List.length_map _
theorem gD {L:List Nat} (i j:Nat) {k:Nat} (h:k < L.length):(lk L i j).getD k 0 = if L.getD k 0 = max (L.getD i 0) (L.getD j 0) then min (L.getD i 0) (L.getD j 0) else L.getD k 0:= by
 unfold lk
 simp [List.getD_eq_getElem?_getD,h]
theorem Dy {n:Nat} {L:List Nat} (h:Lb n L) {i j:Nat} (hi:i < n) (hj:j < n):Lb n (lk L i j):= by
 obtain ⟨e,h⟩:=h
 refine ⟨by rw [uk,e],fun k hk => ?_⟩
 obtain ⟨a1,a2⟩:=h i hi
 obtain ⟨b1,b2⟩:=h j hj
 obtain ⟨c1,c2⟩:=h k hk
 have g:=gD i j (L:=L) (k:=k) (by omega)
 by_cases q:L.getD k 0 = max (L.getD i 0) (L.getD j 0)
 ·rw [if_pos q] at g
  rw [g]
  have h1:=gD i j (L:=L) (k:=min (L.getD i 0) (L.getD j 0)) (by omega)
  have h2:L.getD (min (L.getD i 0) (L.getD j 0)) 0 = min (L.getD i 0) (L.getD j 0):= by
   rcases Nat.le_total (L.getD i 0) (L.getD j 0) with z | z
   ·rw [Nat.min_eq_left z]; exact a2
   ·rw [Nat.min_eq_right z]; exact b2
  rw [h2] at h1
  refine ⟨by omega,?_⟩
  rw [h1]
  split <;> rfl
 ·rw [if_neg q] at g
  rw [g]
  have h1:=gD i j (L:=L) (k:=L.getD k 0) (by omega)
  rw [c2,if_neg q] at h1
  exact ⟨c1,h1⟩
theorem qV {L:List Nat} (i j:Nat) {x y:Nat} (hx:x < L.length) (hy:y < L.length) (e:L.getD x 0 = L.getD y 0):(lk L i j).getD x 0 = (lk L i j).getD y 0:= by
 rw [gD i j hx,gD i j hy,e]
theorem D9 {L:List Nat} {i j:Nat} (hi:i < L.length) (hj:j < L.length):(lk L i j).getD i 0 = (lk L i j).getD j 0:= by
 rw [gD i j hi,gD i j hj]
 split <;> split <;> omega
theorem pH {mt:Nat -> Nat -> Bool} {n i:Nat} (hi:i < n):∀ (j:Nat) (L:List Nat),j ≤ i -> Lb n L -> Lb n (gN mt i j L) ∧ (∀ x y,x < n -> y < n -> L.getD x 0 = L.getD y 0 -> (gN mt i j L).getD x 0 = (gN mt i j L).getD y 0) ∧ ∀ j',j' < j -> mt i j' = true -> (gN mt i j L).getD i 0 = (gN mt i j L).getD j' 0
 | 0,L,_,h => ⟨h,fun x y _ _ e => e,fun j' z => absurd z (Nat.not_lt_zero _)⟩
 | j + 1,L,hj,h => by
  obtain ⟨h1,h2,h3⟩:=pH hi j L (by omega) h
  unfold gN
  by_cases q:mt i j = true
  ·rw [if_pos q]
   refine ⟨Dy h1 hi (by omega),fun x y hx hy e => qV _ _ (by rw [h1.1]; exact hx) (by rw [h1.1]; exact hy) (h2 x y hx hy e),fun j' hj' m => ?_⟩
   by_cases z:j' = j
   ·rw [z]; exact D9 (by rw [h1.1]; exact hi) (by rw [h1.1]; omega)
   ·exact qV _ _ (by rw [h1.1]; exact hi) (by rw [h1.1]; omega) (h3 j' (by omega) m)
  ·rw [if_neg q]
   refine ⟨h1,h2,fun j' hj' m => ?_⟩
   have z:j' ≠ j:=fun z => q (z ▸ m)
   exact h3 j' (by omega) m
theorem lY {mt:Nat -> Nat -> Bool} {n:Nat} {L:List Nat} (h:Lb n L):∀ i,i ≤ n -> Lb n (jO mt i L) ∧ ∀ i' j',i' < i -> j' < i' -> mt i' j' = true -> (jO mt i L).getD i' 0 = (jO mt i L).getD j' 0
 | 0,_ => ⟨h,fun i' j' z => absurd z (Nat.not_lt_zero _)⟩
 | i + 1,hi => by
  obtain ⟨h1,h2⟩:=lY h i (by omega)
  obtain ⟨g1,g2,g3⟩:=pH (mt:=mt) (i:=i) (n:=n) (by omega) i (jO mt i L) (Nat.le_refl _) h1
  unfold jO
  refine ⟨g1,fun i' j' hi' hj' m => ?_⟩
  by_cases z:i' = i
  ·subst z; exact g3 j' hj' m
  ·exact g2 i' j' (by omega) (by omega) (h2 i' j' (by omega) hj' m)
theorem kq (n:Nat):Lb n (List.range n):=⟨List.length_range,fun k hk => by
 have:(List.range n).getD k 0 = k:=by simp [List.getD_eq_getElem?_getD,hk]
 rw [this,this]
 exact ⟨Nat.le_refl _,rfl⟩⟩
theorem lZ (mt:Nat -> Nat -> Bool) (n:Nat):Lb n (cw mt n):=(lY (kq n) n (Nat.le_refl _)).1
theorem so {mt:Nat -> Nat -> Bool} (hc:∀ i j,mt i j = mt j i) {n i j:Nat} (hi:i < n) (hj:j < n) (m:mt i j = true):(cw mt n).getD i 0 = (cw mt n).getD j 0:= by
 have h:=(lY (mt:=mt) (kq n) n (Nat.le_refl _)).2
 rcases Nat.lt_trichotomy i j with z | z | z
 ·exact (h j i hj z (by rw [hc]; exact m)).symm
 ·rw [z]
 ·exact h i j hi z m
theorem gJ {L:List Nat} {n l k:Nat}:k ∈ pc L n l ↔ k < n ∧ L.getD k 0 = l:=by simp [pc,List.mem_filter]
theorem ju {mt:Nat -> Nat -> Bool} {n:Nat} {p:List Nat} (h:p ∈ i8 mt n):∃ l,l < n ∧ p = pc (cw mt n) n l:= by
 obtain ⟨l,hl,rfl⟩:=List.mem_map.mp h
 exact ⟨l,List.mem_range.mp (List.mem_filter.mp hl).1,rfl⟩
theorem x_ {mt:Nat -> Nat -> Bool} (hc:∀ i j,mt i j = mt j i) {n:Nat} {p:List Nat} (h:p ∈ i8 mt n) {i j:Nat} (hi:i ∈ p) (hj:j < n) (hn:j ∉ p):mt i j = false:= by
 obtain ⟨l,hl,rfl⟩:=ju h
 obtain ⟨a,b⟩:=gJ.mp hi
 cases q:mt i j with
 | false => rfl
 | true => exact absurd (gJ.mpr ⟨hj,by rw [<- so hc a hj q]; exact b⟩) hn
theorem kj (L:List Nat) (n:Nat):∀ ls:List Nat,ls.Nodup -> (ls.map (pc L n)).flatten.Nodup
 | [],_ => List.nodup_nil
 | l :: ls,h => by
  obtain ⟨h1,h2⟩:=List.nodup_cons.mp h
  rw [List.map_cons,List.flatten_cons,List.nodup_append]
  refine ⟨List.Pairwise.filter _ List.nodup_range,kj L n ls h2,fun a ha b hb e => ?_⟩
  subst e
  obtain ⟨p,hp,hb⟩:=List.mem_flatten.mp hb
  obtain ⟨l',hl',rfl⟩:=List.mem_map.mp hp
  have:l = l':=(gJ.mp ha).2.symm.trans (gJ.mp hb).2
  exact h1 (this ▸ hl')
theorem jZ (mt:Nat -> Nat -> Bool) (n:Nat):(i8 mt n).flatten.Perm (List.range n):= by
 refine (List.perm_ext_iff_of_nodup (kj _ _ _ (List.Pairwise.filter _ List.nodup_range)) List.nodup_range).mpr fun k => ?_
 constructor
 ·intro h
  obtain ⟨p,hp,hk⟩:=List.mem_flatten.mp h
  obtain ⟨l,hl,rfl⟩:=ju hp
  exact List.mem_range.mpr (gJ.mp hk).1
 ·intro h
  have hk:=List.mem_range.mp h
  obtain ⟨e,q⟩:=lZ mt n
  obtain ⟨q1,q2⟩:=q k hk
  refine List.mem_flatten.mpr ⟨_,List.mem_map.mpr ⟨(cw mt n).getD k 0,List.mem_filter.mpr ⟨List.mem_range.mpr (by omega),decide_eq_true q2⟩,rfl⟩,gJ.mpr ⟨hk,rfl⟩⟩
theorem lG {mt mt':Nat -> Nat -> Bool} {n i:Nat} (h:∀ i j,i < n -> j < n -> mt i j = mt' i j) (hi:i < n) (L:List Nat):∀ j,j ≤ i -> gN mt i j L = gN mt' i j L
 | 0,_ => rfl
 | j + 1,hj => by
  unfold gN
  rw [h i j hi (by omega),lG h hi L j (by omega)]
theorem k0 {mt mt':Nat -> Nat -> Bool} {n:Nat} (h:∀ i j,i < n -> j < n -> mt i j = mt' i j) (L:List Nat):∀ i,i ≤ n -> jO mt i L = jO mt' i L
 | 0,_ => rfl
 | i + 1,hi => by
  unfold jO
  rw [k0 h L i (by omega),lG h (by omega) _ i (Nat.le_refl _)]
theorem sV {mt mt':Nat -> Nat -> Bool} {n:Nat} (h:∀ i j,i < n -> j < n -> mt i j = mt' i j):i8 mt n = i8 mt' n:= by
 unfold i8 cw
 rw [k0 h _ n (Nat.le_refl _)]
def sh (L:List Nat):List Nat:=0 :: 0 :: L.map (· + 2)
theorem o_ {L:List Nat} {i:Nat} (h:i < L.length):(sh L).getD (i + 2) 0 = L.getD i 0 + 2:= by
 unfold sh
 simp [List.getD_eq_getElem?_getD,h]
theorem Dr {L:List Nat} {i j:Nat} (hi:i < L.length) (hj:j < L.length):lk (sh L) (i + 2) (j + 2) = sh (lk L i j):= by
 unfold lk
 rw [o_ hi,o_ hj]
 have h0:¬ (0 = max (L.getD i 0 + 2) (L.getD j 0 + 2)):=by omega
 unfold sh
 rw [List.map_cons,List.map_cons,if_neg h0,List.map_map,List.map_map]
 congr 2
 refine List.map_congr_left fun l _ => ?_
 show (if l + 2 = _ then _ else l + 2) = (if l = _ then _ else l) + 2
 by_cases q:l = max (L.getD i 0) (L.getD j 0)
 ·rw [if_pos q,if_pos (by omega)]; omega
 ·rw [if_neg q,if_neg (by omega)]
theorem ig {mt:Nat -> Nat -> Bool} {i:Nat} (L:List Nat):∀ j,(gN mt i j L).length = L.length
 | 0 => rfl
 | j + 1 => by
  unfold gN
  split
  ·rw [uk,ig L j]
  ·exact ig L j
theorem rG {mt:Nat -> Nat -> Bool} (L:List Nat):∀ i,(jO mt i L).length = L.length
 | 0 => rfl
 | i + 1 => by unfold jO; rw [ig,rG L i]
structure EU (mt mt2:Nat -> Nat -> Bool) (n:Nat):Prop where
 a:mt2 1 0 = true
 b:∀ i,i < n -> mt2 (i + 2) 0 = false
 c:∀ i,i < n -> mt2 (i + 2) 1 = false
 d:∀ i j,i < n -> j < n -> mt2 (i + 2) (j + 2) = mt i j
theorem uI {mt mt2:Nat -> Nat -> Bool} {n:Nat} (B:EU mt mt2 n) {i:Nat} (hi:i < n) {L:List Nat} (hL:L.length = n):∀ j,j ≤ i -> gN mt2 (i + 2) (j + 2) (sh L) = sh (gN mt i j L)
 | 0,_ => by
  show gN mt2 (i + 2) 2 (sh L) = sh L
  simp [gN,B.b i hi,B.c i hi]
 | j + 1,hj => by
  have ih:=uI B hi hL j (by omega)
  show (if mt2 (i + 2) (j + 2) = true then lk (gN mt2 (i + 2) (j + 2) (sh L)) (i + 2) (j + 2) else gN mt2 (i + 2) (j + 2) (sh L)) = sh (if mt i j = true then lk (gN mt i j L) i j else gN mt i j L)
  rw [ih,B.d i j hi (by omega)]
  split
  ·exact Dr (by rw [ig,hL]; exact hi) (by rw [ig,hL]; omega)
  ·rfl
theorem iL (n:Nat):List.range (n + 2) = 0 :: 1 :: (List.range n).map (· + 2):= by
 rw [List.range_succ_eq_map,List.range_succ_eq_map,List.map_cons,List.map_map]
 rfl
theorem vm {mt mt2:Nat -> Nat -> Bool} {n:Nat} (B:EU mt mt2 n):∀ i,i ≤ n -> jO mt2 (i + 2) (List.range (n + 2)) = sh (jO mt i (List.range n))
 | 0,_ => by
  show (if mt2 1 0 = true then lk (List.range (n + 2)) 1 0 else List.range (n + 2)) = sh (List.range n)
  rw [if_pos B.a]
  unfold lk
  rw [iL]
  simp [sh]
 | i + 1,hi => by
  show gN mt2 (i + 2) (i + 2) (jO mt2 (i + 2) (List.range (n + 2))) = sh (gN mt i i (jO mt i (List.range n)))
  rw [vm B i (by omega)]
  exact uI B (by omega) (by rw [rG,List.length_range]) i (Nat.le_refl _)
theorem qf {mt mt2:Nat -> Nat -> Bool} {n:Nat} (B:EU mt mt2 n):i8 mt2 (n + 2) = [0,1] :: (i8 mt n).map (·.map (· + 2)):= by
 have e:cw mt2 (n + 2) = sh (cw mt n):=vm B n (Nat.le_refl _)
 have hl:(cw mt n).length = n:=(lZ mt n).1
 have f:∀ (p q:Nat -> Bool),(∀ k,k < n -> p (k + 2) = q k) -> ((List.range n).map (· + 2)).filter p = ((List.range n).filter q).map (· + 2):=fun p q h => by
  rw [List.filter_map]
  congr 1
  refine List.filter_congr fun k hk => h k (List.mem_range.mp hk)
 have g:∀ k,k < n -> (sh (cw mt n)).getD (k + 2) 0 = (cw mt n).getD k 0 + 2:=fun k hk => o_ (by omega)
 unfold i8
 rw [e,iL,List.filter_cons,List.filter_cons,if_pos (by rfl),if_neg (by simp [sh]),f _ (fun l => decide ((cw mt n).getD l 0 = l)) fun k hk => by rw [g k hk]; exact decide_eq_decide.mpr (by omega),List.map_cons,List.map_map,List.map_map]
 congr 1
 ·unfold pc
  rw [iL,List.filter_cons,List.filter_cons,if_pos (by rfl),if_pos (by rfl),f _ (fun _ => false) fun k hk => by rw [g k hk]; exact decide_eq_false (by omega)]
  simp
 ·refine List.map_congr_left fun l hl' => ?_
  show pc (sh (cw mt n)) (n + 2) (l + 2) = (pc (cw mt n) n l).map (· + 2)
  unfold pc
  rw [iL,List.filter_cons,List.filter_cons,if_neg (by simp [sh]),if_neg (by simp [sh]),f _ (fun k => decide ((cw mt n).getD k 0 = l)) fun k hk => by rw [g k hk]; exact decide_eq_decide.mpr (by omega)]
end K04
namespace K04
open PySem L2 Jt
def hD (h:List Int):D:=.tup (h.map .int)
def aJ (m:Int) (hs:List (List Int)):D:=.tup [.int m,.tup (hs.map hD)]
def lD (ls:List Nat):List D:=ls.map fun (i:Nat) => .int (i:Int)
def G (hs:List (List Int)) (i:Nat):List Int:=hs.getD i []
theorem tu (h:List Int):ke (h.map .int) = some (h.map V.int):= by
 induction h with
 | nil => rfl
 | cons a r ih => simp [ke,flat,ih]
theorem yF (c:Int) (h:List Int):CZ (.int c) (h.map V.int) = decide (c ∈ h):= by
 induction h with
 | nil => rfl
 | cons a r ih =>
  show (a == c || CZ (.int c) (r.map V.int)) = _
  rw [ih]
  by_cases e:c = a
  ·subst e; simp
  ·simp [e,Ne.symm e]
theorem nJ (neg:Bool) (c:Int) (h:List Int):qk neg (.int c) (hD h) = some (.bl (if neg then !decide (c ∈ h) else decide (c ∈ h))):= by
 simp [qk,hD,b5,flat,tu,yF]
theorem g_ (h:List Int):aH (hD h) = some (aW (h.map .int)):=rfl
theorem eU {α:Type} (f:α -> Bool) (as:List α):boolsOf (as.map fun a => .bl (f a)) = some (as.map f):= by
 induction as with
 | nil => rfl
 | cons a r ih => simp [boolsOf,ih]
theorem eK {α:Type} (xs:List α) (i:Nat) (h:i < xs.length):jC xs (i:Int) = some xs[i]:= by
 have h1:(i:Int) < xs.length:=by omega
 simp [jC,tG,h1,h]
theorem mE {hs:List (List Int)} {i:Nat} (h:i < hs.length):dj (.tup (hs.map hD)) (.int (i:Int)) = some (hD (G hs i)):= by
 show jC _ _ = _
 rw [eK _ _ (by simpa using h)]
 simp [G,h]
theorem cJ (m:Int) (hs:List (List Int)):dj (aJ m hs) (.int 1) = some (.tup (hs.map hD)):=rfl
theorem g9 (m:Int) (hs:List (List Int)):dj (aJ m hs) (.int 0) = some (.int m):=rfl
theorem xG (neg:Bool) (a b:Int):dP neg (.int a) (.int b) = some (.bl (if neg then !decide (a = b) else decide (a = b))):= by
 simp [dP,g8,cn,flat,kc]
theorem di (neg:Bool) (a b:Nat):dP neg (.int (a:Int)) (.int (b:Int)) = some (.bl (if neg then !decide (a = b) else decide (a = b))):= by
 rw [xG]
 simp only [Int.natCast_inj,show ((a:Int) = (b:Int)) = (a = b) from propext Int.ofNat_inj]
theorem me (neg:Bool) (xs:List D):dP neg (.lst xs) (.lst []) = some (.bl (if neg then !xs.isEmpty else xs.isEmpty)):= by
 cases xs <;> simp [dP,g8,cf,cf.go]
theorem gG (n:Nat):bC 0 n = lD (List.range n):= by
 simp [bC,lD]
theorem dG (n i:Nat) (h:i < (bC 0 n).length):(bC 0 n)[i] = .int (i:Int):=by simp [bC]
variable {hs:List (List Int)} {ls:List Nat} {x:D}
theorem mX {i j:Int} (h:-(2 ^ 64) < j) (h2:j < 2 ^ 64):gK (.int i) (.int j) = some (.int (i * j)):= by
 show (if ((decide (-(2 ^ 64) < i) && decide (i < 2 ^ 64)) || (decide (-(2 ^ 64) < j) && decide (j < 2 ^ 64))) = true then _ else _) = _
 rw [if_pos (by rw [decide_eq_true h,decide_eq_true h2]; simp)]
theorem ph (ns:List Int) (k:Nat):∃ c:Int,aE oM k9 [.lst (ns.map .int),.int k] = some (.int c):= by
 have:∃ d,aE oM k9 [.lst (ns.map .int),.int k] = some d ∧ ∃ c,d = .int c:= by
  apply zv
  show Ok k9 [.pu (.lst (ns.map .int)),.pu (.int k)] _
  unfold k9
  simp [bG,sx,bO]
  by_cases h:k < ns.length
  ·have e:dj (.lst (ns.map .int)) (.int (k:Int)) = some (.int ns[k]):= by
    show jC _ _ = _
    rw [eK _ _ (by simpa using h)]
    simp
   simp [h,e]
  ·simp [h,gK,de,bO]; omega
 obtain ⟨d,e,c,rfl⟩:=this
 exact ⟨c,e⟩
theorem bW (n j:Int) (h:0 < j) (h2:j < 1073741824):cm dY dF [.int n] [.int j] = some (.int (n % j),[.int (n / j)]):= by
 have:∃ d xs',cm dY dF [.int n] [.int j] = some (d,xs') ∧ (d = .int (n % j) ∧ xs' = [.int (n / j)]):= by
  apply jv
  show Ok dF [.ow true [.int n],.pu (.int j),.un] _
  unfold dF
  simp [mq,wx,bO,dj,jC,tG,h,h2]
 obtain ⟨d,xs',e,rfl,rfl⟩:=this
 exact e
theorem sU (ns:List Int) (k:Nat):∃ n:Int,ff nk kZ [.lst (ns.map .int),.int k] = some [.int n]:= by
 obtain ⟨c,ec⟩:=ph ns k
 have:∃ d,ff nk kZ [.lst (ns.map .int),.int k] = some d ∧ ∃ c,d = [.int c]:= by
  apply yI
  show Ok kZ [.pu (.lst (ns.map .int)),.pu (.int k),.un,.un,.un,.un] _
  unfold kZ
  simp [au,ec,mq,wx,bO,cn,flat,kc]
  by_cases h:c % 2 = 0
  ·simp [h]
  ·simp [h,cz,bH]
   refine wC (bC 0 24) (fun _ δ => ∃ a b x,δ = [.pu (.lst (ns.map .int)),.pu (.int k),.pu (.int c),.pu (.int a),.pu (.int b),x]) ?_ (fun i hk δ hI => ?_) (fun δ hI => ?_)
   ·exact ⟨_,_,_,rfl⟩
   ·obtain ⟨a,b,x,rfl⟩:=hI
    have hk':i < 24:=by simpa [bC] using hk
    have e2:gK (.int (7 * (i:Int))) (.int (i:Int)) = some (.int (7 * (i:Int) * (i:Int))):=mX (by omega) (by omega)
    have e3:∀ z:Int,gK (.int z) (.int 48271) = some (.int (z * 48271)):=fun z => mX (by omega) (by omega)
    have e4:∀ z:Int,gK (.int z) (.int 2147483647) = some (.int (z * 2147483647)):=fun z => mX (by omega) (by omega)
    have e5:gK (.int 7) (.int (i:Int)) = some (.int (7 * (i:Int))):=mX (by omega) (by omega)
    have e6:gK (.int 11) (.int (k:Int)) = some (.int (11 * (k:Int))):=by simp [gK,bO]
    rw [dG]
    simp [e2,e3,e4,e5,e6,de,bO]
   ·obtain ⟨a,b,x,rfl⟩:=hI
    simp
 obtain ⟨d,e,c,rfl⟩:=this
 exact ⟨c,e⟩
variable {hs:List (List Int)} {ls:List Nat}
variable {hs:List (List Int)} {ls:List Nat}
theorem lz (a:Nat):∀ ls:List Nat,(ls.map fun (i:Nat) => (i:Int)).idxOf (a:Int) = ls.idxOf a
 | [] => rfl
 | b :: r => by
  rw [List.map_cons,List.idxOf_cons,List.idxOf_cons,lz a r]
  by_cases e:b = a
  ·subst e; simp
  ·have:((b:Int) == (a:Int)) = false:=by simpa using fun h => e (by omega)
   rw [this,show (b == a) = false by simpa using e]
variable {hs:List (List Int)} {ls:List Nat}
variable {hs:List (List Int)} {ls:List Nat} {x:D}
def c7 (m:Int) (h:List Int):Prop:=h ≠ [] ∧ h.Pairwise (· < ·) ∧ ∀ c ∈ h,0 ≤ c ∧ c < m
theorem qP:∀ (l:List Int) (lo hi:Int),l.Pairwise (· < ·) -> (∀ y ∈ l,lo ≤ y ∧ y < hi) -> lo ≤ hi -> (l.length:Int) ≤ hi - lo
 | [],lo,hi,_,_,h => by simp; omega
 | z :: t,lo,hi,hp,hb,h => by
  rw [List.pairwise_cons] at hp
  have hz:=hb z List.mem_cons_self
  have:=qP t (z + 1) hi hp.2 (fun y hy => ⟨by have:=hp.1 y hy; omega,(hb y (List.mem_cons_of_mem _ hy)).2⟩) (by omega)
  rw [List.length_cons]; omega
theorem c7.len {m:Int} {h:List Int} (H:c7 m h) (h1:1 ≤ m) (hm:m ≤ 7):h.length ≤ 7:= by
 have:=qP h 0 m H.2.1 H.2.2 (by omega)
 omega
theorem cN (a:Int):∀ l:List Int,a ∈ fM l ↔ a ∈ l
 | [] => by simp [fM]
 | x :: r => by
  unfold fM
  split
  ·rename_i h
   rw [cN a r,List.mem_cons]
   constructor
   ·exact .inr
   ·rintro (rfl | h')
    ·exact (cN a r).mp h
    ·exact h'
  ·rw [List.mem_cons,List.mem_cons,cN a r]
theorem cV:∀ l:List Int,(fM l).Nodup
 | [] => by simp [fM]
 | x :: r => by
  unfold fM
  split
  ·exact cV r
  ·rename_i h
   exact List.nodup_cons.mpr ⟨h,cV r⟩
theorem jX {l:List Int} (h:l.Nodup):(bA l).Pairwise (· < ·):= by
 refine ((kf l).and ((cW l).nodup_iff.mpr h)).imp fun {a b} h => ?_
 have:=h.1
 have:=h.2
 omega
theorem d7 {a:Int} {l:List Int}:a ∈ bA l ↔ a ∈ l:=(cW l).mem_iff
theorem fY (h:List Int):dt (h.map .int) = some h:= by
 induction h with
 | nil => rfl
 | cons a r ih => simp [dt,ih]
theorem qU (h:List Int):(fM h).length ≤ h.length:= by
 induction h with
 | nil => simp [fM]
 | cons a r ih => unfold fM; split <;> simp <;> omega
theorem eA (h:List Int):(bA h).length = h.length:=(cW h).length_eq
theorem yX (neg:Bool) (xs:List D):yd neg (.lst xs) (.lst []) = some (.bl (if neg then !xs.isEmpty else xs.isEmpty)):=me neg xs
theorem om (hs:List (List Int)) (n:Int) (hp:0 < hs.length):∃ h ∈ hs,dj (.lst (hs.map hD)) (.int (n % (hs.length:Int))) = some (hD h):= by
 have h1:=Int.emod_nonneg n (show (hs.length:Int) ≠ 0 by omega)
 have h2:=Int.emod_lt_of_pos n (show (0:Int) < hs.length by omega)
 obtain ⟨j,hj⟩:∃ j:Nat,n % (hs.length:Int) = (j:Int):=⟨(n % (hs.length:Int)).toNat,by omega⟩
 have hlt:j < hs.length:=by omega
 refine ⟨hs[j],List.getElem_mem hlt,?_⟩
 rw [hj]
 show jC _ _ = _
 rw [eK _ _ (by simpa using hlt)]
 simp
theorem iB {α β:Type} (f:α -> β):∀ (l:List α) (j:Nat),(l.map f).eraseIdx j = (l.eraseIdx j).map f
 | [],_ => rfl
 | _ :: _,0 => rfl
 | a :: r,j + 1 => by
  show f a :: (r.map f).eraseIdx j = f a :: (r.eraseIdx j).map f
  rw [iB f r j]
theorem bp (xs:List D):bf [.lst xs] = some (.tup xs):=rfl
variable {hs:List (List Int)} {ls:List Nat}
variable {hs:List (List Int)} {ls:List Nat}
variable {hs:List (List Int)} {ls:List Nat}
variable {hs:List (List Int)} {ls:List Nat}
end K04
namespace K04
open PySem L2 Jt
def LQ (d:D) (xs:List D):Prop:=∃ (m:Int) (hs:List (List Int)) (n:Int),d = aJ m hs ∧ xs = [.int n] ∧ 1 ≤ hs.length ∧ hs.length ≤ 6 ∧ (1 ≤ m ∧ m ≤ 7) ∧ ∀ h ∈ hs,c7 m h
def Gw:Fl -> DS -> Prop:=fun fl δ => ∃ d xs',fl = .rt d ∧ δ[0]? = some (.ow true xs') ∧ LQ d xs'
def P2 (M Z k:Nat) (way:Int) (hs:List (List Int)) (δ:DS):Prop:=∃ (n:Int) (x:D) (cs:List Int) (x7 x8:Jt.Slot),δ = [.ow true [.int n],.pu (.int M),.pu (.int way),.pu (.int Z),.ow false (hs.map hD),.pu (.int k),.pu x,x7,x8,.un,.un] ∧ b5 x = some (cs.map .int) ∧ cs.length ≤ 14 ∧ ∀ c ∈ cs,0 ≤ c ∧ c < (M:Int)
def P4 (M Z k:Nat) (way:Int) (δ:DS):Prop:=∃ (n:Int) (hs:List (List Int)) (x5 x6 x7 x8:Jt.Slot),δ = [.ow true [.int n],.pu (.int M),.pu (.int way),.pu (.int Z),.ow false (hs.map hD),x5,x6,x7,x8,.un,.un] ∧ hs.length = k ∧ ∀ h ∈ hs,c7 M h
theorem ma {ta tb:Jt.M Bool} {δ:DS} {P:Bool -> DS -> Prop} {b1:Bool} (h1:Ok ta δ fun b δ1 => b = b1 ∧ δ1 = δ) (hf:b1 = false -> P false δ) (ht:b1 = true -> Ok tb δ P):Ok (kK ta tb) δ P:= by
 rw [zE]
 refine h1.mono fun b δ1 h => ?_
 obtain ⟨rfl,rfl⟩:=h
 cases b
 ·exact hf rfl
 ·exact ht rfl
theorem rq {ta tb:Jt.M Bool} {δ:DS} {b1 b2:Bool} (h1:Ok ta δ fun b δ1 => b = b1 ∧ δ1 = δ) (h2:Ok tb δ fun b δ1 => b = b2 ∧ δ1 = δ):Ok (kK ta tb) δ fun b δ1 => b = (b1 && b2) ∧ δ1 = δ :=
 ma h1 (fun e => by subst e; exact ⟨rfl,rfl⟩) (fun e => by subst e; exact h2)
theorem jL (a b:Int):cn false (.int a) (.int b) = some (.bl (decide (a = b))):=c6 false a b
theorem A5 (a b:Int):sx (.int a) (.int b) = some (.bl (decide (a < b))):=by simp [sx,bO]
theorem vX (a b:Int):l_ (.int a) (.int b) = some (.bl (decide (a > b))):=by simp [l_,bO]
theorem qC (a b:Int):de (.int a) (.int b) = some (.int (a + b)):=by simp [de,bO]
theorem tp {δ:DS} {d:D}:Ok (pure d:Jt.M D) δ fun d' δ1 => d' = d ∧ δ1 = δ:=ax.mpr ⟨rfl,rfl⟩
theorem zK {δ:DS} {i k:Nat} {b:Bool} {xs:List D} (h:δ[i]? = some (.ow b xs)) (hl:xs.length = k):Ok (jf i) δ fun d δ1 => d = .int (k:Int) ∧ δ1 = δ:=uX.mpr ⟨b,xs,h,by rw [hl],rfl⟩
theorem iJ {δ:DS} {op:D -> D -> Option D} {i:Nat} {c d:D} {b:Bool} (h:δ[i]? = some (.pu d)) (e:op d c = some (.bl b)):Ok (m2 op (ag i) (pure c) >>= cB) δ fun b' δ1 => b' = b ∧ δ1 = δ :=
 ar.mpr (eB.mpr (cg.mpr ⟨d,h,ax.mpr (cj e (v9.mpr ⟨b,rfl,rfl,rfl⟩))⟩))
theorem gf {δ:DS} {i:Nat} {n j:Int} {b:Bool} {fj:Jt.M D} {Q:D -> DS -> Prop} (h0:δ[i]? = some (.ow b [.int n])) (hf:Ok fj δ fun d δ1 => d = .int j ∧ δ1 = δ) (hj:0 < j) (hj2:j < 1073741824) (q:Q (.int (n % j)) (δ.set i (.ow b [.int (n / j)]))):Ok (do let _ <- bh i; c_ i 2 (cm dY dF) (ae fj (pure []))) δ Q:= by
 refine ar.mpr (d8.mpr ⟨b,_,h0,yz.mpr (aV.mpr (hf.mono fun d δ1 h => ?_))⟩)
 obtain ⟨rfl,rfl⟩:=h
 exact ax.mpr ⟨b,_,h0,rfl,_,bW n j hj hj2,q⟩
theorem vU {δ:DS} {i:Nat} {n j:Int} {b:Bool} {fj:Jt.M D} {Q:Bool -> DS -> Prop} (h0:δ[i]? = some (.ow b [.int n])) (hf:Ok fj δ fun d δ1 => d = .int j ∧ δ1 = δ) (hj:0 < j) (hj2:j < 1073741824) (q:Q (decide (n % j = 0)) (δ.set i (.ow b [.int (n / j)]))):Ok (m2 (cn false) (do let _ <- bh i; c_ i 2 (cm dY dF) (ae fj (pure []))) (pure (.int 0)) >>= cB) δ Q :=
 ar.mpr (eB.mpr (gf h0 hf hj hj2 (ax.mpr (cj (jL _ _) (v9.mpr ⟨_,rfl,q⟩)))))
theorem zQ {δ:DS} {i:Nat} {b:Bool} {hs:List (List Int)} (h:δ[i]? = some (.ow b (hs.map hD))):Ok ((rH (yd true) (rM i) (do let x <- (do let xs <- (gF (pure [])); pure (D.lst xs)); pure (Hn.th x))) >>= cB) δ fun b' δ1 => b' = decide (hs ≠ []) ∧ δ1 = δ:= by
 have e:yd true (.lst (hs.map hD)) (.lst []) = some (.bl (decide (hs ≠ []))):= by
  rw [yX]
  cases hs <;> rfl
 generalize decide (hs ≠ []) = c at *
 generalize hs.map hD = ys at *
 cases b <;> simp [h,e]
theorem mx (n0:Int):∃ d xs',cm eD w4 [.int n0] [] = some (d,xs') ∧ LQ d xs':= by
 apply jv
 show Ok w4 [.ow true [.int n0],.un,.un,.un,.un,.un,.un,.un,.un,.un,.un] Gw
 unfold w4
 refine aK (fun δ => ∃ n many:Int,δ = [.ow true [.int n],.pu (.int many),.un,.un,.un,.un,.un,.un,.un,.un,.un] ∧ 1 ≤ many ∧ many ≤ 7) ?_ ?_
 ·exact cK.mpr (eB.mpr (ax.mpr (gf rfl tp (by decide) (by decide) (cj (qC _ _) ⟨Nat.lt_of_sub_pos (Nat.zero_lt_succ 9),rfl,_,_,rfl,by omega,by omega⟩))))
 rintro _ ⟨n,many,rfl,hm1,hm2⟩
 refine aK (fun δ => ∃ n way:Int,δ = [.ow true [.int n],.pu (.int many),.pu (.int way),.un,.un,.un,.un,.un,.un,.un,.un]) ?_ ?_
 ·exact cK.mpr (gf rfl tp (by decide) (by decide) ⟨Nat.lt_of_sub_pos (Nat.zero_lt_succ 8),rfl,_,_,rfl⟩)
 rintro _ ⟨n,way,rfl⟩
 refine aK (fun δ => ∃ n size:Int,δ = [.ow true [.int n],.pu (.int many),.pu (.int way),.pu (.int size),.un,.un,.un,.un,.un,.un,.un] ∧ 1 ≤ size ∧ size ≤ 6) ?_ ?_
 ·exact cK.mpr (eB.mpr (ax.mpr (gf rfl tp (by decide) (by decide) (cj (qC _ _) ⟨Nat.lt_of_sub_pos (Nat.zero_lt_succ 7),rfl,_,_,rfl,by omega,by omega⟩))))
 rintro _ ⟨n,size,rfl,hs1,hs2⟩
 refine bT (decide (way = 4) && decide (many > 2)) (rq (iJ rfl (jL _ _)) (iJ rfl (vX _ _))) (fun hb => ?_) (fun hb => ?_)
 ·obtain ⟨h4,hm⟩:=Bool.and_eq_true_iff.mp hb
  obtain rfl:=of_decide_eq_true h4
  have hm:=of_decide_eq_true hm
  obtain ⟨N,hN,hN1,hN2⟩:∃ N:Nat,(if 6 < many then 6 else many) = (N:Int) ∧ 3 ≤ N ∧ N ≤ 6:= by
   refine ⟨(if 6 < many then 6 else many).toNat,?_,?_,?_⟩ <;> split <;> omega
  simp [jm,hN]
  refine aO (List.range N) (fun (k:Nat) => .int (k:Int)) (fun k => some (hD (bA [(k:Int),((k:Int) + 1) % (N:Int)]))) rfl ?_ (by simp; omega) (fun k _ => ?_) ?_
  ·have:bH N = true:=by simp [bH]; omega
   simp [cz,this,bC]
  ·have:0 < N:=by omega
   simp [de,mq,bO,b5,sortI,dt,this,bf,hD]
  ·simp [bf,b5,List.filterMap_eq_map]
   refine ⟨_,_,rfl,rfl,many,(List.range N).map fun (k:Nat) => bA [(k:Int),((k:Int) + 1) % (N:Int)],n,by simp [aJ],rfl,by simp; omega,by simp; omega,⟨hm1,hm2⟩,?_⟩
   intro h hh
   obtain ⟨k,hk,rfl⟩:=List.mem_map.mp hh
   have hk':=List.mem_range.mp hk
   have hN':(N:Int) ≤ many:=by rw [<- hN]; split <;> omega
   have g1:=Int.emod_nonneg ((k:Int) + 1) (show (N:Int) ≠ 0 by omega)
   have g2:=Int.emod_lt_of_pos ((k:Int) + 1) (show (0:Int) < N by omega)
   have ne:(k:Int) ≠ ((k:Int) + 1) % (N:Int):= by
    by_cases e:k + 1 = N
    ·have:((k:Int) + 1) % (N:Int) = 0:=by rw [show (k:Int) + 1 = (N:Int) by omega]; exact Int.emod_self
     omega
    ·rw [Int.emod_eq_of_lt (by omega) (by omega)]; omega
   refine ⟨fun z => ?_,jX (by simp [ne]),fun c hc => ?_⟩
   ·have:=eA [(k:Int),((k:Int) + 1) % (N:Int)]
    rw [z] at this
    simp at this
   ·rw [d7] at hc
    simp only [List.mem_cons,List.not_mem_nil,or_false] at hc
    rcases hc with rfl | rfl <;> omega
 refine bT (decide (way = 5) && decide (many > 2)) (rq (iJ rfl (jL _ _)) (iJ rfl (vX _ _))) (fun hb => ?_) (fun hb => ?_)
 ·obtain ⟨h4,hm⟩:=Bool.and_eq_true_iff.mp hb
  obtain rfl:=of_decide_eq_true h4
  have hm:=of_decide_eq_true hm
  obtain ⟨N,hN,hN1,hN2⟩:∃ N:Nat,(if 6 < many then 6 else many) = (N:Int) ∧ 3 ≤ N ∧ N ≤ 6:= by
   refine ⟨(if 6 < many then 6 else many).toNat,?_,?_,?_⟩ <;> split <;> omega
  have hp:(0:Int) < N - 2:=by omega
  have hq:(N:Int) - 2 < 1073741824:=by omega
  obtain ⟨S,hS,hS1,hS2⟩:∃ S:Nat,3 + n % ((N:Int) - 2) = (S:Int) ∧ 3 ≤ S ∧ S ≤ 6:= by
   have h1:=Int.emod_nonneg n (show (N:Int) - 2 ≠ 0 by omega)
   have h2:=Int.emod_lt_of_pos n hp
   exact ⟨(3 + n % ((N:Int) - 2)).toNat,by omega,by omega,by omega⟩
  simp [-Prod.exists,jm,hN,kJ,de,bO,bW _ _ hp hq,hS]
  have hsm:bH S = true:=by simp [bH]; omega
  refine aO (List.range S) (fun (k:Nat) => .int (k:Int)) (fun k => some (hD (((List.range S).filter fun i => decide (i ≠ k)).map fun (i:Nat) => (i:Int)))) rfl ?_ (by simp; omega) (fun k _ => ?_) ?_
  ·simp [cz,hsm,bC]
  ·simp
   refine aO (List.range S) (fun (k:Nat) => .int (k:Int)) (fun i => if decide (i ≠ k) = true then some (.int (i:Int)) else none) rfl ?_ (by simp; omega) (fun i _ => ?_) ?_
   ·simp [cz,hsm,bC]
   ·by_cases e:i = k <;> simp [di,e]
   ·rw [br]
    simp [bf,b5,hD]
  ·simp [bf,b5,List.filterMap_eq_map]
   refine ⟨_,_,rfl,rfl,many,(List.range S).map fun (k:Nat) => (((List.range S).filter fun i => decide (i ≠ k)).map fun (i:Nat) => (i:Int)),n / ((N:Int) - 2),by simp [aJ],rfl,by simp; omega,by simp; omega,⟨hm1,hm2⟩,?_⟩
   intro h hh
   obtain ⟨k,hk,rfl⟩:=List.mem_map.mp hh
   have hN':(N:Int) ≤ many:=by rw [<- hN]; split <;> omega
   have hSN:(S:Int) ≤ N:= by
    have h2:=Int.emod_lt_of_pos n hp
    omega
   refine ⟨fun z => ?_,?_,fun c hc => ?_⟩
   ·have:(if k = 0 then 1 else 0) ∈ (List.range S).filter fun i => decide (i ≠ k):=List.mem_filter.mpr ⟨List.mem_range.mpr (by split <;> omega),by simp; split <;> omega⟩
    rw [List.map_eq_nil_iff] at z
    rw [z] at this
    cases this
   ·rw [List.pairwise_map]
    exact ((List.pairwise_lt_range).filter _).imp fun {a b} (q:a < b) => by show (a:Int) < (b:Int); omega
   ·obtain ⟨i,hi,rfl⟩:=List.mem_map.mp hc
    have:=List.mem_range.mp (List.mem_filter.mp hi).1
    omega
 obtain ⟨M,rfl⟩:∃ M:Nat,many = (M:Int):=⟨many.toNat,by omega⟩
 obtain ⟨Z,rfl⟩:∃ Z:Nat,size = (Z:Int):=⟨size.toNat,by omega⟩
 have hZ1:1 ≤ Z:=by omega
 have hZ2:Z ≤ 6:=by omega
 have hM1:1 ≤ M:=by omega
 have hM2:M ≤ 7:=by omega
 have sZ:bH Z = true:=by simp [bH]; omega
 have sM:bH M = true:=by simp [bH]; omega
 clear hb hs1 hs2
 refine aK (fun δ => δ = [.ow true [.int n],.pu (.int M),.pu (.int way),.pu (.int Z),.ow false [],.un,.un,.un,.un,.un,.un]) (by simp) ?_
 rintro _ rfl
 refine aK (fun δ => ∃ (n:Int) (hs:List (List Int)) (x5 x6 x7 x8:Jt.Slot),δ = [.ow true [.int n],.pu (.int M),.pu (.int way),.pu (.int Z),.ow false (hs.map hD),x5,x6,x7,x8,.un,.un] ∧ hs.length = Z ∧ ∀ h ∈ hs,c7 M h) ?_ ?_
 ·refine ji (bC 0 Z) (fun k δ => P4 M Z k way δ) ?_ ?_ ?_ ?_
  ·simp [cz,sZ]
  ·exact ⟨n,[],.un,.un,.un,.un,rfl,rfl,by simp⟩
  ·rintro k hk _ ⟨n,hs,x5,x6,x7,x8,rfl,hlen,hw⟩
   have hk':k < Z:=by simpa [bC] using hk
   rw [dG,bZ]
   refine ⟨by simp,?_⟩
   simp only [List.set_cons_succ,List.set_cons_zero]
   refine aK (fun δ => ∃ (n:Int) (cs:List Int),δ = [.ow true [.int n],.pu (.int M),.pu (.int way),.pu (.int Z),.ow false (hs.map hD),.pu (.int k),.pu (.lst (cs.map .int)),x7,x8,.un,.un] ∧ cs.length ≤ 7 ∧ ∀ c ∈ cs,0 ≤ c ∧ c < (M:Int)) ?_ ?_
   ·simp only [cK,ar,ax]
    refine dU (bC 0 M) (fun _ acc δ => ∃ (n:Int) (cs:List Int),acc = cs.map .int ∧ δ = [.ow true [.int n],.pu (.int M),.pu (.int way),.pu (.int Z),.ow false (hs.map hD),.pu (.int k),x6,x7,x8,.un,.un] ∧ ∀ c ∈ cs,0 ≤ c ∧ c < (M:Int)) rfl ?_ (by simp [bC]; omega) ⟨n,[],rfl,rfl,by simp⟩ ?_ ?_
    ·simp [cz,sM]
    ·rintro j hj acc _ ha hl ⟨n,cs,rfl,rfl,hcM⟩
     have hjM:j < M:=by simpa [bC] using hj
     rw [dG]
     refine cM.mpr (bZ.mpr ⟨Nat.le_refl 12,vU rfl tp (by decide) (by decide) ?_⟩)
     by_cases q:n % 3 = 0
     ·rw [decide_eq_true q,if_pos rfl]
      refine cg.mpr ⟨_,rfl,rfl,_,cs ++ [(j:Int)],by rw [List.map_append]; rfl,rfl,fun c hc => ?_⟩
      rcases List.mem_append.mp hc with z | z
      ·exact hcM c z
      ·rw [List.mem_singleton.mp z]; omega
     ·rw [decide_eq_false q,if_neg Bool.false_ne_true]
      exact ⟨rfl,_,cs,List.append_nil _,rfl,hcM⟩
    ·rintro xs _ hx hl ⟨n,cs,rfl,rfl,hcM⟩
     have:cs.length ≤ 7:=by simp [bC] at hx; omega
     exact ⟨by simp,trivial,n,cs,rfl,this,hcM⟩
   rintro _ ⟨n,cs,rfl,hcs,hcM⟩
   refine aK (P2 M Z k way hs) ?_ ?_
   ·refine mW (fun b δ => δ = [.ow true [.int n],.pu (.int M),.pu (.int way),.pu (.int Z),.ow false (hs.map hD),.pu (.int k),.pu (.lst (cs.map .int)),x7,x8,.un,.un] ∧ (b = true -> hs ≠ [])) ?_ ?_ ?_
    ·exact ma (iJ rfl (A5 _ _)) (fun _ => ⟨rfl,fun e => by cases e⟩) fun _ => (zQ rfl).mono fun b δ1 h => ⟨h.2,fun e => of_decide_eq_true (h.1.symm.trans e)⟩
    ·rintro _ ⟨rfl,hne⟩
     have hpos:0 < hs.length:=List.length_pos_iff.mpr (hne rfl)
     obtain ⟨h,hh,eh⟩:=om hs n hpos
     have et:=bW n hs.length (by omega) (by omega)
     refine aK (fun δ => ∃ n:Int,δ = [.ow true [.int n],.pu (.int M),.pu (.int way),.pu (.int Z),.ow false (hs.map hD),.pu (.int k),.pu (.lst (cs.map .int)),.pu (hD h),x8,.un,.un]) ?_ ?_
     ·exact cK.mpr (qv.mpr ⟨⟨_,_,rfl⟩,gf rfl (zK rfl (List.length_map ..)) (by omega) (by omega) ⟨_,_,rfl,cj eh ⟨Nat.lt_of_sub_pos (Nat.zero_lt_succ 3),rfl,_,rfl⟩⟩⟩)
     rintro _ ⟨n,rfl⟩
     refine aK (fun δ => ∃ ds:List Int,δ = [.ow true [.int n],.pu (.int M),.pu (.int way),.pu (.int Z),.ow false (hs.map hD),.pu (.int k),.pu (.lst (cs.map .int)),.pu (hD h),.pu (.lst (ds.map .int)),.un,.un] ∧ ds.length ≤ 7 ∧ ∀ c ∈ ds,0 ≤ c ∧ c < (M:Int)) ?_ ?_
     ·simp only [cK,ar,ax]
      refine aO cs .int (fun c => if (hs.filter fun h => decide (c ∈ h)).isEmpty = true then some (.int c) else none) rfl ?_ (by omega) (fun c hc => ?_) ?_
      ·simp [aH]
      ·simp
       refine vf (i:=4) (b:=false) hs hD (fun h => if decide (c ∈ h) = true then some (hD h) else none) rfl rfl ?_ (by omega) (fun h hh => ?_) ?_
       ·simp
       ·by_cases q:c ∈ h <;> simp [nJ,q]
       ·rw [br]
        cases q:(hs.filter fun h => decide (c ∈ h)) with
        | nil =>
         have q':=List.filter_eq_nil_iff.mp q
         simpa [me] using q'
        | cons a r =>
         have q':a ∈ hs.filter fun h => decide (c ∈ h):=by rw [q]; exact List.mem_cons_self
         simp at q'
         simp [me]
         exact ⟨a,q'⟩
      ·rw [br]
       refine ⟨by simp,trivial,(cs.filter fun c => (hs.filter fun h => decide (c ∈ h)).isEmpty),rfl,?_⟩
       have:=List.length_filter_le (fun c => (hs.filter fun h => decide (c ∈ h)).isEmpty) cs
       exact ⟨by omega,fun c hc => hcM c (List.mem_filter.mp hc).1⟩
     rintro _ ⟨ds,rfl,hds,hdM⟩
     simp
     refine dU (h.map .int) (fun _ acc δ => ∃ (n:Int) (cs':List Int),acc = cs'.map .int ∧ δ = [.ow true [.int n],.pu (.int M),.pu (.int way),.pu (.int Z),.ow false (hs.map hD),.pu (.int k),.pu (.lst (cs.map .int)),.pu (hD h),.pu (.lst (ds.map .int)),.un,.un] ∧ ∀ c ∈ cs',0 ≤ c ∧ c < (M:Int)) rfl ?_ (by have:=(hw h hh).len (by omega) (by omega); simp; omega) ⟨n,[],rfl,rfl,by simp⟩ ?_ ?_
     ·simp [g_]
     ·rintro j hj acc _ ha hl ⟨n,cs',rfl,rfl,hc'⟩
      have hj':j < h.length:=by simpa using hj
      rw [List.getElem_map]
      refine cM.mpr (bZ.mpr ⟨Nat.le_refl 12,vU rfl tp (by decide) (by decide) ?_⟩)
      by_cases q:n % 2 = 0
      ·rw [decide_eq_true q,if_pos rfl]
       refine cg.mpr ⟨_,rfl,rfl,_,cs' ++ [h[j]],by rw [List.map_append]; rfl,rfl,fun c hc => ?_⟩
       rcases List.mem_append.mp hc with z | z
       ·exact hc' c z
       ·rw [List.mem_singleton.mp z]; exact (hw h hh).2.2 _ (List.getElem_mem hj')
      ·rw [decide_eq_false q,if_neg Bool.false_ne_true]
       exact ⟨rfl,_,cs',List.append_nil _,rfl,hc'⟩
     ·rintro xs _ hx hl ⟨n,cs',rfl,rfl,hc'⟩
      have hb:=(hw h hh).len (by omega) (by omega)
      have hc:cs'.length ≤ h.length:=by simpa using hx
      have hsm:ds.length + cs'.length ≤ 100000:=by omega
      simp [pK,sQ,hsm]
      refine ⟨_,_,ds ++ cs',_,_,rfl,by simp [b5],by simp; omega,fun c hc => ?_⟩
      rcases List.mem_append.mp hc with z | z
      ·exact hdM c z
      ·exact hc' c z
    ·rintro _ ⟨rfl,hne⟩
     simp
     exact ⟨_,_,cs,_,_,rfl,by simp [b5],by omega,hcM⟩
   rintro _ ⟨n,x,cs,x7,x8,rfl,hx,hcs,hcM⟩
   refine aK (P2 M Z k way hs) ?_ ?_
   ·refine mW (fun b δ => (∃ n:Int,δ = [.ow true [.int n],.pu (.int M),.pu (.int way),.pu (.int Z),.ow false (hs.map hD),.pu (.int k),.pu x,x7,x8,.un,.un]) ∧ (b = true -> hs ≠ [])) ?_ ?_ ?_
    ·exact ma (iJ rfl (jL _ _)) (fun _ => ⟨⟨_,rfl⟩,fun e => by cases e⟩) fun _ => ma (zQ rfl) (fun _ => ⟨⟨_,rfl⟩,fun e => by cases e⟩) fun e => vU rfl tp (by decide) (by decide) ⟨⟨_,rfl⟩,fun _ => of_decide_eq_true e⟩
    ·rintro _ ⟨⟨n,rfl⟩,hne⟩
     have hpos:0 < hs.length:=List.length_pos_iff.mpr (hne rfl)
     obtain ⟨h,hh,eh⟩:=om hs n hpos
     have et:=bW n hs.length (by omega) (by omega)
     have:=(hw h hh).len (by omega) (by omega)
     exact cK.mpr (qv.mpr ⟨⟨_,_,rfl⟩,gf rfl (zK rfl (List.length_map ..)) (by omega) (by omega) ⟨_,_,rfl,cj eh ⟨Nat.lt_of_sub_pos (Nat.zero_lt_succ 4),rfl,_,_,h,_,_,rfl,rfl,by omega,(hw h hh).2.2⟩⟩⟩)
    ·rintro _ ⟨⟨n,rfl⟩,hne⟩
     simp
     exact ⟨_,_,cs,_,_,rfl,hx,hcs,hcM⟩
   rintro _ ⟨n,x,cs,x7,x8,rfl,hx,hcs,hcM⟩
   refine pv ⟨_,_,rfl⟩ ?_
   have hc64:cs.length < 64:=by omega
   have hl1:=qU cs
   have hl2:=eA (fM cs)
   have eM:=bW n M (by omega) (by omega)
   have hl3:hs.length ≤ 100000:=by omega
   by_cases q:bA (fM cs) = []
   ·simp [-Prod.exists,hx,ib,fY,hc64,bp,cv,q,eM,hl3]
    refine ⟨_,hs ++ [[n % (M:Int)]],_,_,_,_,by simp [hD]; exact ⟨rfl,rfl,rfl,rfl,rfl⟩,by simp [hlen],?_⟩
    intro h hh
    rcases List.mem_append.mp hh with hh | hh
    ·exact hw h hh
    ·rw [List.mem_singleton.mp hh]
     have g1:=Int.emod_nonneg n (show (M:Int) ≠ 0 by omega)
     have g2:=Int.emod_lt_of_pos n (show (0:Int) < M by omega)
     exact ⟨by simp,by simp,fun c hc => by rw [List.mem_singleton.mp hc]; exact ⟨g1,g2⟩⟩
   ·simp [-Prod.exists,hx,ib,fY,hc64,bp,cv,q,hl3]
    refine ⟨_,hs ++ [bA (fM cs)],_,_,_,_,by simp [hD]; exact ⟨rfl,rfl,rfl,rfl,rfl⟩,by simp [hlen],?_⟩
    intro h hh
    rcases List.mem_append.mp hh with hh | hh
    ·exact hw h hh
    ·rw [List.mem_singleton.mp hh]
     exact ⟨q,jX (cV cs),fun c hc => hcM c ((cN c cs).mp (d7.mp hc))⟩
  ·rintro _ ⟨n,hs,x5,x6,x7,x8,rfl,hlen,hw⟩
   have:(bC 0 Z).length = Z:=by simp [bC]
   rw [this] at hlen
   exact ⟨rfl,n,hs,x5,x6,x7,x8,rfl,hlen,hw⟩
 rintro _ ⟨n,hs,x5,x6,x7,x8,rfl,hlen,hw⟩
 refine aK (fun δ => δ = [.ow true [.int n],.pu (.int M),.pu (.int way),.pu (.int Z),.ow false (hs.map hD),x5,x6,x7,x8,.ow false (lD (List.range Z)),.un]) ?_ ?_
 ·have:(Z:Int) < 100000:=by omega
  simp [kO,this,gG]
 rintro _ rfl
 refine aK (fun δ => ∃ (n:Int) (ls os:List Nat),δ = [.ow true [.int n],.pu (.int M),.pu (.int way),.pu (.int Z),.ow false (hs.map hD),x5,x6,x7,x8,.ow false (lD ls),.pu (.lst (lD os))] ∧ os.length = Z ∧ ∀ o ∈ os,o < Z) ?_ ?_
 ·simp only [cK,ar,ax]
  refine dU (bC 0 Z) (fun k acc δ => ∃ (n:Int) (ls os:List Nat),acc = lD os ∧ δ = [.ow true [.int n],.pu (.int M),.pu (.int way),.pu (.int Z),.ow false (hs.map hD),x5,x6,x7,x8,.ow false (lD ls),.un] ∧ os.length = k ∧ ls.length + k = Z ∧ (∀ o ∈ os,o < Z) ∧ ∀ o ∈ ls,o < Z) rfl ?_ (by simp [bC]; omega) ⟨n,List.range Z,[],rfl,rfl,rfl,by simp,by simp,by simp⟩ ?_ ?_
  ·simp [cz,sZ]
  ·rintro k hk acc _ ha hl ⟨n,ls,os,rfl,rfl,h1,h2,h3,h4⟩
   have hk':k < Z:=by simpa [bC] using hk
   have hpos:0 < ls.length:=by omega
   have et:=bW n ls.length (by omega) (by omega)
   have g1:=Int.emod_nonneg n (show (ls.length:Int) ≠ 0 by omega)
   have g2:=Int.emod_lt_of_pos n (show (0:Int) < ls.length by omega)
   obtain ⟨j,hj⟩:∃ j:Nat,n % (ls.length:Int) = (j:Int):=⟨(n % (ls.length:Int)).toNat,by omega⟩
   have hlt:j < ls.length:=by omega
   rw [hj] at et
   have ll:(lD ls).length = ls.length:=by simp [lD]
   rw [dG]
   simp only [cM,bZ,ax]
   refine ⟨by simp,?_⟩
   simp only [if_true]
   refine qX ⟨_,_,rfl⟩ ?_
   simp [-Prod.exists,ll,et]
   refine ⟨j,rfl,by omega,.int (ls[j]:Int),by simp [lD,hlt],_,ls.eraseIdx j,os ++ [ls[j]],by simp [lD],⟨rfl,iB _ ls j⟩,by simp [h1],?_,?_,fun o ho => h4 o (List.mem_of_mem_eraseIdx ho)⟩
   ·rw [List.length_eraseIdx,if_pos hlt]; omega
   ·intro o ho
    rcases List.mem_append.mp ho with ho | ho
    ·exact h3 o ho
    ·rw [List.mem_singleton.mp ho]; exact h4 _ (List.getElem_mem hlt)
  ·rintro xs _ hx hl ⟨n,ls,os,rfl,rfl,h1,h2,h3,h4⟩
   have:(bC 0 Z).length = Z:=by simp [bC]
   exact ⟨by simp,trivial,n,ls,os,rfl,by omega,h3⟩
 rintro _ ⟨n,ls,os,rfl,h1,h3⟩
 simp
 refine aO os (fun (k:Nat) => .int (k:Int)) (fun k => some (hD (G hs k))) rfl ?_ (by omega) (fun k hk => ?_) ?_
 ·simp [aH,lD]
 ·have hlt:k < hs.length:=by have:=h3 k hk; omega
  have:dj (.lst (hs.map hD)) (.int (k:Int)) = some (hD (G hs k)):=mE hlt
  simp [this]
 ·simp [bf,b5,List.filterMap_eq_map]
  refine ⟨_,_,rfl,rfl,M,os.map (G hs),n,by simp [aJ],rfl,by simp; omega,by simp; omega,by omega,?_⟩
  intro h hh
  obtain ⟨k,hk,rfl⟩:=List.mem_map.mp hh
  have hlt:k < hs.length:=by have:=h3 k hk; omega
  have:G hs k ∈ hs:=by simp [G,hlt]
  exact hw _ this
end K04
namespace K04
open PySem L2 Jt
variable {hs:List (List Int)} {ls:List Nat}
def isInt:D -> Bool
 | .int _ => true
 | _ => false
def bF (n:Int):D -> Bool
 | .int i => decide (0 ≤ i) && decide (i < n)
 | _ => false
theorem qE (x:D):aE lH jM [x] = some (.bl (isInt x)):= by
 apply bt
 show Ok jM [.pu x] _
 unfold jM
 cases x <;> simp [bq,jq,isInt]
theorem wm (x:D) (n:Int):aE lp jH [x,.int n] = some (.bl (bF n x)):= by
 apply bt
 show Ok jH [.pu x,.pu (.int n)] _
 unfold jH
 cases x with
 | int i =>
  by_cases h:0 ≤ i
  ·simp [au,qE,isInt,bF,oV,sx,bO,h]
  ·simp [au,qE,isInt,bF,oV,sx,bO,h]
 | _ => simp [au,qE,isInt,bF]
def iX (n:Int):D -> Bool
 | .tup xs => xs.all (bF n)
 | _ => false
def Short (x:D):Prop:=∀ xs,x = .tup xs -> xs.length ≤ 60
theorem x9 {x:D} (n:Int) (h:Short x):aE mZ oo [x,.int n] = some (.bl (iX n x)):= by
 apply bt
 show Ok oo [.pu x,.pu (.int n)] _
 unfold oo
 cases x with
 | tup xs =>
  have hl:=h xs rfl
  simp [bq,jq]
  refine aO xs id (fun x => some (.bl (bF n x))) rfl ?_ (by omega) (fun x hx => ?_) ?_
  ·simp [aH]
  ·simp [au,wm]
  ·simp [kP,eU,List.filterMap_eq_map,iX,Function.comp_def]
 | _ => simp [bq,jq,iX]
theorem gy {n:Nat}:∀ {xs:List D},xs.all (bF n) = true -> ∃ ls:List Nat,xs = lD ls ∧ ∀ i ∈ ls,i < n
 | [],_ => ⟨[],rfl,by simp⟩
 | x :: xs,h => by
  simp only [List.all_cons,Bool.and_eq_true] at h
  obtain ⟨ls,rfl,hl⟩:=gy h.2
  cases x with
  | int i =>
   simp only [bF,Bool.and_eq_true,decide_eq_true_eq] at h
   refine ⟨i.toNat :: ls,?_,?_⟩
   ·simp [lD]; omega
   ·intro j hj
    rcases List.mem_cons.mp hj with rfl | hj
    ·omega
    ·exact hl j hj
  | _ => simp [bF] at h
def dI:List Nat -> Bool
 | a :: b :: r => decide (a < b) && dI (b :: r)
 | _ => true
theorem m9:∀ ls:List Nat,dI ls = true ↔ ls.Pairwise (· < ·)
 | [] => by simp [dI]
 | [a] => by simp [dI]
 | a :: b :: r => by
  have ih:=m9 (b :: r)
  simp only [dI,Bool.and_eq_true,decide_eq_true_eq,ih]
  rw [List.pairwise_cons (a:=a)]
  constructor
  ·rintro ⟨h1,h2⟩
   refine ⟨fun x hx => ?_,h2⟩
   rcases List.mem_cons.mp hx with rfl | hx
   ·exact h1
   ·exact Nat.lt_trans h1 ((List.pairwise_cons.mp h2).1 x hx)
  ·rintro ⟨h1,h2⟩
   exact ⟨h1 b List.mem_cons_self,h2⟩
theorem oO:∀ ls:List Nat,((ls.zip ls.tail).all fun p => decide (p.1 < p.2)) = dI ls
 | [] => rfl
 | [a] => rfl
 | a :: b :: r => by
  have ih:=oO (b :: r)
  show (decide (a < b) && ((b :: r).zip r).all _) = _
  rw [show ((b :: r).zip r).all (fun p => decide (p.1 < p.2)) = dI (b :: r) from ih]
  rfl
theorem iZ (ls:List Nat):(lD ls).length = ls.length:=by simp [lD]
theorem we (ls:List Nat):cutD (lD ls) (some 1) none = lD ls.tail:= by
 unfold cutD
 rw [show (some (1:Int)) = some ((1:Nat):Int) from rfl,HT.sIx_nat,HT.sIx_none,iZ,List.take_of_length_le (by rw [List.length_drop,iZ]; exact Nat.le_refl _)]
 cases ls with
 | nil => rfl
 | cons a r => simp [lD,Nat.min_eq_left]
theorem ur:∀ a b:List Nat,gg (lD a) (lD b) = (a.zip b).map fun p => .tup [.int (p.1:Int),.int (p.2:Int)]
 | [],b => by cases b <;> simp [lD,gg]
 | x :: a,[] => by simp [lD,gg]
 | x :: a,y :: b => by
  have ih:=ur a b
  show D.tup [.int (x:Int),.int (y:Int)] :: gg (lD a) (lD b) = _
  rw [ih]; rfl
theorem Dp (ls:List Nat) (h:ls.length ≤ 60):aE kh nD [.tup (lD ls)] = some (.bl (dI ls)):= by
 apply bt
 show Ok nD [.pu (.tup (lD ls))] _
 unfold nD
 simp only [ar,cF,aV,ax]
 refine aO (ls.zip ls.tail) (fun p => .tup [.int (p.1:Int),.int (p.2:Int)]) (fun p => some (.bl (decide (p.1 < p.2)))) rfl ?_ (by simp; omega) (fun p hp => ?_) ?_
 ·simp [CU,mR,kM]
  rw [we,ur]
 ·simp [sx,bO]
 ·simp [kP,eU,List.filterMap_eq_map,Function.comp_def]
  exact oO ls
def nats (xs:List D):List Nat:=xs.map fun x => match x with
 | .int i => i.toNat
 | _ => 0
theorem xP (r:List Nat):nats (lD r) = r:= by
 unfold nats lD
 rw [List.map_map]
 exact (List.map_congr_left fun i _ => by simp).trans (List.map_id r)
def gs (n:Int):D -> Bool
 | .tup xs => xs.all (bF n) && (!xs.isEmpty && dI (nats xs))
 | _ => false
theorem Df {d:D} (n:Nat) (h:Short d):aE qA n_ [d,.int (n:Int)] = some (.bl (gs n d)):= by
 apply bt
 show Ok n_ [.pu d,.pu (.int (n:Int))] _
 unfold n_
 have e:=x9 (n:Int) h
 cases d with
 | tup xs =>
  have h60:=h xs rfl
  cases q:xs.all (bF n) with
  | false =>
   have:gs n (.tup xs) = false:=by show (xs.all (bF n) && _) = false; rw [q]; rfl
   rw [this]
   have e:aE mZ oo [.tup xs,.int (n:Int)] = some (.bl false):=e.trans (by show some (D.bl (xs.all (bF n))) = _; rw [q])
   simp [au,e]
  | true =>
   have e:aE mZ oo [.tup xs,.int (n:Int)] = some (.bl true):=e.trans (by show some (D.bl (xs.all (bF n))) = _; rw [q])
   obtain ⟨ls,rfl,hl⟩:=gy (n:=n) q
   have h60:ls.length ≤ 60:=by simpa [lD] using h60
   have er:=Dp ls h60
   have:gs n (.tup (lD ls)) = (!(lD ls).isEmpty && dI ls):= by
    show ((lD ls).all (bF n) && (!(lD ls).isEmpty && dI (nats (lD ls)))) = _
    rw [q,xP,Bool.true_and]
   rw [this]
   have el:bG [.tup (lD ls)] = some (.int ((lD ls).length:Int)):=by simp [bG]
   have eg:l_ (.int ((lD ls).length:Int)) (.int 0) = some (.bl (!(lD ls).isEmpty)):= by
    cases ls <;> simp [l_,bO,lD]
   generalize dI ls = rb at *
   cases qe:(lD ls).isEmpty with
   | true =>
    rw [qe] at eg
    generalize lD ls = l at *
    simp [au,e,el,eg]
   | false =>
    rw [qe] at eg
    generalize lD ls = l at *
    simp [au,e,el,eg,er]
 | _ =>
  simp [au,e,iX,gs]
def layB:D -> Bool
 | .tup [.int m,.tup xs] => (decide (1 ≤ m) && decide (m ≤ 7)) && ((decide (1 ≤ xs.length) && decide (xs.length ≤ 6)) && xs.all (gs m))
 | _ => false
def zL (d:D):Prop:=∀ m xs,d = .tup [m,.tup xs] -> xs.length ≤ 60 ∧ ∀ h ∈ xs,Short h
theorem uv (a b:Int):oV (.int a) (.int b) = some (.bl (decide (a ≤ b))):=by simp [oV,bO]
theorem FT {x k:Int} {δ:DS} {fx:Jt.M D} {Q:D -> DS -> Prop} (hx:Ok fx δ fun d δ1 => d = .int x ∧ δ1 = δ) (q:Q (.bl (decide (1 ≤ x) && decide (x ≤ k))) δ):Ok (tP oV oV (pure (.int 1)) fx (pure (.int k))) δ Q:= by
 rw [Bx,ax]
 refine hx.mono fun d δ1 h => ?_
 obtain ⟨rfl,rfl⟩:=h
 refine cj (uv 1 x) ?_
 by_cases h:1 ≤ x
 ·rw [decide_eq_true h] at q ⊢
  exact ax.mpr (cj (uv x k) q)
 ·rw [decide_eq_false h] at q ⊢
  exact q
theorem D4 {x k:Int} {δ:DS} {fx:Jt.M D} (hx:Ok fx δ fun d δ1 => d = .int x ∧ δ1 = δ):Ok (e_ ((tP oV oV (pure (.int 1)) fx (pure (.int k))) >>= cB)) δ fun b δ1 => b = !(decide (1 ≤ x) && decide (x ≤ k)) ∧ δ1 = δ:= by
 rw [yo,ar]
 exact FT hx (ax.mpr ⟨rfl,rfl⟩)
theorem v3 {ta tb:Jt.M Bool} {δ:DS} {b1 b2:Bool} (h1:Ok ta δ fun b δ1 => b = b1 ∧ δ1 = δ) (h2:b1 = false -> Ok tb δ fun b δ1 => b = b2 ∧ δ1 = δ):Ok (pq ta tb) δ fun b δ1 => b = (b1 || b2) ∧ δ1 = δ:= by
 rw [iA]
 refine h1.mono fun b δ1 h => ?_
 obtain ⟨rfl,rfl⟩:=h
 cases b
 ·exact h2 rfl
 ·exact ⟨rfl,rfl⟩
theorem xM (xs:List D):cn true (.int (xs.length:Int)) (.int 2) = some (.bl (!decide (xs.length = 2))):= by
 rw [c6]
 simp only [if_true]
 rw [decide_eq_decide.mpr (show ((xs.length:Int) = 2) ↔ xs.length = 2 by omega)]
theorem FF {d:D} (h:zL d):aE r9 vn [d] = some (.bl (layB d)):= by
 apply bt
 show Ok vn [.pu d,.un,.un] _
 unfold vn
 cases d with
 | tup ds =>
  have el:bG [.tup ds] = some (.int (ds.length:Int)):=by simp [bG]
  have e2:=xM ds
  by_cases q:ds.length = 2
  ·match ds,q with
   | [m,x],_ =>
    have e2:cn true (.int (([m,x]:List D).length:Int)) (.int 2) = some (.bl false):=e2
    refine bT false ?_ (fun h => by cases h) fun _ => ?_
    ·simp only [iA]
     simp [bq,jq,cv,el,e2]
     exact cj (by rw [c6]; rfl) ⟨rfl,rfl⟩
    refine aK (fun δ => δ = [.pu (.tup [m,x]),.pu m,.pu x]) (by simp [dz,bw,c9]) ?_
    rintro _ rfl
    have ew:=qE m
    cases m with
    | int m =>
     refine bT (!(decide (1 ≤ m) && decide (m ≤ 7))) ?_ (fun hb => ?_) (fun hb => ?_)
     ·have:=v3 (δ:=[.pu (.tup [.int m,x]),.pu (.int m),.pu x]) (b1:=false) (ta:=(e_ (do let x <- (mC (au 1 (aE lH jM)) (ae (ag 1) (pure []))); lift (cv x)))) (by simp [au,ew,isInt,cv]) fun _ => D4 (x:=m) (k:=7) (fx:=ag 1) (cg.mpr ⟨_,rfl,rfl,rfl⟩)
      simpa using this
     ·have:layB (.tup [.int m,x]) = false:= by
       cases x with
       | tup xs =>
        show ((decide (1 ≤ m) && decide (m ≤ 7)) && _) = false
        rw [show (decide (1 ≤ m) && decide (m ≤ 7)) = false by simpa only [Bool.not_eq_true'] using hb]
        rfl
       | _ => rfl
      rw [this]
      simp
     ·have hm:1 ≤ m ∧ m ≤ 7:=by simpa using hb
      cases x with
      | tup xs =>
       obtain ⟨h60,hsh⟩:=h _ xs rfl
       have ex:bG [.tup xs] = some (.int (xs.length:Int)):=by simp [bG]
       refine bT (!(decide (1 ≤ (xs.length:Int)) && decide ((xs.length:Int) ≤ 6))) ?_ (fun hb => ?_) (fun hb => ?_)
       ·have:=v3 (δ:=[.pu (.tup [.int m,.tup xs]),.pu (.int m),.pu (.tup xs)]) (b1:=false) (ta:=(e_ (do let x <- (mN .tup (ag 2)); lift (cv x)))) (by simp [bq,jq,cv]) fun _ => D4 (x:=(xs.length:Int)) (k:=6) (fx:=(mC bG (ae (ag 2) (pure [])))) (by simp [ex])
        simpa using this
       ·have:layB (.tup [.int m,.tup xs]) = false:= by
         show ((decide (1 ≤ m) && decide (m ≤ 7)) && ((decide (1 ≤ xs.length) && decide (xs.length ≤ 6)) && _)) = false
         rw [show (decide (1 ≤ xs.length) && decide (xs.length ≤ 6)) = false by
          have a1:decide (1 ≤ (xs.length:Int)) = decide (1 ≤ xs.length):=decide_eq_decide.mpr (by omega)
          have a2:decide ((xs.length:Int) ≤ 6) = decide (xs.length ≤ 6):=decide_eq_decide.mpr (by omega)
          rw [a1,a2] at hb
          simpa only [Bool.not_eq_true'] using hb]
         simp
        rw [this]
        simp
       ·have hx:1 ≤ xs.length ∧ xs.length ≤ 6:= by
         have:1 ≤ (xs.length:Int) ∧ (xs.length:Int) ≤ 6:=by simpa using hb
         omega
        obtain ⟨M,rfl⟩:∃ M:Nat,m = (M:Int):=⟨m.toNat,by omega⟩
        have:layB (.tup [.int (M:Int),.tup xs]) = xs.all (gs M):= by
         show ((decide (1 ≤ (M:Int)) && decide ((M:Int) ≤ 7)) && ((decide (1 ≤ xs.length) && decide (xs.length ≤ 6)) && _)) = _
         rw [decide_eq_true hm.1,decide_eq_true hm.2,decide_eq_true hx.1,decide_eq_true hx.2]
         rfl
        rw [this]
        simp only [ar,cF,aV,ax]
        refine aO xs id (fun h => some (.bl (gs M h))) rfl ?_ (by omega) (fun hd hh => ?_) ?_
        ·simp [aH]
        ·simp [au,Df M (hsh hd hh)]
        ·simp [kP,eU,List.filterMap_eq_map,Function.comp_def]
      | _ =>
       refine bT true ?_ (fun _ => ?_) (fun h => by cases h)
       ·simp only [iA]
        simp [bq,jq,cv]
       ·simp [layB]
    | _ =>
     refine bT true ?_ (fun _ => ?_) (fun h => by cases h)
     ·simp only [iA]
      simp [au,ew,isInt,cv]
     ·simp [layB]
  ·rw [decide_eq_false q] at e2
   have:layB (.tup ds) = false:= by
    match ds,q with
    | [],_ => rfl
    | [_],_ => simp [layB]
    | [_,_],q => exact absurd rfl q
    | _ :: _ :: _ :: _,_ => simp [layB]
   rw [this]
   refine bT true ?_ (fun _ => ?_) (fun h => by cases h)
   ·simp only [iA]
    simp [bq,jq,cv,el,e2]
   ·simp
 | _ =>
  refine bT true ?_ (fun _ => ?_) (fun h => by cases h)
  ·simp only [iA]
   simp [bq,jq,cv]
  ·simp [layB]
end K04
namespace K04
open PySem L2 Jt
theorem pX:∀ (hs:List (List Int)) (n:Nat),iR n (hs.map hD) = (List.range hs.length).map fun (i:Nat) => .tup [.int ((n + i:Nat):Int),hD (G hs i)]:= by
 intro hs
 induction hs with
 | nil => intro n; rfl
 | cons h r ih =>
  intro n
  show D.tup [.int (n:Int),hD h] :: iR (n + 1) (r.map hD) = _
  rw [ih,List.length_cons,List.range_succ_eq_map,List.map_cons,List.map_map]
  congr 1
  refine List.map_congr_left fun i _ => ?_
  simp [G,Function.comp]
  omega
theorem wg (neg:Bool) (k:Nat) (ls:List Nat):qk neg (.int (k:Int)) (.tup (lD ls)) = some (.bl (if neg then !decide (k ∈ ls) else decide (k ∈ ls))):= by
 have:lD ls = (ls.map fun (i:Nat) => (i:Int)).map .int:=by simp [lD]
 have e:=nJ neg k (ls.map fun (i:Nat) => (i:Int))
 unfold hD at e
 rw [this,e]
 have:((k:Int) ∈ ls.map fun (i:Nat) => (i:Int)) = (k ∈ ls):= by
  refine propext ⟨fun h => ?_,fun h => List.mem_map.mpr ⟨k,h,rfl⟩⟩
  obtain ⟨i,hi,e⟩:=List.mem_map.mp h
  rw [<- Int.ofNat_inj.mp e]; exact hi
 simp only [this]
variable {hs:List (List Int)} {ls:List Nat}
theorem zd {a n:Nat} (h:a < n):bF (n:Int) (.int (a:Int)) = true:=by simp [bF]; omega
theorem pF (m:Int) {a:Nat} (h:a < hs.length):aE jJ kA [aJ m hs,.int (a:Int)] = some .non:= by
 have e:=wm (.int (a:Int)) hs.length
 rw [zd h] at e
 have e1:=cJ m hs
 unfold aE
 have:Ok kA [.pu (aJ m hs),.pu (.int (a:Int))] fun fl _ => fl = .nx:= by
  unfold kA
  generalize aJ m hs = lay at *
  refine mW (fun b δ => b = false ∧ δ = [.pu lay,.pu (.int (a:Int))]) ?_ (fun _ h => by cases h.1) ?_
  ·simp [au,e,e1,bG,cv]
  ·rintro _ ⟨_,rfl⟩
   simp
 obtain ⟨fl,δ',e2,rfl⟩:=this
 rw [show entry jJ [aJ m hs,.int (a:Int)] = [.pu (aJ m hs),.pu (.int (a:Int))] from rfl,e2]
def tF (hs:List (List Int)) (i:Int):List Nat:=(List.range hs.length).filter fun k => decide (i ∈ G hs k)
theorem qp (h6:hs.length ≤ 6) {m i:Int} (h0:0 ≤ i) (h1:i < m):aE gk jc [aJ m hs,.int i] = some (.tup (lD (tF hs i))):= by
 apply bt
 show Ok jc [.pu (aJ m hs),.pu (.int i),.un,.un] _
 unfold jc
 have e:=wm (.int i) m
 rw [show bF m (.int i) = true by simp [bF,h0,h1]] at e
 refine aK (fun δ => δ = [.pu (aJ m hs),.pu (.int i),.pu (.int m),.pu (.tup (hs.map hD))]) (by unfold aJ; simp [dz,bw,c9]) ?_
 rintro _ rfl
 generalize aJ m hs = lay
 refine bT false ?_ (fun h => by cases h) fun _ => ?_
 ·simp [au,e,cv]
 ·simp only [ar,cF,aV,ax]
  refine aO (List.range hs.length) (fun k => .tup [.int (k:Int),hD (G hs k)]) (fun k => if decide (i ∈ G hs k) = true then some (.int (k:Int)) else none) rfl ?_ (by simp; omega) (fun k _ => ?_) ?_
  ·have:=pX hs 0
   simp at this
   simp [iV,kM,this]
  ·simp only [cM,ar]
   simp [dz,bw,c9,nJ]
   by_cases q:i ∈ G hs k <;> simp [q]
  ·rw [br]
   simp [bp,tF,lD]
def bL (hs:List (List Int)) (a b:Nat):List Int:=(G hs a).filter fun c => decide (c ∈ G hs b)
theorem jI (m:Int) (h7:∀ h ∈ hs,h.length ≤ 7) {a b:Nat} (ha:a < hs.length) (hb:b < hs.length):aE dJ d6 [aJ m hs,.int (a:Int),.int (b:Int)] = some (hD (bL hs a b)):= by
 apply bt
 show Ok d6 [.pu (aJ m hs),.pu (.int (a:Int)),.pu (.int (b:Int)),.un] _
 unfold d6
 have n1:=pF m ha
 have n2:=pF m hb
 have e1:=cJ m hs
 have ga:=mE ha
 have gb:=mE hb
 have g7:(G hs a).length ≤ 7:= by
  have:G hs a = hs[a]:=by simp [G,ha]
  rw [this]; exact h7 _ (List.getElem_mem ha)
 generalize aJ m hs = lay at *
 refine aK (fun δ => δ = [.pu lay,.pu (.int (a:Int)),.pu (.int (b:Int)),.un]) (by simp [au,n1]) ?_
 rintro _ rfl
 refine aK (fun δ => δ = [.pu lay,.pu (.int (a:Int)),.pu (.int (b:Int)),.un]) (by simp [au,n2]) ?_
 rintro _ rfl
 refine aK (fun δ => δ = [.pu lay,.pu (.int (a:Int)),.pu (.int (b:Int)),.pu (.tup (hs.map hD))]) (by simp [e1]) ?_
 rintro _ rfl
 simp only [ar,cF,aV,ax]
 refine aO (G hs a) .int (fun c => if decide (c ∈ G hs b) = true then some (.int c) else none) rfl ?_ (by omega) (fun c _ => ?_) ?_
 ·simp [ga,g_]
 ·by_cases q:c ∈ G hs b <;> simp [gb,nJ,q]
 ·rw [br]
  simp [bp,bL,hD]
theorem mJ {L:List Nat} {i:Nat} (h:i < L.length):dj (.tup (lD L)) (.int (i:Int)) = some (.int ((L.getD i 0:Nat):Int)):= by
 show jC _ _ = _
 rw [eK _ _ (by simpa [lD] using h)]
 simp [lD,h]
theorem Ed {L:List Nat} (hl:L.length ≤ 60) {i j:Nat} (hi:i < L.length) (hj:j < L.length):aE kY nU [.tup (lD L),.int (i:Int),.int (j:Int)] = some (.tup (lD (lk L i j))):= by
 apply bt
 show Ok nU [.pu (.tup (lD L)),.pu (.int (i:Int)),.pu (.int (j:Int)),.un,.un] _
 unfold nU
 have gi:=mJ hi
 have gj:=mJ hj
 refine aK (fun δ => δ = [.pu (.tup (lD L)),.pu (.int (i:Int)),.pu (.int (j:Int)),.pu (.int ((min (L.getD i 0) (L.getD j 0):Nat):Int)),.un]) ?_ ?_
 ·simp only [cK,cF,aV,eB,cg,ax]
  simp [gi,gj,jm]
  split <;> omega
 rintro _ rfl
 refine aK (fun δ => δ = [.pu (.tup (lD L)),.pu (.int (i:Int)),.pu (.int (j:Int)),.pu (.int ((min (L.getD i 0) (L.getD j 0):Nat):Int)),.pu (.int ((max (L.getD i 0) (L.getD j 0):Nat):Int))]) ?_ ?_
 ·simp only [cK,cF,aV,eB,cg,ax]
  simp [gi,gj,oy]
  split <;> omega
 rintro _ rfl
 simp only [ar,cF,aV,ax]
 generalize hA:min (L.getD i 0) (L.getD j 0) = A
 generalize hB:max (L.getD i 0) (L.getD j 0) = B
 refine aO L (fun (l:Nat) => .int (l:Int)) (fun l => some (.int ((if l = B then A else l:Nat):Int))) rfl ?_ (by omega) (fun l _ => ?_) ?_
 ·simp [aH,b5,lD]
 ·have:=di false l B
  simp at this
  by_cases q:l = B
  ·subst q; simp [this]
  ·simp [this,q]
 ·rw [show lk L i j = L.map (fun l => if l = B then A else l) by unfold lk; rw [hA,hB]]
  simp [bp,lD,List.filterMap_eq_map,Function.comp_def]
def mt (hs:List (List Int)) (i j:Nat):Bool:=!(bL hs i j).isEmpty
theorem uR (xs:List D) (k:Nat):cutD xs none (some (k:Int)) = xs.take k:= by
 unfold cutD
 have h1:HT.sIx xs.length 0 none = 0:=rfl
 have h2:HT.sIx xs.length xs.length (some (k:Int)) = min k xs.length:= by
  simp [HT.sIx]
  omega
 rw [h1,h2]
 simp
theorem wO (xs:List D) (k:Nat):cutD xs (some (k:Int)) none = xs.drop k:= by
 unfold cutD
 have h1:HT.sIx xs.length xs.length none = xs.length:=rfl
 have h2:HT.sIx xs.length 0 (some (k:Int)) = min k xs.length:= by
  simp [HT.sIx]
  omega
 rw [h1,h2]
 by_cases h:k ≤ xs.length
 ·rw [Nat.min_eq_left h]
  exact List.take_of_length_le (by rw [List.length_drop]; omega)
 ·rw [Nat.min_eq_right (by omega),List.drop_eq_nil_of_le (Nat.le_refl _),List.drop_eq_nil_of_le (by omega),List.take_nil]
theorem Eu {n k:Nat} (h:k ≤ n):CU (.lst (lD (List.range n))) none (some (k:Int)) = some (.lst (lD (List.range k))):= by
 show some (D.lst (cutD _ _ _)) = _
 rw [uR]
 simp [lD,<- List.map_take,List.take_range,Nat.min_eq_left h]
theorem nY (m:Int) (h7:∀ h ∈ hs,h.length ≤ 7) (h6:hs.length ≤ 6):ff e9 ia [aJ m hs] = some ((i8 (mt hs) hs.length).map fun p => .tup (lD p)):= by
 apply xr
 show Ok ia [.pu (aJ m hs),.un,.un,.un,.un] _
 unfold ia
 have e1:=cJ m hs
 have ec:=fun {a b:Nat} (ha:a < hs.length) (hb:b < hs.length) => jI m h7 ha hb
 have hn:(hs.length:Int) < 100000:=by omega
 generalize hnn:hs.length = n at *
 generalize aJ m hs = lay at *
 refine aK (fun δ => δ = [.pu lay,.pu (.lst (lD (List.range n))),.un,.un,.un]) (by simp [e1,bG,hnn,kO,hn,gG]) ?_
 rintro _ rfl
 refine aK (fun δ => δ = [.pu lay,.pu (.lst (lD (List.range n))),.pu (.tup (lD (List.range n))),.un,.un]) (by simp [bp]) ?_
 rintro _ rfl
 refine aK (fun δ => ∃ x3 x4,δ = [.pu lay,.pu (.lst (lD (List.range n))),.pu (.tup (lD (cw (mt hs) n))),x3,x4]) ?_ ?_
 ·refine ji (lD (List.range n)) (fun k δ => ∃ x3 x4,δ = [.pu lay,.pu (.lst (lD (List.range n))),.pu (.tup (lD (jO (mt hs) k (List.range n)))),x3,x4]) (by simp [aH,b5]) ⟨_,_,rfl⟩ ?_ ?_
  ·rintro k hk _ ⟨x3,x4,rfl⟩
   have hk':k < n:=by simpa [lD] using hk
   have ek:(lD (List.range n))[k] = .int (k:Int):=by simp [lD]
   have L0:Lb n (jO (mt hs) k (List.range n)):=(lY (kq n) k (by omega)).1
   rw [ek,bZ]
   refine ⟨by simp,?_⟩
   refine (ji (Q:=fun fl δ => fl = .nx ∧ ∃ x3 x4,δ = [.pu lay,.pu (.lst (lD (List.range n))),.pu (.tup (lD (jO (mt hs) (k + 1) (List.range n)))),x3,x4]) (lD (List.range k)) (fun j δ => ∃ x4,δ = [.pu lay,.pu (.lst (lD (List.range n))),.pu (.tup (lD (gN (mt hs) k j (jO (mt hs) k (List.range n))))),.pu (.int (k:Int)),x4]) ?_ ⟨x4,rfl⟩ ?_ ?_).mono ?_
   ·simp [Eu (Nat.le_of_lt hk'),aH,b5,xu]
   ·rintro j hj _ ⟨x4,rfl⟩
    have hj':j < k:=by simpa [lD] using hj
    have ej:(lD (List.range k))[j] = .int (j:Int):=by simp [lD]
    rw [ej,bZ]
    refine ⟨by simp,?_⟩
    have L1:Lb n (gN (mt hs) k j (jO (mt hs) k (List.range n))):=(pH hk' j _ (by omega) L0).1
    have c:=ec hk' (show j < n by omega)
    have lkd:=Ed (L:=gN (mt hs) k j (jO (mt hs) k (List.range n))) (by rw [L1.1]; omega) (i:=k) (j:=j) (by rw [L1.1]; exact hk') (by rw [L1.1]; omega)
    refine mW (fun b δ => b = mt hs k j ∧ δ = [.pu lay,.pu (.lst (lD (List.range n))),.pu (.tup (lD (gN (mt hs) k j (jO (mt hs) k (List.range n))))),.pu (.int (k:Int)),.pu (.int (j:Int))]) ?_ ?_ ?_
    ·simp [au,c,cv,hD,mt]
    ·rintro _ ⟨q,rfl⟩
     simp [au,lkd,gN,q.symm]
    ·rintro _ ⟨q,rfl⟩
     simp [gN,q.symm]
   ·rintro _ ⟨x4,rfl⟩
    refine ⟨rfl,.pu (.int (k:Int)),x4,?_⟩
    rw [show (lD (List.range k)).length = k by simp [lD]]
    rfl
   ·rintro fl δ ⟨rfl,h⟩
    exact h
  ·rintro _ ⟨x3,x4,rfl⟩
   rw [show (lD (List.range n)).length = n by simp [lD]]
   exact ⟨rfl,_,_,rfl⟩
 ·rintro _ ⟨x3,x4,rfl⟩
  have L2:=lZ (mt hs) n
  simp only [ar]
  refine aO (List.range n) (fun (l:Nat) => .int (l:Int)) (fun l => if decide ((cw (mt hs) n).getD l 0 = l) = true then some (.tup (lD (pc (cw (mt hs) n) n l))) else none) rfl (by simp [aH,b5,lD]) (by simp; omega) (fun l hl => ?_) ?_
  ·have hl':=List.mem_range.mp hl
   have g:=mJ (L:=cw (mt hs) n) (i:=l) (by rw [L2.1]; exact hl')
   have d:=di false ((cw (mt hs) n).getD l 0) l
   simp only [cM,bZ]
   refine ⟨by simp,?_⟩
   by_cases q:(cw (mt hs) n).getD l 0 = l
   ·refine (show Ok _ _ fun b δ => b = true ∧ δ = [.pu lay,.pu (.lst (lD (List.range n))),.pu (.tup (lD (cw (mt hs) n))),x3,x4,.pu (.int (l:Int))] by simp [-List.getD_eq_getElem?_getD,g,di,q]).mono fun b δ h => ?_
    obtain ⟨rfl,rfl⟩:=h
    rw [if_pos rfl]
    simp only [ar,cF,aV,ax]
    refine aO (List.range n) (fun (k:Nat) => .int (k:Int)) (fun k => if decide ((cw (mt hs) n).getD k 0 = l) = true then some (.int (k:Int)) else none) rfl (by simp [aH,b5,lD]) (by simp; omega) (fun k hk => ?_) ?_
    ·have g:=mJ (L:=cw (mt hs) n) (i:=k) (by rw [L2.1]; exact List.mem_range.mp hk)
     have d:=di false ((cw (mt hs) n).getD k 0) l
     by_cases q:(cw (mt hs) n).getD k 0 = l
     ·simp [-List.getD_eq_getElem?_getD,g,di,q]
     ·simp [-List.getD_eq_getElem?_getD,g,di,q]
    ·rw [br]
     simp [-List.getD_eq_getElem?_getD,bp,pc,lD,q]
   ·refine (show Ok _ _ fun b δ => b = false ∧ δ = [.pu lay,.pu (.lst (lD (List.range n))),.pu (.tup (lD (cw (mt hs) n))),x3,x4,.pu (.int (l:Int))] by simp [-List.getD_eq_getElem?_getD,g,di,q]).mono fun b δ h => ?_
    obtain ⟨rfl,rfl⟩:=h
    simp [-List.getD_eq_getElem?_getD,q]
  ·rw [br]
   simp [-List.getD_eq_getElem?_getD,i8,Function.comp_def]
end K04
namespace K04
open PySem L2 Jt
variable {hs:List (List Int)} {ls:List Nat}
theorem c6 (neg:Bool) (a b:Int):cn neg (.int a) (.int b) = some (.bl (if neg then !decide (a = b) else decide (a = b))):= by
 simp [cn,flat,kc]
theorem ir (neg:Bool) (a b:Bool):cn neg (.bl a) (.bl b) = some (.bl (if neg then !decide (a = b) else decide (a = b))):= by
 cases a <;> cases b <;> cases neg <;> rfl
theorem v5 {n:Nat} (ls:List Nat):(lD ls).all (bF n) = ls.all fun i => decide (i < n):= by
 unfold lD
 rw [List.all_map]
 refine List.all_congr rfl fun i => ?_
 simp [bF]
theorem k_:∀ l:List Int,(fM l).length = l.length ↔ l.Nodup
 | [] => by simp [fM]
 | x :: r => by
  have h1:=qU r
  unfold fM
  rw [List.nodup_cons,<- k_ r]
  split
  ·rename_i h
   rw [cN] at h
   constructor
   ·intro e; rw [List.length_cons] at e; omega
   ·exact fun q => absurd h q.1
  ·rename_i h
   rw [cN] at h
   simp [h]
theorem oB {ls:List Nat}:(ls.map fun (i:Nat) => (i:Int)).Nodup ↔ ls.Nodup:= by
 constructor
 ·intro h
  exact List.Pairwise.of_map (S:=(· ≠ ·)) _ (fun a b hab e => hab (by rw [e])) h
 ·intro h
  exact List.Pairwise.map _ (fun a b hab e => hab (Int.ofNat_inj.mp e)) h
theorem fm (ls:List Nat):dt (lD ls) = some (ls.map fun (i:Nat) => (i:Int)):= by
 have:lD ls = (ls.map fun (i:Nat) => (i:Int)).map .int:=by simp [lD]
 rw [this,fY]
theorem E8 (ls:List Nat) (h:ls.length ≤ 60):aE zr vD [.tup (lD ls)] = some (.bl (decide ls.Nodup)):= by
 apply bt
 show Ok vD [.pu (.tup (lD ls))] _
 unfold vD
 have h2:ls.length < 4000:=by omega
 have e:((fM (ls.map fun (i:Nat) => (i:Int))).length = ls.length) = ls.Nodup:= by
  have:=k_ (ls.map fun (i:Nat) => (i:Int))
  rw [List.length_map] at this
  exact propext (this.trans oB)
 simp only [ar,eB,ve,cg,cF,aV,ax,List.getElem?_cons_zero,Option.some.injEq,Jt.Slot.pu.injEq,exists_eq_left']
 simp [b5,md,fm,h2,bG,c6,ir]
 rw [show (lD ls).length = ls.length by simp [lD]]
 simp only [Int.natCast_inj,show ∀ a b:Nat,((a:Int) = (b:Int)) = (a = b) from fun a b => propext Int.ofNat_inj,e]
def Good (n:Nat) (ls:List Nat):Prop:=ls.length = n ∧ ls.Nodup ∧ ∀ i ∈ ls,i < n
theorem xb {ls ls':List Nat} (e:lD ls = lD ls'):ls = ls':= by
 have:=congrArg dt e
 rw [fm,fm] at this
 exact List.map_inj_right (fun a b q => Int.ofNat_inj.mp q) |>.mp (Option.some.inj this)
theorem Fp {x:D} (n:Nat) (h:Short x):∃ b,aE yp l8 [x,.int n] = some (.bl b) ∧ (b = true ↔ ∃ ls,x = .tup (lD ls) ∧ Good n ls):= by
 cases hb:iX n x with
 | false =>
  refine ⟨false,bt ?_,?_⟩
  ·show Ok l8 [.pu x,.pu (.int n)] _
   unfold l8
   simp [au,x9 _ h,hb]
  ·simp only [Bool.false_eq_true,false_iff]
   rintro ⟨ls,rfl,_,_,h3⟩
   rw [iX,v5] at hb
   rw [List.all_eq_false] at hb
   obtain ⟨i,hi,hi2⟩:=hb
   exact hi2 (decide_eq_true (h3 i hi))
 | true =>
  cases x with
  | tup xs =>
   obtain ⟨ls,rfl,hl⟩:=gy hb
   have hlen:ls.length ≤ 60:=by simpa [lD] using h _ rfl
   have ei:((ls.length:Int) = (n:Int)) = (ls.length = n):=propext Int.ofNat_inj
   by_cases q:ls.length = n
   ·refine ⟨decide ls.Nodup,bt ?_,?_⟩
    ·show Ok l8 [.pu (.tup (lD ls)),.pu (.int n)] _
     unfold l8
     simp [au,x9 _ h,hb,bG,c6,ir,q,E8 _ hlen,iZ]
    ·rw [decide_eq_true_eq]
     constructor
     ·intro hn; exact ⟨ls,rfl,q,hn,hl⟩
     ·rintro ⟨ls',e,_,h2,_⟩
      rw [xb (D.tup.inj e)]; exact h2
   ·refine ⟨false,bt ?_,?_⟩
    ·show Ok l8 [.pu (.tup (lD ls)),.pu (.int n)] _
     unfold l8
     simp only [ar,xD,cF,aV,cg,ax,eB,List.getElem?_cons_zero,List.getElem?_cons_succ,Option.some.injEq,Jt.Slot.pu.injEq,exists_eq_left']
     simp [au,x9 _ h,hb,bG,c6,ir,iZ,ei,q]
    ·simp only [Bool.false_eq_true,false_iff]
     rintro ⟨ls',e,h1,_⟩
     rw [<- xb (D.tup.inj e)] at h1
     exact q h1
  | _ => cases hb
theorem vJ:∀ (n:Nat) (ls:List Nat),ls.Nodup -> (∀ i ∈ ls,i < n) -> ls.length ≤ n
 | 0,[],_,_ => Nat.le_refl _
 | 0,a :: r,_,h => absurd (h a List.mem_cons_self) (Nat.not_lt_zero a)
 | n + 1,ls,hn,h => by
  have h1:=vJ n (ls.erase n) (hn.erase n) fun i hi => by
   have:=(hn.mem_erase_iff).mp hi
   have:=h i this.2
   omega
  rw [List.length_erase] at h1
  split at h1 <;> omega
def pl (os:List Nat) (c:Int):Int:=((os.idxOf c.toNat:Nat):Int)
variable {M:Nat} {os:List Nat}
theorem j8 (h:Good M os) {c:Nat} (hc:c < M):c ∈ os:= by
 obtain ⟨h1,h2,h3⟩:=h
 refine Decidable.byContradiction fun q => ?_
 have:=vJ M (c :: os) (List.nodup_cons.mpr ⟨q,h2⟩) fun i hi => by
  rcases List.mem_cons.mp hi with rfl | hi
  ·exact hc
  ·exact h3 i hi
 rw [List.length_cons] at this
 omega
theorem jA (h:Good M os) {c:Nat} (hc:c < M):∃ q:os.idxOf c < os.length,os[os.idxOf c] = c:=⟨List.idxOf_lt_length_iff.mpr (j8 h hc),List.getElem_idxOf _⟩
theorem ra (h:Good M os) {a b:Nat} (ha:a < M) (hb:b < M) (e:os.idxOf a = os.idxOf b):a = b:= by
 obtain ⟨q1,e1⟩:=jA h ha
 obtain ⟨q2,e2⟩:=jA h hb
 rw [<- e1,<- e2]
 simp only [e]
theorem yD {l:List Nat} (hn:l.Nodup) {k:Nat} (hk:k < l.length):l.idxOf l[k] = k:= by
 have h1:l.idxOf l[k] < l.length:=List.idxOf_lt_length_iff.mpr (List.getElem_mem hk)
 exact (List.getElem_inj hn).mp (List.getElem_idxOf h1)
def bk (M:Nat) (os:List Nat):List Nat:=(List.range M).map fun c => os.idxOf c
theorem qZ (h:Good M os):Good M (bk M os):= by
 refine ⟨by simp [bk],?_,fun i hi => ?_⟩
 ·unfold bk List.Nodup
  rw [List.pairwise_map]
  exact List.Pairwise.imp_of_mem (fun {a b} ha hb q e => q (ra h (List.mem_range.mp ha) (List.mem_range.mp hb) e)) List.nodup_range
 ·obtain ⟨c,hc,rfl⟩:=List.mem_map.mp hi
  obtain ⟨q,_⟩:=jA h (List.mem_range.mp hc)
  rw [h.1] at q
  exact q
theorem B0 (h:Good M os) {c:Nat} (hc:c < M):(bk M os).idxOf (os.idxOf c) = c:= by
 have g:=qZ h
 have hl:c < (bk M os).length:=by rw [g.1]; exact hc
 have e:(bk M os)[c] = os.idxOf c:=by simp [bk]
 have:=yD g.2.1 hl
 rwa [e] at this
theorem DR (h:Good M os) {c:Int} (h0:0 ≤ c) (h1:c < M):0 ≤ pl os c ∧ pl os c < M:= by
 obtain ⟨q,_⟩:=jA h (c:=c.toNat) (by omega)
 rw [h.1] at q
 unfold pl
 omega
theorem vQ (h:Good M os) {a b:Int} (ha:0 ≤ a ∧ a < M) (hb:0 ≤ b ∧ b < M) (e:pl os a = pl os b):a = b:= by
 have:=ra h (a:=a.toNat) (b:=b.toNat) (by omega) (by omega) (by unfold pl at e; omega)
 omega
theorem xJ (h:Good M os) {a:Int} (ha:0 ≤ a ∧ a < M):pl (bk M os) (pl os a) = a:= by
 have:=B0 h (c:=a.toNat) (by omega)
 unfold pl
 rw [Int.toNat_natCast,this]
 omega
def nm (os:List Nat) (hs:List (List Int)):List (List Int):=hs.map fun h => bA (h.map (pl os))
theorem ot (g:Good M os) {h:List Int} (hn:h.Nodup) (hb:∀ c ∈ h,0 ≤ c ∧ c < M):(h.map (pl os)).Nodup:= by
 unfold List.Nodup
 rw [List.pairwise_map]
 exact List.Pairwise.imp_of_mem (fun {a b} ha hb' q e => q (vQ g (hb a ha) (hb b hb') e)) hn
theorem uV {m:Int} {h:List Int} (H:c7 m h):h.Nodup:=H.2.1.imp fun {a b} q e => by omega
theorem qB {h:List Int} (H:h.Pairwise (· < ·)):h.Pairwise (· ≤ ·):=H.imp fun {a b} q => by omega
theorem zX (g:Good M os) {h:List Int} (H:c7 M h):c7 M (bA (h.map (pl os))):= by
 refine ⟨fun e => ?_,jX (ot g (uV H) H.2.2),fun c hc => ?_⟩
 ·have:=congrArg List.length e
  rw [eA,List.length_map,List.length_nil] at this
  exact H.1 (List.length_eq_zero_iff.mp this)
 ·obtain ⟨a,ha,rfl⟩:=List.mem_map.mp (d7.mp hc)
  exact DR g (H.2.2 a ha).1 (H.2.2 a ha).2
theorem yR (g:Good M os) {h:List Int} (H:c7 M h):bA ((bA (h.map (pl os))).map (pl (bk M os))) = h:= by
 refine (fK ?_ (qB H.2.1)).symm
 have e:(h.map (pl os)).map (pl (bk M os)) = h:= by
  rw [List.map_map]
  exact (List.map_congr_left fun a ha => xJ g (H.2.2 a ha)).trans (List.map_id h)
 have p:=((cW (h.map (pl os))).map (pl (bk M os))).symm
 rwa [e] at p
theorem jh {a:Nat} (ha:a < hs.length):G hs a ∈ hs:= by
 have:G hs a = hs[a]:=by simp [G,ha]
 rw [this]; exact List.getElem_mem ha
theorem BL {a:Nat} (ha:a < hs.length):G (nm os hs) a = bA ((G hs a).map (pl os)):=by simp [G,nm,ha]
theorem cu {a b:Nat} {c:Int}:c ∈ bL hs a b ↔ c ∈ G hs a ∧ c ∈ G hs b:=by simp [bL,List.mem_filter]
theorem hX {a b:Nat} (H:(G hs a).Pairwise (· < ·)):(bL hs a b).Pairwise (· < ·):=List.Pairwise.filter _ H
theorem ip {h:List Int} (H:h.Pairwise (· < ·)):h.Nodup:=H.imp fun {a b} q e => by omega
theorem mV (g:Good M os) (H:∀ h ∈ hs,c7 M h) {a b:Nat} (ha:a < hs.length) (hb:b < hs.length):bL (nm os hs) a b = bA ((bL hs a b).map (pl os)):= by
 have Ha:=H _ (jh ha)
 have Hb:=H _ (jh hb)
 have up:(G (nm os hs) a).Pairwise (· < ·):= by
  rw [BL ha]
  exact (zX g Ha).2.1
 refine fK ?_ (qB (hX up))
 refine (List.perm_ext_iff_of_nodup (ip (hX up)) (ot g (ip (hX Ha.2.1)) fun c hc => Ha.2.2 c (cu.mp hc).1)).mpr fun x => ?_
 rw [cu,BL ha,BL hb,d7,d7,List.mem_map,List.mem_map,List.mem_map]
 constructor
 ·rintro ⟨⟨c,hc,rfl⟩,c',hc',e⟩
  have:=vQ g (Hb.2.2 c' hc') (Ha.2.2 c hc) e
  subst this
  exact ⟨c',cu.mpr ⟨hc,hc'⟩,rfl⟩
 ·rintro ⟨c,hc,rfl⟩
  obtain ⟨h1,h2⟩:=cu.mp hc
  exact ⟨⟨c,h1,rfl⟩,c,h2,rfl⟩
theorem sF {m:Int} (H:∀ h ∈ hs,c7 m h) {a b:Nat} (ha:a < hs.length) (hb:b < hs.length):bL hs a b = bL hs b a:= by
 have u1:=hX (b:=b) (H _ (jh ha)).2.1
 have u2:=hX (b:=a) (H _ (jh hb)).2.1
 refine iz ((List.perm_ext_iff_of_nodup (ip u1) (ip u2)).mpr fun x => ?_) (qB u1) (qB u2)
 rw [cu,cu,and_comm]
theorem jB {α:Type} (a:List α):a.isEmpty = decide (a.length = 0):=by cases a <;> rfl
theorem DZ (g:Good M os) (H:∀ h ∈ hs,c7 M h) {a b:Nat} (ha:a < hs.length) (hb:b < hs.length):mt (nm os hs) a b = mt hs a b:= by
 unfold mt
 rw [mV g H ha hb,jB,jB,eA,List.length_map]
theorem xX (hs:List (List Int)) (a b:Nat):mt hs a b = mt hs b a:= by
 have h:∀ a b,mt hs a b = true -> mt hs b a = true:=fun a b e => by
  unfold mt at *
  cases q:bL hs a b with
  | nil => rw [q] at e; cases e
  | cons x r =>
   have hx:x ∈ bL hs a b:=by rw [q]; exact List.mem_cons_self
   obtain ⟨h1,h2⟩:=cu.mp hx
   have hx':=cu.mpr ⟨h2,h1⟩
   cases q':bL hs b a with
   | nil => rw [q'] at hx'; cases hx'
   | cons y r' => rfl
 cases e1:mt hs a b <;> cases e2:mt hs b a
 ·rfl
 ·rw [h b a e2] at e1; cases e1
 ·rw [h a b e1] at e2; cases e2
 ·rfl
theorem BJ (g:Good M os) (H:∀ h ∈ hs,c7 M h):i8 (mt (nm os hs)) hs.length = i8 (mt hs) hs.length:=sV fun i j hi hj => DZ g H hi hj
def gM (hs:List (List Int)):List (List Int):=[0,1] :: [1] :: hs.map fun h => h.map fun c => 2 + c
theorem nq {k:Nat} (hk:k < hs.length):G (gM hs) (k + 2) = (G hs k).map fun c => 2 + c:=by simp [G,gM,hk]
theorem yG {m:Int} {h:List Int} (H:c7 m h):bA (h.map fun c => 2 + c) = h.map fun c => 2 + c:= by
 refine (fK (List.Perm.refl _) ?_).symm
 rw [List.pairwise_map]
 exact H.2.1.imp fun {a b} q => by omega
theorem mh {c:Int} {h:List Int}:(c ∈ h.map fun c => 2 + c) ↔ c - 2 ∈ h:= by
 rw [List.mem_map]
 constructor
 ·rintro ⟨x,hx,rfl⟩
  rwa [show 2 + x - 2 = x by omega]
 ·exact fun h => ⟨_,h,by omega⟩
theorem y6 {m:Int} (H:∀ h ∈ hs,c7 m h):EU (mt hs) (mt (gM hs)) hs.length:= by
 have no:∀ i b,i < hs.length -> (∀ c:Int,2 ≤ c -> c ∉ G (gM hs) b) -> mt (gM hs) (i + 2) b = false:=fun i b hi q => by
  have:bL (gM hs) (i + 2) b = []:= by
   refine List.eq_nil_iff_forall_not_mem.mpr fun c hc => ?_
   obtain ⟨h1,h2⟩:=cu.mp hc
   rw [nq hi,mh] at h1
   have:=((H _ (jh hi)).2.2 _ h1).1
   exact q c (by omega) h2
  unfold mt
  rw [this]
  rfl
 refine ⟨rfl,fun i hi => no i 0 hi fun c hc h => ?_,fun i hi => no i 1 hi fun c hc h => ?_,fun i j hi hj => ?_⟩
 ·have h:c ∈ ([0,1]:List Int):=h
  simp at h
  omega
 ·have h:c ∈ ([1]:List Int):=h
  simp at h
  omega
 ·unfold mt bL
  rw [nq hi,nq hj,List.filter_map,jB,jB,List.length_map]
  congr 3
  refine congrArg List.length (List.filter_congr fun c _ => ?_)
  show decide (2 + c ∈ _) = _
  refine decide_eq_decide.mpr ?_
  rw [mh,show 2 + c - 2 = c by omega]
theorem yA {m:Int} (H:∀ h ∈ hs,c7 m h):i8 (mt (gM hs)) (hs.length + 2) = [0,1] :: (i8 (mt hs) hs.length).map (·.map (· + 2)):=qf (y6 H)
theorem vy {m:Int} (H:∀ h ∈ hs,c7 m h):tF (gM hs) 1 = [0,1]:= by
 unfold tF
 have hl:(gM hs).length = hs.length + 2:=by simp [gM]
 rw [hl,iL,List.filter_cons,if_pos (show decide ((1:Int) ∈ G (gM hs) 0) = true from (by decide:decide ((1:Int) ∈ ([0,1]:List Int)) = true)),List.filter_cons,if_pos (show decide ((1:Int) ∈ G (gM hs) 1) = true from (by decide:decide ((1:Int) ∈ ([1]:List Int)) = true))]
 congr 2
 refine List.filter_eq_nil_iff.mpr fun k hk => ?_
 obtain ⟨j,hj,rfl⟩:=List.mem_map.mp hk
 have hj':=List.mem_range.mp hj
 rw [nq hj',decide_eq_true_eq,mh]
 intro q
 have:=((H _ (jh hj')).2.2 _ q).1
 omega
theorem vz:tF (gM hs) 2 = (tF hs 0).map (· + 2):= by
 unfold tF
 have hl:(gM hs).length = hs.length + 2:=by simp [gM]
 rw [hl,iL,List.filter_cons,if_neg (show ¬ decide ((2:Int) ∈ G (gM hs) 0) = true from (by decide:¬ decide ((2:Int) ∈ ([0,1]:List Int)) = true)),List.filter_cons,if_neg (show ¬ decide ((2:Int) ∈ G (gM hs) 1) = true from (by decide:¬ decide ((2:Int) ∈ ([1]:List Int)) = true)),List.filter_map]
 congr 1
 refine List.filter_congr fun k hk => ?_
 show decide ((2:Int) ∈ G (gM hs) (k + 2)) = _
 rw [nq (List.mem_range.mp hk)]
 refine decide_eq_decide.mpr ?_
 rw [mh]
 exact Iff.rfl
theorem qu {g k:Nat} (hk:k + 1 < hs.length):G (hs.eraseIdx g) k = G hs (if k < g then k else k + 1):= by
 unfold G
 rw [List.getD_eq_getElem?_getD,List.getElem?_eraseIdx]
 split <;> rw [List.getD_eq_getElem?_getD]
theorem pe {g a b:Nat} (ha:a + 1 < hs.length) (hb:b + 1 < hs.length):bL (hs.eraseIdx g) a b = bL hs (if a < g then a else a + 1) (if b < g then b else b + 1):= by
 unfold bL
 rw [qu ha,qu hb]
theorem nF:∀ n,n < 7 -> ∀ g,g < n -> ∀ k,k < n - 1 -> ((List.range n).filter fun i => decide (i ≠ g))[k]? = some (if k < g then k else k + 1):=by decide
end K04
namespace K04
open PySem L2 Jt
variable {hs:List (List Int)} {ls os:List Nat} {M:Nat}
theorem wZ {α:Type} {lo own:Nat} {δ:DS} {fi:Jt.M jn} {turn:D -> Jt.M (Option (Int × Int))} {Q:D -> DS -> Prop} (as:List α) (e:α -> D) (g:α -> Option (Int × Int)) (hl:δ.length = lo) (hi:Ok fi δ fun it δ' => it = aW (as.map e) ∧ δ' = δ) (hn:as.length ≤ 100000)
  (ht:∀ a ∈ as,Ok (turn (e a)) (δ ++ List.replicate own .un) fun o δ2 => o = g a ∧ δ2.take lo = δ) (hQ:Q (.dic (as.foldl (fun acc a => zA acc (g a)) [])) δ):Ok (ka lo own fi turn) δ Q:= by
 have gen:∀ (es:List α) (acc:List (Int × Int)),(∀ d ∈ es,d ∈ as) -> fz own turn (fun _ => true) (aW (es.map e)).1 acc δ = some (es.foldl (fun acc a => zA acc (g a)) acc,δ):= by
  intro es
  induction es with
  | nil => intro acc _; rfl
  | cons d es ih =>
   intro acc hs
   obtain ⟨o,δ2,e1,e0,e2⟩:=ht d (hs d List.mem_cons_self)
   show fz own turn (fun _ => true) ((fun _ => some (e d)) :: (aW (es.map e)).1) acc δ = _
   unfold fz
   dsimp only
   rw [e1]
   dsimp only
   rw [hl,e2,ih _ fun x hx => hs x (List.mem_cons_of_mem _ hx),e0]
   rfl
 unfold ka
 simp only [ar]
 refine ⟨(),δ,by unfold h9; rw [if_pos hl],hi.mono fun it δ' ⟨e1,e2⟩ => ?_⟩
 subst e1; subst e2
 refine i3.mpr ⟨by simpa [aW] using hn,_,δ',gen as [] fun _ h => h,?_⟩
 exact ax.mpr hQ
theorem kG (ns:List Int) (h:ns.length ≤ 60):sortI (ns.map .int) = some ((bA ns).map .int):= by
 unfold sortI
 rw [fY]
 exact if_pos (by omega)
theorem zJ {places:D} {pf:Int -> Int} (hp:∀ h ∈ hs,∀ c ∈ h,tE places (.int c) = some (.int (pf c))) (h6:hs.length ≤ 6) (h7:∀ h ∈ hs,h.length ≤ 7):aE g6 lq [.tup (hs.map hD),places] = some (.tup ((hs.map fun h => bA (h.map pf)).map hD)):= by
 apply bt
 show Ok lq [.pu (.tup (hs.map hD)),.pu places] _
 unfold lq
 simp only [ar,cF,aV,ax]
 refine aO hs hD (fun h => some (hD (bA (h.map pf)))) rfl (by simp [aH,b5]) (by omega) (fun h hh => ?_) ?_
 ·simp only [cM,bZ]
  refine ⟨by simp,?_⟩
  simp only [ax,if_true,ar,cF,aV,ve]
  have l7:=h7 h hh
  refine aO h .int (fun c => some (.int (pf c))) rfl (by simp [g_]) (by omega) (fun c hc => ?_) ?_
  ·have:=hp h hh c hc
   simp [this]
  ·have:=kG (h.map pf) (by simpa using Nat.le_trans l7 (by decide))
   rw [List.map_map] at this
   simp [b5,List.filterMap_eq_map,Function.comp_def] at this ⊢
   simp [this,bp,hD]
 ·simp [bp,List.filterMap_eq_map,Function.comp_def]
def tN:Nat -> List Nat -> List (Int × Int)
 | _,[] => []
 | n,c :: r => ((c:Int),(n:Int)) :: tN (n + 1) r
theorem m_:∀ (os:List Nat) (n:Nat),iR n (lD os) = (tN n os).map fun p => .tup [.int p.2,.int p.1]
 | [],_ => rfl
 | c :: r,n => by
  show D.tup [.int (n:Int),.int (c:Int)] :: iR (n + 1) (lD r) = _
  rw [m_ r (n + 1)]
  rfl
theorem oa:∀ (os:List Nat) (n:Nat),(tN n os).map (·.1) = os.map fun (i:Nat) => (i:Int)
 | [],_ => rfl
 | c :: r,n => by
  show (c:Int) :: (tN (n + 1) r).map (·.1) = _
  rw [oa r (n + 1)]
  rfl
theorem qw:∀ (os:List Nat) (n:Nat),(tN n os).length = os.length
 | [],_ => rfl
 | c :: r,n => by
  show (tN (n + 1) r).length + 1 = _
  rw [qw r (n + 1)]
  rfl
theorem yK {acc:List (Int × Int)} {k v:Int} (h:k ∉ acc.map (·.1)):kL acc k v = acc ++ [(k,v)]:= by
 unfold kL
 rw [if_neg]
 intro q
 obtain ⟨p,hp,e⟩:=List.any_eq_true.mp q
 exact h (List.mem_map.mpr ⟨p,hp,of_decide_eq_true e⟩)
theorem qx:∀ (ps acc:List (Int × Int)),((acc ++ ps).map (·.1)).Nodup -> ps.foldl (fun acc a => zA acc (some (a.1,a.2))) acc = acc ++ ps
 | [],acc,_ => (List.append_nil _).symm
 | p :: ps,acc,h => by
  have hn:p.1 ∉ acc.map (·.1):= by
   rw [List.map_append,List.nodup_append] at h
   intro q
   exact h.2.2 _ q _ (List.mem_map.mpr ⟨p,List.mem_cons_self,rfl⟩) rfl
  show ps.foldl _ (kL acc p.1 p.2) = _
  rw [yK hn,qx ps (acc ++ [(p.1,p.2)]) (by rwa [List.append_assoc])]
  rw [List.append_assoc]
  rfl
theorem nZ:∀ (os:List Nat) (n:Nat) (c:Nat),c ∈ os -> jb (tN n os) (c:Int) = some ((n + os.idxOf c:Nat):Int)
 | d :: r,n,c,h => by
  unfold jb
  show Option.map (·.2) (List.find? (fun p => decide (p.1 = (c:Int))) (((d:Int),(n:Int)) :: tN (n + 1) r)) = _
  rw [List.find?_cons]
  by_cases q:d = c
  ·subst q
   simp
  ·have q':¬ ((d:Int) = (c:Int)):=fun z => q (Int.ofNat_inj.mp z)
   have hc:c ∈ r:= by
    rcases List.mem_cons.mp h with e | e
    ·exact absurd e.symm q
    ·exact e
   have ih:=nZ r (n + 1) c hc
   unfold jb at ih
   simp only [q',decide_false]
   have hb:(d == c) = false:=by simp [q]
   rw [ih,List.idxOf_cons,hb,show n + 1 + r.idxOf c = n + (r.idxOf c + 1) by omega]
   rfl
theorem zY (g:Good M os) (hM:M ≤ 7) (h6:hs.length ≤ 6) (H:∀ h ∈ hs,c7 M h) (h7:∀ h ∈ hs,h.length ≤ 7):aE i9 kX [aJ M hs,.tup (lD os)] = some (aJ M (nm os hs)):= by
 apply bt
 show Ok kX [.pu (aJ M hs),.pu (.tup (lD os)),.un,.un] _
 unfold kX
 have sh:Short (.tup (lD os)):=fun xs e => by cases e; rw [iZ,g.1]; omega
 obtain ⟨b,e0,hb⟩:=Fp M sh
 have hb:b = true:=hb.mpr ⟨os,rfl,g⟩
 subst hb
 have mv:=zJ (hs:=hs) (places:=.dic (tN 0 os)) (pf:=pl os) (fun h hh c hc => by
  have b:=(H h hh).2.2 c hc
  obtain ⟨k,rfl⟩:∃ k:Nat,c = (k:Int):=⟨c.toNat,by omega⟩
  show (jb (tN 0 os) (k:Int)).map D.int = _
  rw [nZ os 0 k (j8 g (by omega))]
  simp [pl]) h6 h7
 refine aK (fun δ => δ = [.pu (aJ M hs),.pu (.tup (lD os)),.pu (.int M),.pu (.tup (hs.map hD))]) (by unfold aJ; simp [dz,bw,c9]) ?_
 rintro _ rfl
 refine bT false ?_ (fun h => by cases h) fun _ => ?_
 ·simp [au,e0,cv]
 ·simp only [ar,qS,cF,aV,ax,cg,List.getElem?_cons_zero,List.getElem?_cons_succ,Option.some.injEq,Jt.Slot.pu.injEq,exists_eq_left']
  refine wZ (tN 0 os) (fun p => .tup [.int p.2,.int p.1]) (fun p => some (p.1,p.2)) rfl ?_ (by rw [qw,g.1]; omega) (fun p _ => ?_) ?_
  ·simp [iV,kM,m_]
  ·unfold lU
   simp [dz,bw,c9]
  ·rw [qx (tN 0 os) [] (by rw [List.nil_append,oa]; exact oB.mpr g.2.1),List.nil_append]
   simp [au,mv,aJ,nm]
theorem vT {n:Nat} {c:Int} (h0:0 ≤ c) (h1:c < n):tE (.lst (bC 2 n)) (.int c) = some (.int (2 + c)):= by
 obtain ⟨k,rfl⟩:∃ k:Nat,c = (k:Int):=⟨c.toNat,by omega⟩
 show jC _ _ = _
 rw [eK _ _ (by simp [bC]; omega)]
 simp [bC]
def eF:D:=.tup [.int 2,.tup [.tup [.int 0,.int 1],.tup [.int 1]]]
theorem Eb (hM:M ≤ 5) (h4:hs.length ≤ 4) (H:∀ h ∈ hs,c7 M h) (h7:∀ h ∈ hs,h.length ≤ 7):aE qy nQ [eF,aJ M hs] = some (aJ ((2 + M:Nat):Int) (gM hs)):= by
 apply bt
 show Ok nQ [.pu eF,.pu (aJ M hs),.un,.un] _
 unfold nQ
 have mv:=zJ (hs:=hs) (places:=.lst (bC 2 M)) (pf:=fun c => 2 + c) (fun h hh c hc => vT ((H h hh).2.2 c hc).1 ((H h hh).2.2 c hc).2) (by omega) h7
 have e2:(hs.map fun h => bA (h.map fun c => 2 + c)) = hs.map fun h => h.map fun c => 2 + c:=List.map_congr_left fun h hh => yG (H h hh)
 rw [e2] at mv
 have s0:dj eF (.int 0) = some (.int 2):=rfl
 have s1:dj eF (.int 1) = some (.tup [hD [0,1],hD [1]]):=rfl
 have l0:=g9 (M:Int) hs
 have l1:=cJ (M:Int) hs
 generalize hl:aJ M hs = lay at *
 generalize eF = sm at *
 refine aK (fun δ => δ = [.pu sm,.pu lay,.pu (.int ((2 + M:Nat):Int)),.un]) (by simp [s0,l0,de,bO]) ?_
 rintro _ rfl
 have er:lP [.int 2,.int ((2 + M:Nat):Int)] = some (bC 2 M):= by
  have gen:∀ j:Int,j < 100000 -> 0 ≤ j -> lP [.int 2,.int j] = some (bC 2 (j - 2).toNat):=fun j h1 h2 => by
   simp only [lP]
   rw [if_pos ⟨by decide,by decide,h1,by omega⟩]
  rw [gen _ (by omega) (by omega),show (((2 + M:Nat):Int) - 2).toNat = M by omega]
 have ec:kr (.tup [hD [0,1],hD [1]]) (.tup ((hs.map fun h => h.map fun c => 2 + c).map hD)) = some (.tup ((gM hs).map hD)):= by
  show (if 2 + ((hs.map fun h => h.map fun c => 2 + c).map hD).length ≤ 100000 then _ else _) = _
  rw [if_pos (by simp; omega)]
  rfl
 generalize hB:(hs.map fun h => h.map fun c => 2 + c) = B at *
 refine aK (fun δ => δ = [.pu sm,.pu lay,.pu (.int ((2 + M:Nat):Int)),.pu (.tup ((gM hs).map hD))]) ?_ ?_
 ·generalize ((2 + M:Nat):Int) = z at *
  generalize bC 2 M = R at *
  generalize hD [0,1] = d0 at *
  generalize hD [1] = d1 at *
  simp [s0,s1,l1,er,au,mv,ec]
 rintro _ rfl
 refine bT false ?_ (fun h => by cases h) fun _ => ?_
 ·have q1:¬ ((7:Int) < ((2 + M:Nat):Int)):=by omega
  have q2:¬ ((6:Int) < (((gM hs).map hD).length:Int)):=by simp [gM]; omega
  generalize ((2 + M:Nat):Int) = z at *
  simp [l_,bO,bG,q1]
  simpa using q2
 ·simp [aJ]
theorem D0 (m:Int) {g:Nat} (hg:g < hs.length) (h2:2 < hs.length) (h6:hs.length ≤ 6):aE rA oz [aJ m hs,.int (g:Int)] = some (aJ m (hs.eraseIdx g)):= by
 apply bt
 show Ok oz [.pu (aJ m hs),.pu (.int (g:Int)),.un,.un] _
 unfold oz
 have n1:=pF m hg
 refine aK (fun δ => δ = [.pu (aJ m hs),.pu (.int (g:Int)),.un,.un]) (by simp [au,n1]) ?_
 rintro _ rfl
 refine aK (fun δ => δ = [.pu (aJ m hs),.pu (.int (g:Int)),.pu (.int m),.pu (.tup (hs.map hD))]) (by unfold aJ; simp [dz,bw,c9]) ?_
 rintro _ rfl
 generalize hl:aJ m hs = lay
 have q1:¬ ((hs.length:Int) = 1):=by omega
 refine bT false (by simp [bG,c6,q1]) (fun h => by cases h) fun _ => ?_
 have c1:CU (.tup (hs.map hD)) none (some (g:Int)) = some (.tup ((hs.take g).map hD)):= by
  show some (D.tup (cutD _ _ _)) = _
  rw [uR,List.map_take]
 have c2:CU (.tup (hs.map hD)) (some ((g + 1:Nat):Int)) none = some (.tup ((hs.drop (g + 1)).map hD)):= by
  show some (D.tup (cutD _ _ _)) = _
  rw [wO,List.map_drop]
 have c3:kr (.tup ((hs.take g).map hD)) (.tup ((hs.drop (g + 1)).map hD)) = some (.tup ((hs.eraseIdx g).map hD)):= by
  show (if ((hs.take g).map hD).length + ((hs.drop (g + 1)).map hD).length ≤ 100000 then some (D.tup (_ ++ _)) else none) = _
  rw [if_pos (by simp; omega),List.eraseIdx_eq_take_drop_succ,List.map_append]
 have c4:de (.int (g:Int)) (.int 1) = some (.int ((g + 1:Nat):Int)):=by simp [de,bO]
 simp only [ar,qS,cF,aV,ax,cg,eB,Cm,xu,List.getElem?_cons_zero,List.getElem?_cons_succ,Option.some.injEq,Jt.Slot.pu.injEq,exists_eq_left']
 simp only [c1,eI,ax]
 refine ⟨_,rfl,_,rfl,cj c4 (ax.mpr (cj c2 (cj c3 ?_)))⟩
 simp [aJ]
theorem cX:∀ (l:List Nat) (j:Nat) (h:j < l.length),(l[j] :: l.eraseIdx j).Perm l
 | a :: r,0,_ => List.Perm.refl _
 | a :: r,j + 1,h => (List.Perm.swap a (r[j]'(Nat.lt_of_succ_lt_succ h)) (r.eraseIdx j)).trans ((cX r j (Nat.lt_of_succ_lt_succ h)).cons a)
theorem nX (n0:Int) {Z:Nat} (hZ:Z ≤ 7):∃ d xs',cm sX vk [.int n0] [.int Z] = some (d,xs') ∧ (∃ os:List Nat,d = .tup (lD os) ∧ Good Z os) ∧ ∃ n:Int,xs' = [.int n]:= by
 apply jv
 show Ok vk [.ow true [.int n0],.pu (.int Z),.un] _
 unfold vk
 have hn:(Z:Int) < 100000:=by omega
 have sZ:bH Z = true:=by simp [bH]; omega
 refine aK (fun δ => δ = [.ow true [.int n0],.pu (.int Z),.ow false (lD (List.range Z))]) (by simp [kO,hn,gG]) ?_
 rintro _ rfl
 simp only [ar,cF,aV,ax]
 refine dU (bC 0 Z) (fun k acc δ => ∃ (n:Int) (ls os:List Nat),acc = lD os ∧ δ = [.ow true [.int n],.pu (.int Z),.ow false (lD ls)] ∧ (os.length = k ∧ ls.length + k = Z) ∧ (os ++ ls).Perm (List.range Z)) rfl ?_ (by simp [bC]; omega) ⟨n0,List.range Z,[],rfl,rfl,⟨rfl,by simp⟩,by simp⟩ ?_ ?_
 ·simp [cz,sZ]
 ·rintro k hk acc _ ha hl ⟨n,ls,os,rfl,rfl,⟨h1,h2⟩,h3⟩
  have hk':k < Z:=by simpa [bC] using hk
  have et:=bW n ls.length (by omega) (by omega)
  have g1:=Int.emod_nonneg n (show (ls.length:Int) ≠ 0 by omega)
  have g2:=Int.emod_lt_of_pos n (show (0:Int) < ls.length by omega)
  obtain ⟨j,hj⟩:∃ j:Nat,n % (ls.length:Int) = (j:Int):=⟨(n % (ls.length:Int)).toNat,by omega⟩
  have hlt:j < ls.length:=by omega
  rw [hj] at et
  rw [dG]
  simp only [cM,bZ,ax]
  refine ⟨by simp,?_⟩
  simp only [if_true]
  refine qX ⟨_,_,rfl⟩ ?_
  simp [-Prod.exists,iZ,et]
  refine ⟨j,rfl,by omega,.int (ls[j]:Int),by simp [lD,hlt],_,ls.eraseIdx j,os ++ [ls[j]],by simp [lD],⟨rfl,iB _ ls j⟩,⟨by simp [h1],?_⟩,?_⟩
  ·rw [List.length_eraseIdx,if_pos hlt]; omega
  ·rw [List.append_assoc]
   exact (List.Perm.append_left os (cX ls j hlt)).trans h3
 ·rintro xs _ hx hl ⟨n,ls,os,rfl,rfl,⟨h1,h2⟩,h3⟩
  have e:(bC 0 Z).length = Z:=by simp [bC]
  rw [e] at h1 h2
  have e0:ls = []:=List.length_eq_zero_iff.mp (by omega)
  subst e0
  rw [List.append_nil] at h3
  simp [bf,b5]
  exact ⟨os,rfl,h1,h3.symm.nodup List.nodup_range,fun i hi => List.mem_range.mp (h3.mem_iff.mp hi)⟩
end K04
namespace K04
open PySem L2 Jt
variable {hs:List (List Int)} {ls os:List Nat} {M:Nat}
theorem l3 {n:Nat}:∀ {xs:List D},(∀ x ∈ xs,cf n x x = some true) -> cf.go n xs xs = some true
 | [],_ => rfl
 | x :: r,h => by
  have ih:=l3 (xs:=r) fun y hy => h y (List.mem_cons_of_mem _ hy)
  simp only [cf.go,ih,h x List.mem_cons_self]
  rfl
theorem eq_int (n:Nat) (a:Int):cf (n + 1) (.int a) (.int a) = some true:=by simp [cf,flat,tQ]
theorem p8 {n:Nat} {xs:List D} (h:∀ x ∈ xs,cf n x x = some true):cf (n + 1) (.tup xs) (.tup xs) = some true:= by
 simp [cf,l3 h]
theorem wk {n:Nat} {xs:List D} (h:∀ x ∈ xs,cf n x x = some true):cf (n + 1) (.lst xs) (.lst xs) = some true:= by
 simp [cf,l3 h]
theorem rD (n:Nat) {xs:List D} (h:∀ x ∈ xs,∃ i:Int,x = .int i):cf (n + 2) (.tup xs) (.tup xs) = some true:=p8 fun x hx => by
 obtain ⟨i,rfl⟩:=h x hx
 exact eq_int n i
theorem zR (n:Nat) (h:List Int):cf (n + 2) (hD h) (hD h) = some true:=rD n fun x hx => by
 obtain ⟨i,_,rfl⟩:=List.mem_map.mp hx
 exact ⟨i,rfl⟩
theorem z3 (n:Nat) (ls:List Nat):cf (n + 2) (.tup (lD ls)) (.tup (lD ls)) = some true:=rD n fun x hx => by
 obtain ⟨i,_,rfl⟩:=List.mem_map.mp hx
 exact ⟨i,rfl⟩
theorem t8 {neg:Bool} {xs:List D} (h:cf 9 (.tup xs) (.tup xs) = some true):dP neg (.tup xs) (.tup xs) = some (.bl (!neg)):= by
 cases neg <;> simp [dP,g8,h]
theorem Aa {neg:Bool} {xs:List D} (h:cf 9 (.lst xs) (.lst xs) = some true):dP neg (.lst xs) (.lst xs) = some (.bl (!neg)):= by
 cases neg <;> simp [dP,g8,h]
theorem wI (neg:Bool) (h:List Int):dP neg (hD h) (hD h) = some (.bl (!neg)):=t8 (zR 7 h)
theorem wQ (neg:Bool) (ls:List Nat):dP neg (.tup (lD ls)) (.tup (lD ls)) = some (.bl (!neg)):=t8 (z3 7 ls)
theorem yg (neg:Bool) (m:Int) (hs:List (List Int)):dP neg (aJ m hs) (aJ m hs) = some (.bl (!neg)):=t8 (p8 fun x hx => by
 rcases List.mem_cons.mp hx with rfl | hx
 ·exact eq_int 7 m
 ·rw [List.mem_singleton.mp hx]
  exact p8 fun y hy => by
   obtain ⟨h,_,rfl⟩:=List.mem_map.mp hy
   exact zR 5 h)
theorem uf (neg:Bool) (ps:List (List Nat)):dP neg (.lst (ps.map fun p => .tup (lD p))) (.lst (ps.map fun p => .tup (lD p))) = some (.bl (!neg)):=Aa (wk fun x hx => by
 obtain ⟨p,_,rfl⟩:=List.mem_map.mp hx
 exact z3 6 p)
theorem CF (neg:Bool) (ls:List Nat):dP neg (.lst (lD ls)) (.lst (lD ls)) = some (.bl (!neg)):=Aa (wk fun x hx => by
 obtain ⟨i,_,rfl⟩:=List.mem_map.mp hx
 exact eq_int 7 _)
theorem uy (neg a:Bool):dP neg (.bl a) (.bl a) = some (.bl (!neg)):= by
 cases a <;> cases neg <;> rfl
theorem CP {a b:List Nat} (h:a.length + b.length ≤ 100):pK (.lst (lD a)) (.lst (lD b)) = some (lD (a ++ b)):= by
 show sQ _ _ = _
 unfold sQ
 rw [if_pos (by simp [lD]; omega)]
 simp [lD]
theorem xa (hs:List (List Int)) (h6:hs.length ≤ 6):sortI (lD (i8 (mt hs) hs.length).flatten) = some (lD (List.range hs.length)):= by
 have p:=jZ (mt hs) hs.length
 have e:bA ((i8 (mt hs) hs.length).flatten.map fun (i:Nat) => (i:Int)) = (List.range hs.length).map fun (i:Nat) => (i:Int):= by
  refine (fK (p.symm.map _) ?_).symm
  rw [List.pairwise_map]
  exact List.pairwise_lt_range.imp fun {a b} (q:a < b) => by omega
 unfold sortI
 rw [fm]
 have l:=p.length_eq
 rw [List.length_range] at l
 simp only [e]
 rw [if_pos (by rw [List.length_map,l]; omega)]
 simp [lD]
theorem nC (hM:M ≤ 7) (h6:hs.length ≤ 6) (h7:∀ h ∈ hs,h.length ≤ 7):aE r6 vc [aJ M hs] = some (.bl true):= by
 apply bt
 show Ok vc [.pu (aJ M hs),.un,.un,.un,.un,.un,.un] _
 unfold vc
 have l0:=g9 (M:Int) hs
 have l1:=cJ (M:Int) hs
 have eh:=fun {c:Nat} (hc:c < M) => qp (hs:=hs) h6 (m:=(M:Int)) (i:=(c:Int)) (by omega) (by omega)
 have ec:=fun {a b:Nat} (ha:a < hs.length) (hb:b < hs.length) => jI (M:Int) h7 ha hb
 have ep:=nY (M:Int) h7 h6
 have sM:bH M = true:=by simp [bH]; omega
 have sn:bH (hs.length:Int) = true:=by simp [bH]; omega
 have hn:(hs.length:Int) < 100000:=by omega
 have esort:=xa hs h6
 have el:bG [.tup (hs.map hD)] = some (.int (hs.length:Int)):=by simp [bG]
 generalize aJ (M:Int) hs = lay at *
 refine aK (fun δ => ∃ a1 a2,δ = [.pu lay,a1,a2,.un,.un,.un,.un]) ?_ ?_
 ·refine ji (bC 0 M) (fun _ δ => ∃ a1 a2,δ = [.pu lay,a1,a2,.un,.un,.un,.un]) (by simp [l0,cz,sM]) ⟨_,_,rfl⟩ ?_ ?_
  ·rintro c hc _ ⟨a1,a2,rfl⟩
   have hc':c < M:=by simpa [bC] using hc
   rw [dG,bZ]
   refine ⟨by simp,?_⟩
   refine (ji (Q:=fun fl δ => fl = .nx ∧ ∃ a1 a2,δ = [.pu lay,a1,a2,.un,.un,.un,.un]) (bC 0 hs.length) (fun _ δ => ∃ a2,δ = [.pu lay,.pu (.int (c:Int)),a2,.un,.un,.un,.un]) (by simp [l1,el,cz,sn]) ⟨_,rfl⟩ ?_ ?_).mono ?_
   ·rintro k hk _ ⟨a2,rfl⟩
    have hk':k < hs.length:=by simpa [bC] using hk
    rw [dG,bZ]
    refine ⟨by simp,?_⟩
    have h1:=wg false k (tF hs (c:Int))
    have h2:=nJ false (c:Int) (G hs k)
    have e:decide (k ∈ tF hs (c:Int)) = decide ((c:Int) ∈ G hs k):=decide_eq_decide.mpr (by simp [tF,List.mem_filter,hk'])
    rw [e] at h1
    have g:=mE hk'
    simp only [Bool.false_eq_true,if_false] at h1 h2
    refine mW (fun b δ => b = false ∧ δ = [.pu lay,.pu (.int (c:Int)),.pu (.int (k:Int)),.un,.un,.un,.un]) ?_ (fun _ h => by cases h.1) ?_
    ·simp [au,eh hc',h1,h2,l1,g,uy]
    ·rintro _ ⟨_,rfl⟩
     simp
   ·rintro _ ⟨a2,rfl⟩
    exact ⟨rfl,_,_,rfl⟩
   ·rintro fl δ ⟨rfl,h⟩
    exact h
  ·rintro _ h
   exact ⟨rfl,h⟩
 rintro _ ⟨a1,a2,rfl⟩
 refine aK (fun δ => δ = [.pu lay,a1,a2,.pu (.lst []),.un,.un,.un]) (by simp) ?_
 rintro _ rfl
 have plen:=(jZ (mt hs) hs.length).length_eq
 rw [List.length_range] at plen
 have pm:∀ p ∈ i8 (mt hs) hs.length,p.length ≤ 6 ∧ ∀ i ∈ p,i < hs.length ∧ ∀ j,j < hs.length -> j ∉ p -> bL hs i j = []:=fun p hp => by
  obtain ⟨l,hl,e⟩:=ju hp
  refine ⟨?_,fun i hi => ⟨?_,fun j hj hn => ?_⟩⟩
  ·rw [e]
   have:=List.length_filter_le (fun k => decide ((cw (mt hs) hs.length).getD k 0 = l)) (List.range hs.length)
   rw [List.length_range] at this
   exact Nat.le_trans this h6
  ·rw [e] at hi
   exact (gJ.mp hi).1
  ·have:=x_ (xX hs) hp hi hj hn
   unfold mt at this
   cases q:bL hs i j with
   | nil => rfl
   | cons x r => rw [q] at this; cases this
 generalize i8 (mt hs) hs.length = P at *
 refine aK (fun δ => ∃ a4 a5 a6,δ = [.pu lay,a1,a2,.pu (.lst (lD P.flatten)),a4,a5,a6]) ?_ ?_
 ·refine ji (P.map fun p => .tup (lD p)) (fun k δ => ∃ a4 a5 a6,δ = [.pu lay,a1,a2,.pu (.lst (lD (P.take k).flatten)),a4,a5,a6]) (by simp [au,ep,aH,b5]) ⟨_,_,_,rfl⟩ ?_ ?_
  ·rintro k hk _ ⟨a4,a5,a6,rfl⟩
   have hk':k < P.length:=by simpa using hk
   have ek:(P.map fun p => D.tup (lD p))[k] = .tup (lD P[k]):=by simp
   obtain ⟨p6,pi⟩:=pm P[k] (List.getElem_mem hk')
   have et:(P.take (k + 1)).flatten = (P.take k).flatten ++ P[k]:= by
    rw [List.take_succ,List.flatten_append,List.getElem?_eq_getElem hk']
    simp
   have tl:(P.take k).flatten.length ≤ 6:= by
    have:(P.take k ++ P.drop k).flatten.length = hs.length:=by rw [List.take_append_drop]; exact plen
    rw [List.flatten_append,List.length_append] at this
    omega
   have gc:=CP (a:=(P.take k).flatten) (b:=P[k]) (by omega)
   rw [<- et] at gc
   generalize P[k] = p at *
   rw [ek,bZ]
   refine ⟨by simp,?_⟩
   refine aK (fun δ => δ = [.pu lay,a1,a2,.pu (.lst (lD (P.take (k + 1)).flatten)),.pu (.tup (lD p)),a5,a6]) ?_ ?_
   ·simp [dList,b5,gc]
   rintro _ rfl
   have ja:Ok (aZ 7 1 (mC cz (ae (mC bG (ae (m2 dj (ag 0) (pure (.int 1))) (pure []))) (pure []))) (bc (a9 7) (m2 (qk true) (ag 7) (ag 4) >>= cB) (ag 7))) [.pu lay,a1,a2,.pu (.lst (lD (P.take (k + 1)).flatten)),.pu (.tup (lD p)),a5,a6] fun xs δ => xs = lD ((List.range hs.length).filter fun i => decide (i ∉ p)) ∧ δ = [.pu lay,a1,a2,.pu (.lst (lD (P.take (k + 1)).flatten)),.pu (.tup (lD p)),a5,a6]:= by
    refine aO (List.range hs.length) (fun (i:Nat) => .int (i:Int)) (fun i => if decide (i ∉ p) = true then some (.int (i:Int)) else none) rfl ?_ (by simp; omega) (fun i _ => ?_) ?_
    ·simp [l1,el,cz,sn,gG,lD]
    ·have h1:=wg true i p
     by_cases q:i ∈ p <;> simp [h1,q]
    ·rw [br]
     exact ⟨rfl,rfl⟩
   refine aK (fun δ => δ = [.pu lay,a1,a2,.pu (.lst (lD (P.take (k + 1)).flatten)),.pu (.tup (lD p)),.pu (.lst (lD ((List.range hs.length).filter fun i => decide (i ∉ p)))),a6]) ?_ ?_
   ·simp only [cK,ar]
    refine ja.mono fun xs δ h => ?_
    obtain ⟨rfl,rfl⟩:=h
    simp
   rintro _ rfl
   refine (ji (Q:=fun fl δ => fl = .nx ∧ ∃ a4 a5 a6,δ = [.pu lay,a1,a2,.pu (.lst (lD (P.take (k + 1)).flatten)),a4,a5,a6]) (lD p) (fun _ δ => ∃ a6,δ = [.pu lay,a1,a2,.pu (.lst (lD (P.take (k + 1)).flatten)),.pu (.tup (lD p)),.pu (.lst (lD ((List.range hs.length).filter fun i => decide (i ∉ p)))),a6]) (by simp [aH,b5]) ⟨_,rfl⟩ ?_ ?_).mono ?_
   ·rintro j hj _ ⟨a6,rfl⟩
    have hj':j < p.length:=by simpa [lD] using hj
    have ej:(lD p)[j] = .int (p[j]:Int):=by simp [lD]
    obtain ⟨i1,i2⟩:=pi p[j] (List.getElem_mem hj')
    generalize p[j] = i at *
    rw [ej,bZ]
    refine ⟨by simp,?_⟩
    refine mW (fun b δ => b = false ∧ δ = [.pu lay,a1,a2,.pu (.lst (lD (P.take (k + 1)).flatten)),.pu (.tup (lD p)),.pu (.lst (lD ((List.range hs.length).filter fun i => decide (i ∉ p)))),.pu (.int (i:Int))]) ?_ (fun _ h => by cases h.1) ?_
    ·simp only [ar,eB]
     refine aO ((List.range hs.length).filter fun i => decide (i ∉ p)) (fun (i:Nat) => .int (i:Int)) (fun _ => none) rfl (by simp [aH,b5,lD]) ?_ (fun o ho => ?_) ?_
     ·have:=List.length_filter_le (fun i => decide (i ∉ p)) (List.range hs.length)
      rw [List.length_range] at this
      omega
     ·obtain ⟨o1,o2⟩:=List.mem_filter.mp ho
      have o1:=List.mem_range.mp o1
      have cc:=ec i1 o1
      rw [i2 o o1 (of_decide_eq_true o2)] at cc
      have z:dP true (hD []) (.tup []) = some (.bl false):=rfl
      simp [au,cc,z]
     ·rw [show ((List.range hs.length).filter fun i => decide (i ∉ p)).filterMap (fun _ => (none:Option D)) = [] by simp]
      have z:dP true (.lst []) (.lst []) = some (.bl false):=rfl
      simp [z]
    ·rintro _ ⟨_,rfl⟩
     simp
   ·rintro _ ⟨a6,rfl⟩
    exact ⟨rfl,_,_,_,rfl⟩
   ·rintro fl δ ⟨rfl,h⟩
    exact h
  ·rintro _ ⟨a4,a5,a6,rfl⟩
   rw [List.length_map,List.take_length]
   exact ⟨rfl,_,_,_,rfl⟩
 ·rintro _ ⟨a4,a5,a6,rfl⟩
  simp [b5,esort,l1,el,kO,hn,gG,CF]
end K04
namespace K04
open PySem L2 Jt
variable {hs:List (List Int)} {ls os:List Nat} {M:Nat}
theorem qo {fo:Jt.M D} {fs:Jt.M (List D)} {δ:DS} {Q:D -> DS -> Prop}:Ok (vh fo fs) δ Q ↔ Ok fo δ fun x δ1 => Ok fs δ1 fun ds δ2 => Ok (lift (kl x ds)) δ2 Q:= by
 unfold vh
 simp only [ar]
theorem wt (g:Good M os) {c:Nat} (hc:c < M):kl (.tup (lD os)) [.int (c:Int)] = some (.int ((os.idxOf c:Nat):Int)):= by
 show ((dt (lD os)).bind fun ns => if (c:Int) ∈ ns then some (D.int (ns.idxOf (c:Int):Nat)) else none) = _
 rw [fm,Option.bind_some,if_pos (List.mem_map.mpr ⟨c,j8 g hc,rfl⟩),lz]
theorem AB (g:Good M os) {c:Int} (hc:0 ≤ c ∧ c < M):kl (.tup (lD os)) [.int c] = some (.int (pl os c)):= by
 obtain ⟨k,rfl⟩:∃ k:Nat,c = (k:Int):=⟨c.toNat,by omega⟩
 rw [wt g (by omega)]
 simp [pl]
theorem yU {h:List Int} (H:c7 M h):gs M (hD h) = true:= by
 obtain ⟨h1,h2,h3⟩:=H
 have e:(h.map D.int).all (bF M) = true:= by
  rw [List.all_map,List.all_eq_true]
  intro c hc
  have:=h3 c hc
  simp [bF,this.1,this.2]
 have e2:dI (nats (h.map D.int)) = true:= by
  rw [m9]
  unfold nats
  rw [List.map_map,List.pairwise_map]
  refine List.Pairwise.imp_of_mem (fun {a b} ha hb q => ?_) h2
  have:=h3 a ha
  have:=h3 b hb
  show a.toNat < b.toNat
  omega
 show ((h.map D.int).all (bF M) && (!(h.map D.int).isEmpty && dI (nats (h.map D.int)))) = true
 rw [e,e2]
 cases h with
 | nil => exact absurd rfl h1
 | cons x r => rfl
theorem Bk (m1:1 ≤ M) (hM:M ≤ 7) (h1:1 ≤ hs.length) (h6:hs.length ≤ 6) (H:∀ h ∈ hs,c7 M h):layB (aJ M hs) = true:= by
 show ((decide (1 ≤ (M:Int)) && decide ((M:Int) ≤ 7)) && ((decide (1 ≤ (hs.map hD).length) && decide ((hs.map hD).length ≤ 6)) && (hs.map hD).all (gs M))) = true
 have e:(hs.map hD).all (gs M) = true:= by
  rw [List.all_map,List.all_eq_true]
  exact fun h hh => yU (H h hh)
 rw [e,List.length_map]
 simp
 omega
theorem Cv (h6:hs.length ≤ 6) (h7:∀ h ∈ hs,h.length ≤ 7) (m:Int):zL (aJ m hs):=fun m' xs e => by
 cases e
 refine ⟨by simp; omega,fun h hh ys e => ?_⟩
 obtain ⟨g,hg,rfl⟩:=List.mem_map.mp hh
 cases e
 have:=h7 g hg
 simp
 omega
theorem kn (h7:∀ h ∈ hs,h.length ≤ 7):∀ h ∈ nm os hs,h.length ≤ 7:=fun h hh => by
 obtain ⟨g,hg,rfl⟩:=List.mem_map.mp hh
 rw [eA,List.length_map]
 exact h7 g hg
theorem w_ (g:Good M os) (H:∀ h ∈ hs,c7 M h):∀ h ∈ nm os hs,c7 M h:=fun h hh => by
 obtain ⟨a,ha,rfl⟩:=List.mem_map.mp hh
 exact zX g (H a ha)
theorem Ea (g:Good M os) (H:∀ h ∈ hs,c7 M h):nm (bk M os) (nm os hs) = hs:= by
 unfold nm
 rw [List.map_map]
 exact (List.map_congr_left fun h hh => yR g (H h hh)).trans (List.map_id hs)
theorem iw (m1:1 ≤ M) (hM:M ≤ 7) (h1:1 ≤ hs.length) (h6:hs.length ≤ 6) (H:∀ h ∈ hs,c7 M h) (h7:∀ h ∈ hs,h.length ≤ 7) (n0:Int) :
  ∃ d xs',cm oh ub [.int n0] [aJ M hs] = some (d,xs') ∧ d = .bl true ∧ ∃ n:Int,xs' = [.int n]:= by
 apply jv
 show Ok ub [.ow true [.int n0],.pu (aJ M hs),.un,.un,.un,.un,.un,.un] _
 unfold ub
 obtain ⟨d,xs',eo,⟨os,rfl,g⟩,n1,rfl⟩:=nX n0 hM
 have nl:(nm os hs).length = hs.length:=by simp [nm]
 have e1:=zY g hM h6 H h7
 have e2:=zY (hs:=nm os hs) (qZ g) hM (by rw [nl]; exact h6) (w_ g H) (kn h7)
 rw [Ea g H] at e2
 have p1:=nY (M:Int) h7 h6
 have p2:=nY (hs:=nm os hs) (M:Int) (kn h7) (by rw [nl]; exact h6)
 rw [nl,BJ g H] at p2
 have il:=FF (Cv (hs:=nm os hs) (by rw [nl]; exact h6) (kn h7) M)
 rw [Bk m1 hM (by rw [nl]; exact h1) (by rw [nl]; exact h6) (w_ g H)] at il
 have t1:=bW n1 hs.length (by omega) (by omega)
 have t2:=bW (n1 / hs.length) hs.length (by omega) (by omega)
 have a1:=Int.emod_nonneg n1 (show (hs.length:Int) ≠ 0 by omega)
 have a2:=Int.emod_lt_of_pos n1 (show (0:Int) < hs.length by omega)
 have b1:=Int.emod_nonneg (n1 / hs.length) (show (hs.length:Int) ≠ 0 by omega)
 have b2:=Int.emod_lt_of_pos (n1 / hs.length) (show (0:Int) < hs.length by omega)
 obtain ⟨a,ea⟩:∃ a:Nat,n1 % (hs.length:Int) = (a:Int):=⟨(n1 % (hs.length:Int)).toNat,by omega⟩
 obtain ⟨b,eb⟩:∃ b:Nat,n1 / hs.length % (hs.length:Int) = (b:Int):=⟨(n1 / hs.length % (hs.length:Int)).toNat,by omega⟩
 rw [ea] at t1
 rw [eb] at t2
 have ha:a < hs.length:=by omega
 have hb:b < hs.length:=by omega
 generalize n1 / (hs.length:Int) = n2 at *
 generalize n2 / (hs.length:Int) = n3 at *
 have c0:=jI (M:Int) h7 ha hb
 have c1:=jI (hs:=nm os hs) (M:Int) (kn h7) (by rw [nl]; exact ha) (by rw [nl]; exact hb)
 have c2:=jI (hs:=nm os hs) (M:Int) (kn h7) (by rw [nl]; exact hb) (by rw [nl]; exact ha)
 rw [mV g H ha hb] at c1
 rw [mV g H hb ha,<- sF H ha hb] at c2
 have l0:=g9 (M:Int) hs
 have l1:=cJ (M:Int) hs
 have el:bG [.tup (hs.map hD)] = some (.int (hs.length:Int)):=by simp [bG]
 have dl:=yg true (M:Int) hs
 have dp:=uf true (i8 (mt hs) hs.length)
 have dh:=wI false (bA ((bL hs a b).map (pl os)))
 have bb:∀ c ∈ bL hs a b,0 ≤ c ∧ c < (M:Int):=fun c hc => (H _ (jh ha)).2.2 c (cu.mp hc).1
 have b7:(bL hs a b).length ≤ 7:=Nat.le_trans (List.length_filter_le _ _) (h7 _ (jh ha))
 have es:=kG ((bL hs a b).map (pl os)) (by rw [List.length_map]; omega)
 have sM:bH M = true:=by simp [bH]; omega
 have ix:=fun {c:Nat} (hc:c < M) => wt g hc
 have ixp:=fun {c:Int} (hc:0 ≤ c ∧ c < (M:Int)) => AB g hc
 simp only [Bool.not_true,Bool.not_false] at dl dp dh
 generalize i8 (mt hs) hs.length = P at *
 generalize bA ((bL hs a b).map (pl os)) = due at *
 generalize hL:aJ (M:Int) (nm os hs) = lat at *
 generalize aJ (M:Int) hs = lay at *
 refine aK (fun δ => δ = [.ow true [.int n1],.pu lay,.pu (.tup (lD os)),.un,.un,.un,.un,.un]) (by simp [-Prod.exists,l0,eo]) ?_
 rintro _ rfl
 refine aK (fun δ => δ = [.ow true [.int n1],.pu lay,.pu (.tup (lD os)),.pu lat,.un,.un,.un,.un]) (by simp [au,e1]) ?_
 rintro _ rfl
 refine aK (fun δ => δ = [.ow true [.int n1],.pu lay,.pu (.tup (lD os)),.pu lat,.pu (.tup (lD (bk M os))),.un,.un,.un]) ?_ ?_
 ·simp only [cK,ar,cF,aV,ax]
  refine aO (List.range M) (fun (c:Nat) => .int (c:Int)) (fun c => some (.int ((os.idxOf c:Nat):Int))) rfl ?_ (by simp; omega) (fun c hc => ?_) ?_
  ·simp [l0,cz,sM,gG,lD]
  ·have:=ix (List.mem_range.mp hc)
   simp [qo,this]
  ·simp [bp,bk,lD,List.filterMap_eq_map,Function.comp_def]
 rintro _ rfl
 refine bT false ?_ (fun h => by cases h) fun _ => ?_
 ·simp [au,e2,dl,p1,p2,dp,il,cv]
 refine aK (fun δ => δ = [.ow true [.int n3],.pu lay,.pu (.tup (lD os)),.pu lat,.pu (.tup (lD (bk M os))),.pu (.int (a:Int)),.pu (.int (b:Int)),.un]) ?_ ?_
 ·unfold A9
  simp [-Prod.exists,l1,el,t1,t2]
 rintro _ rfl
 refine aK (fun δ => δ = [.ow true [.int n3],.pu lay,.pu (.tup (lD os)),.pu lat,.pu (.tup (lD (bk M os))),.pu (.int (a:Int)),.pu (.int (b:Int)),.pu (hD due)]) ?_ ?_
 ·simp only [cK,ar,cF,aV,ax,ve]
  refine aO (bL hs a b) .int (fun c => some (.int (pl os c))) rfl ?_ (by omega) (fun c hc => ?_) ?_
  ·simp [au,c0,g_]
  ·have:=ixp (bb c hc)
   simp [qo,this]
  ·rw [List.map_map] at es
   simp [b5,List.filterMap_eq_map,Function.comp_def] at es ⊢
   simp [es,bp,hD]
 rintro _ rfl
 simp [au,c1,c2,dh]
def EF (p:List Nat):List Nat:=p.map (· + 2)
theorem gB (m1:1 ≤ M) (hM:M ≤ 7) (h6:hs.length ≤ 6) (H:∀ h ∈ hs,c7 M h) (h7:∀ h ∈ hs,h.length ≤ 7):aE kU wG [aJ M hs] = some (.bl true):= by
 apply bt
 show Ok wG [.pu (aJ M hs),.un,.un,.un] _
 unfold wG
 have l0:=g9 (M:Int) hs
 have l1:=cJ (M:Int) hs
 have el:bG [.tup (hs.map hD)] = some (.int (hs.length:Int)):=by simp [bG]
 refine aK (fun δ => δ = [.pu (aJ M hs),.pu eF,.un,.un]) ?_ ?_
 ·generalize aJ (M:Int) hs = lay at *
  simp [eF]
 rintro _ rfl
 by_cases q:M ≤ 5 ∧ hs.length ≤ 4
 ·obtain ⟨q5,q4⟩:=q
  have eb:=Eb q5 q4 H h7
  have bl:(gM hs).length = hs.length + 2:=by simp [gM]
  have b7:∀ h ∈ gM hs,h.length ≤ 7:=fun h hh => by
   rcases List.mem_cons.mp hh with rfl | hh
   ·decide
   rcases List.mem_cons.mp hh with rfl | hh
   ·decide
   obtain ⟨g,hg,rfl⟩:=List.mem_map.mp hh
   rw [List.length_map]
   exact h7 g hg
  have p1:=nY (M:Int) h7 h6
  have p2:=nY (hs:=gM hs) ((2 + M:Nat):Int) b7 (by omega)
  rw [bl,yA H] at p2
  have w1:=qp (hs:=gM hs) (by omega) (m:=((2 + M:Nat):Int)) (i:=1) (by omega) (by omega)
  have w2:=qp (hs:=gM hs) (by omega) (m:=((2 + M:Nat):Int)) (i:=2) (by omega) (by omega)
  have w0:=qp (hs:=hs) (by omega) (m:=(M:Int)) (i:=0) (by omega) (by omega)
  rw [vy H] at w1
  rw [vz] at w2
  have wl:(tF hs 0).length ≤ 6:= by
   have:=List.length_filter_le (fun k => decide ((0:Int) ∈ G hs k)) (List.range hs.length)
   rw [List.length_range] at this
   exact Nat.le_trans this h6
  have plen:=(jZ (mt hs) hs.length).length_eq
  have pl2:(i8 (mt hs) hs.length).length ≤ 100:= by
   unfold i8
   rw [List.length_map]
   have:=List.length_filter_le (fun l => decide ((cw (mt hs) hs.length).getD l 0 = l)) (List.range hs.length)
   rw [List.length_range] at this
   omega
  have pm:∀ p ∈ i8 (mt hs) hs.length,p.length ≤ 6:=fun p hp => by
   obtain ⟨l,hl,e⟩:=ju hp
   rw [e]
   have:=List.length_filter_le (fun k => decide ((cw (mt hs) hs.length).getD k 0 = l)) (List.range hs.length)
   rw [List.length_range] at this
   exact Nat.le_trans this h6
  have d1:=uf true ([0,1] :: (i8 (mt hs) hs.length).map (·.map (· + 2)))
  have d2:=wQ true [0,1]
  have d3:=wQ false ((tF hs 0).map (· + 2))
  simp only [Bool.not_true,Bool.not_false] at d1 d2 d3
  generalize i8 (mt hs) hs.length = P at *
  generalize hW:tF hs 0 = W at *
  generalize aJ (M:Int) hs = lay at *
  generalize aJ ((2 + M:Nat):Int) (gM hs) = wh at *
  generalize eF = sm at *
  have n5:¬ ((5:Int) < M):=by omega
  have n4:¬ ((4:Int) < hs.length):=by omega
  refine bT false (by simp [l0,l1,el,l_,bO,n5,n4]) (fun h => by cases h) fun _ => ?_
  refine aK (fun δ => δ = [.pu lay,.pu sm,.pu wh,.un]) (by simp [au,eb]) ?_
  rintro _ rfl
  refine aK (fun δ => δ = [.pu lay,.pu sm,.pu wh,.pu (.lst (P.map fun p => .tup (lD (p.map (· + 2)))))]) ?_ ?_
  ·simp only [cK,ar]
   refine aO P (fun p => .tup (lD p)) (fun p => some (.tup (lD (p.map (· + 2))))) rfl (by simp [au,p1,aH,b5]) (by omega) (fun p hp => ?_) ?_
   ·simp only [cM,bZ]
    refine ⟨by simp,?_⟩
    simp only [ax,if_true,ar,cF,aV]
    have:=pm p hp
    refine aO p (fun (i:Nat) => .int (i:Int)) (fun i => some (.int ((i + 2:Nat):Int))) rfl (by simp [aH,b5,lD]) (by omega) (fun i _ => ?_) ?_
    ·simp [de,bO]
    ·simp [bp,lD,List.filterMap_eq_map,Function.comp_def]
   ·simp [List.filterMap_eq_map,Function.comp_def]
  rintro _ rfl
  have gc:pK (.lst [.tup (lD [0,1])]) (.lst (P.map fun p => .tup (lD (p.map (· + 2))))) = some (([0,1] :: P.map (·.map (· + 2))).map fun p => .tup (lD p)):= by
   show sQ _ _ = _
   unfold sQ
   rw [if_pos (by simp; omega)]
   simp [Function.comp_def]
  have t01:D.tup [.int 0,.int 1] = .tup (lD [0,1]):=rfl
  refine bT false ?_ (fun h => by cases h) fun _ => ?_
  ·generalize (([0,1] :: P.map (·.map (· + 2))).map fun p => D.tup (lD p)) = PL at *
   generalize (P.map fun p => D.tup (lD (p.map (· + 2)))) = PB at *
   generalize D.tup (lD [0,1]) = t at *
   simp [au,p2,t01,gc,d1,w1,d2]
  ·simp only [ar,eB,cF,aV,ax,cg,List.getElem?_cons_zero,List.getElem?_cons_succ,Option.some.injEq,Jt.Slot.pu.injEq,exists_eq_left',au,List.length_cons,List.length_nil,if_true,w2,eI]
   refine aO W (fun (i:Nat) => .int (i:Int)) (fun i => some (.int ((i + 2:Nat):Int))) rfl (by simp [au,w0,aH,b5,lD]) (by omega) (fun i _ => ?_) ?_
   ·simp [de,bO]
   ·have e:W.filterMap (fun i => some (D.int ((i + 2:Nat):Int))) = lD (W.map (· + 2)):=by simp [lD,List.filterMap_eq_map,Function.comp_def]
    rw [e]
    simp only [ax,bp,eI,d3]
 ·generalize aJ (M:Int) hs = lay at *
  generalize eF = sm at *
  refine bT true ?_ (fun _ => by simp) fun h => by cases h
  by_cases q5:(5:Int) < M
  ·simp [l0,l_,bO,q5]
  ·have q4:(4:Int) < hs.length:=by omega
   simp [l0,l1,el,l_,bO,q5,q4]
end K04
namespace K04
open PySem L2 Jt
variable {hs:List (List Int)} {ls os:List Nat} {M:Nat}
def LI (ns:List Int) (δ:DS):Prop:=∃ a1 a2 a3 a4 a5 a6 a7 a8:Jt.Slot,δ = [.pu (.lst (ns.map .int)),a1,a2,a3,a4,a5,a6,a7,a8]
def ja (g k:Nat):Nat:=if k < g then k else k + 1
theorem uE:∀ ns:List Int,ns.length ≤ 63 -> aE vM rh [.lst (ns.map .int)] = some (.bl true):= by
 intro ns hns
 apply bt
 show Ok rh [.pu (.lst (ns.map .int)),.un,.un,.un,.un,.un,.un,.un,.un] _
 unfold rh
 refine aK (LI ns) ?_ ?_
 ·obtain ⟨N,hN,hN2⟩:∃ N:Nat,(if (if (4:Int) < ns.length then 4 else (ns.length:Int)) > 1 then (if (4:Int) < ns.length then 4 else (ns.length:Int)) else 1) = (N:Int) ∧ N ≤ 4:= by
   refine ⟨(if (if (4:Int) < ns.length then 4 else (ns.length:Int)) > 1 then (if (4:Int) < ns.length then 4 else (ns.length:Int)) else 1).toNat,?_,?_⟩ <;> split <;> split <;> omega
  have sN:bH N = true:=by simp [bH]; omega
  refine ji (bC 0 N) (fun _ δ => LI ns δ) ?_ ⟨_,_,_,_,_,_,_,_,rfl⟩ ?_ ?_
  ·simp only [cF,aV,cg,ax,List.getElem?_cons_zero,Option.some.injEq,Jt.Slot.pu.injEq,exists_eq_left',bG,eI,jm,oy,List.length_map,hN,cz,sN,if_true]
   simp
  ·rintro k hk _ ⟨a1,a2,a3,a4,a5,a6,a7,a8,rfl⟩
   rw [dG,bZ]
   refine ⟨by simp,?_⟩
   simp only [List.set_cons_succ,List.set_cons_zero]
   obtain ⟨n,en⟩:=sU ns k
   obtain ⟨d,xs',el,m,hs,n',rfl,rfl,h1,h6,⟨m1,m7⟩,H⟩:=mx n
   obtain ⟨M,rfl⟩:∃ M:Nat,m = (M:Int):=⟨m.toNat,by omega⟩
   have hM:M ≤ 7:=by omega
   have m1':1 ≤ M:=by omega
   have h7:∀ h ∈ hs,h.length ≤ 7:=fun h hh => (H h hh).len m1 m7
   have er:=nC (M:=M) hM h6 h7
   have eb:=gB m1' hM h6 H h7
   obtain ⟨d,xs',ed,rfl,n2,rfl⟩:=iw m1' hM h1 h6 H h7 n'
   have l1:=cJ (M:Int) hs
   have eh:bG [.tup (hs.map hD)] = some (.int (hs.length:Int)):=by simp [bG]
   generalize hns2:(ns.map D.int) = nd at *
   refine aK (fun δ => δ = [.pu (.lst nd),.pu (.int k),.ow false [.int n],a3,a4,a5,a6,a7,a8]) ?_ ?_
   ·simp [au,en]
   rintro _ rfl
   refine aK (fun δ => δ = [.pu (.lst nd),.pu (.int k),.ow false [.int n'],.pu (aJ M hs),a4,a5,a6,a7,a8]) ?_ ?_
   ·simp [-Prod.exists,el]
   rintro _ rfl
   refine aK (fun δ => δ = [.pu (.lst nd),.pu (.int k),.ow false [.int n2],.pu (aJ M hs),a4,a5,a6,a7,a8]) ?_ ?_
   ·refine mW (fun b δ => b = false ∧ δ = [.pu (.lst nd),.pu (.int k),.ow false [.int n2],.pu (aJ M hs),a4,a5,a6,a7,a8]) ?_ (fun _ h => by cases h.1) ?_
    ·generalize aJ (M:Int) hs = lay at *
     simp [-Prod.exists,au,er,ed,eb,cv]
    ·rintro _ ⟨_,rfl⟩
     simp
   rintro _ rfl
   refine aK (fun δ => δ = [.pu (.lst nd),.pu (.int k),.ow false [.int n2],.pu (aJ M hs),.pu (.int (hs.length:Int)),a5,a6,a7,a8]) ?_ ?_
   ·generalize aJ (M:Int) hs = lay at *
    simp [l1,eh]
   rintro _ rfl
   refine (show Ok _ _ fun fl δ => fl = .nx ∧ LI ns δ from ?_).mono ?_
   ·refine mW (fun b δ => b = decide (2 < hs.length) ∧ δ = [.pu (.lst nd),.pu (.int k),.ow false [.int n2],.pu (aJ M hs),.pu (.int (hs.length:Int)),a5,a6,a7,a8]) ?_ ?_ ?_
    ·have e:decide ((2:Int) < hs.length) = decide (2 < hs.length):=decide_eq_decide.mpr (by omega)
     simp [l_,bO]
     omega
    ·rintro _ ⟨q,rfl⟩
     have h2:2 < hs.length:=of_decide_eq_true q.symm
     have t1:=bW n2 hs.length (by omega) (by omega)
     have g1:=Int.emod_nonneg n2 (show (hs.length:Int) ≠ 0 by omega)
     have g2:=Int.emod_lt_of_pos n2 (show (0:Int) < hs.length by omega)
     obtain ⟨g,eg⟩:∃ g:Nat,n2 % (hs.length:Int) = (g:Int):=⟨(n2 % (hs.length:Int)).toNat,by omega⟩
     rw [eg] at t1
     have hg:g < hs.length:=by omega
     have ew:=D0 (M:Int) hg h2 h6
     have lel:(hs.eraseIdx g).length = hs.length - 1:=by rw [List.length_eraseIdx,if_pos hg]
     have l2:=cJ (M:Int) (hs.eraseIdx g)
     have hz:=nF hs.length (by omega) g hg 0 (by omega)
     have hy:=nF hs.length (by omega) g hg (hs.length - 2) (by omega)
     have o0:ja g 0 < hs.length:=by unfold ja; split <;> omega
     have o1:ja g (hs.length - 2) < hs.length:=by unfold ja; split <;> omega
     have c1:=jI (hs:=hs.eraseIdx g) (M:Int) (fun h hh => h7 h (List.mem_of_mem_eraseIdx hh)) (a:=0) (b:=hs.length - 2) (by omega) (by omega)
     have c2:=jI (M:Int) h7 o0 o1
     rw [pe (by omega) (by omega)] at c1
     have c1:aE dJ d6 [aJ M (hs.eraseIdx g),.int ((0:Nat):Int),.int ((hs.length - 2:Nat):Int)] = some (hD (bL hs (ja g 0) (ja g (hs.length - 2)))):=c1
     have dh:=wI true (bL hs (ja g 0) (ja g (hs.length - 2)))
     have sn:bH (hs.length:Int) = true:=by simp [bH]; omega
     have eh2:bG [.tup ((hs.eraseIdx g).map hD)] = some (.int ((hs.length:Int) - 1)):= by
      have z:(((hs.eraseIdx g).map hD).length:Int) = (hs.length:Int) - 1:= by
       rw [List.length_map,lel]
       omega
      rw [<- z]
      rfl
     have s1:kJ (.int (hs.length:Int)) (.int 1) = some (.int ((hs.length:Int) - 1)):=by simp [kJ,bO]
     have s2:kJ (.int (hs.length:Int)) (.int 2) = some (.int ((hs.length - 2:Nat):Int)):= by
      rw [show ((hs.length - 2:Nat):Int) = (hs.length:Int) - 2 by omega]
      simp [kJ,bO]
     simp only [Bool.not_true] at dh
     refine aK (fun δ => δ = [.pu (.lst nd),.pu (.int k),.ow false [.int (n2 / hs.length)],.pu (aJ M hs),.pu (.int (hs.length:Int)),.pu (.int (g:Int)),a6,a7,a8]) ?_ ?_
     ·generalize aJ (M:Int) hs = lay at *
      simp [-Prod.exists,t1]
     rintro _ rfl
     refine aK (fun δ => δ = [.pu (.lst nd),.pu (.int k),.ow false [.int (n2 / hs.length)],.pu (aJ M hs),.pu (.int (hs.length:Int)),.pu (.int (g:Int)),.pu (aJ M (hs.eraseIdx g)),a7,a8]) ?_ ?_
     ·generalize aJ (M:Int) hs = lay at *
      generalize aJ (M:Int) (hs.eraseIdx g) = les at *
      simp [au,ew]
     rintro _ rfl
     generalize aJ (M:Int) hs = lay at *
     generalize aJ (M:Int) (hs.eraseIdx g) = les at *
     generalize n2 / (hs.length:Int) = n3 at *
     refine aK (fun δ => δ = [.pu (.lst nd),.pu (.int k),.ow false [.int n3],.pu lay,.pu (.int (hs.length:Int)),.pu (.int (g:Int)),.pu les,.pu (.int (ja g 0:Nat)),.pu (.int (ja g (hs.length - 2):Nat))]) ?_ ?_
     ·simp only [ar]
      refine aO [0,hs.length - 2] (fun (i:Nat) => .int (i:Int)) (fun i => some (.int ((ja g i:Nat):Int))) rfl ?_ (by simp) (fun i hi => ?_) ?_
      ·simp only [ar,xC,aV,ax,eB,cg,List.getElem?_cons_zero,List.getElem?_cons_succ,Option.some.injEq,Jt.Slot.pu.injEq,exists_eq_left',s2,eI]
       simp [aH,b5]
      ·have hi':((List.range hs.length).filter fun j => decide (j ≠ g))[i]? = some (ja g i):= by
        rcases List.mem_cons.mp hi with rfl | hi
        ·exact hz
        ·rw [List.mem_singleton.mp hi]
         exact hy
       simp only [cM,bZ]
       refine ⟨by simp,?_⟩
       simp only [ax,if_true,eB,ar]
       refine aO (List.range hs.length) (fun (j:Nat) => .int (j:Int)) (fun j => if decide (j ≠ g) = true then some (.int (j:Int)) else none) rfl ?_ (by simp; omega) (fun j _ => ?_) ?_
       ·simp [cz,sn,gG,lD]
       ·have:=di true j g
        by_cases z:j = g
        ·subst z; simp [this]
        ·simp [this,z]
       ·rw [br]
        have lt:i < ((List.range hs.length).filter fun j => decide (j ≠ g)).length:=(List.getElem?_eq_some_iff.mp hi').1
        have e:dj (.lst (((List.range hs.length).filter fun j => decide (j ≠ g)).map fun (j:Nat) => .int (j:Int))) (.int (i:Int)) = some (.int ((ja g i:Nat):Int)):= by
         show jC _ _ = _
         rw [eK _ _ (by simpa using lt),List.getElem_map,(List.getElem?_eq_some_iff.mp hi').2]
        generalize (((List.range hs.length).filter fun j => decide (j ≠ g)).map fun (j:Nat) => D.int (j:Int)) = R at *
        simp [e]
      ·simp [bw,c9]
     rintro _ rfl
     refine mW (fun b δ => b = false ∧ δ = [.pu (.lst nd),.pu (.int k),.ow false [.int n3],.pu lay,.pu (.int (hs.length:Int)),.pu (.int (g:Int)),.pu les,.pu (.int (ja g 0:Nat)),.pu (.int (ja g (hs.length - 2):Nat))]) ?_ (fun _ h => by cases h.1) ?_
     ·have c1:aE dJ d6 [les,.int 0,.int ((hs.length - 2:Nat):Int)] = some (hD (bL hs (ja g 0) (ja g (hs.length - 2)))):=c1
      generalize hD (bL hs (ja g 0) (ja g (hs.length - 2))) = bo at *
      generalize ja g 0 = x0 at *
      generalize ja g (hs.length - 2) = x1 at *
      generalize ((hs.length - 2:Nat):Int) = y at *
      simp [au,s2,c1,c2,dh,l2,eh2,s1,c6]
     ·rintro _ ⟨_,rfl⟩
      rw [ax]
      subst hns2
      exact ⟨rfl,_,_,_,_,_,_,_,_,rfl⟩
    ·rintro _ ⟨_,rfl⟩
     rw [ax]
     subst hns2
     exact ⟨rfl,_,_,_,_,_,_,_,_,rfl⟩
   ·rintro fl δ ⟨rfl,h⟩
    exact h
  ·rintro δ h
   exact ⟨rfl,h⟩
 ·rintro _ ⟨a1,a2,a3,a4,a5,a6,a7,a8,rfl⟩
  simp
end K04
namespace K04
open PySem L2 Jt
theorem i6 {us:List Value} (h:us.length = 1):∃ a,us = [a]:=by match us,h with | [a],_ => exact ⟨a,rfl⟩
theorem dw {us:List Value} (h:us.length = 2):∃ a b,us = [a,b]:=by match us,h with | [a,b],_ => exact ⟨a,b,rfl⟩
theorem Aq {us:List Value} (h:us.length = 3):∃ a b c,us = [a,b,c]:=by match us,h with | [a,b,c],_ => exact ⟨a,b,c,rfl⟩
theorem all_mk {l:PySem.W.OpenLaw} {w:World} {K:PySem.W.Frag} {h:Heap} {mg:Str -> Option Value} {fa:Addr} (X:K.In h) (G:h.Ns mainGlobals mg) (hfa:mg "law" = some (.ref fa))
  (e_is_whole:Fh K "is_whole" v8)
  (e_is_below:Fh K "is_below" w8)
  (e_are_below:Fh K "are_below" Cy)
  (e_are_unlike:Fh K "are_unlike" Bq)
  (e_are_all_below:Fh K "are_all_below" B_)
  (e_is_rising:Fh K "is_rising" vY)
  (e_linked:Fh K "linked" uC)
  (e_is_head:Fh K "is_head" u6)
  (e_is_layout:Fh K "is_layout" Bt)
  (e_need_head:Fh K "need_head" t9)
  (e_heads_of:Fh K "heads_of" wJ)
  (e_common:Fh K "common" wj)
  (e_pieces:Fh K "pieces" ue)
  (e_moved:Fh K "moved" t6)
  (e_named:Fh K "named" vZ)
  (e_beside:Fh K "beside" vt)
  (e_without:Fh K "without" u7)
  (e__law_cell:Fh K "_law_cell" vR)
  (e__law_box:Fh K "_law_box" uc)
  (e__law_take:Fh K "_law_take" CN)
  (e__law_layout:Fh K "_law_layout" A6)
  (e__law_order:Fh K "_law_order" Bp)
  (e__law_right:Fh K "_law_right" Bj)
  (e__law_named_right:Fh K "_law_named_right" B9)
  (e__law_beside_right:Fh K "_law_beside_right" CB)
  (e_law:Fh K "law" nh)
  (z:PySem.W.nsIn K mainGlobals "all" = some none ∧ PySem.W.nsIn K mainGlobals "bool" = some none ∧ PySem.W.nsIn K mainGlobals "enumerate" = some none ∧ PySem.W.nsIn K mainGlobals "int" = some none ∧ PySem.W.nsIn K mainGlobals "isinstance" = some none ∧ PySem.W.nsIn K mainGlobals "len" = some none ∧ PySem.W.nsIn K mainGlobals "list" = some none ∧ PySem.W.nsIn K mainGlobals "max" = some none ∧ PySem.W.nsIn K mainGlobals "min" = some none ∧ PySem.W.nsIn K mainGlobals "range" = some none ∧ PySem.W.nsIn K mainGlobals "set" = some none ∧ PySem.W.nsIn K mainGlobals "sorted" = some none ∧ PySem.W.nsIn K mainGlobals "tuple" = some none ∧ PySem.W.nsIn K mainGlobals "zip" = some none)
  {t_MOST_COLUMNS:Tok} (y_MOST_COLUMNS:PySem.W.nsIn K mainGlobals "MOST_COLUMNS" = some (some (.int 7 t_MOST_COLUMNS)))
  {t_MOST_HEADS:Tok} (y_MOST_HEADS:PySem.W.nsIn K mainGlobals "MOST_HEADS" = some (some (.int 6 t_MOST_HEADS)))
 :∃ fd:FuncData,(∀ (s:Shared) (v:Value),BindsTo s fd ⟨[v],[]⟩ [("_law_script",v)]) ∧ ∀ base:Heap,K.In base -> base.Ns mainGlobals mg -> c8 l.prog w K mg base cT 7 fa fd ["_law_script"] qR:= by
 have m:Bi mg:=⟨PySem.W.mg_none_of X G z.1,PySem.W.mg_none_of X G z.2.1,PySem.W.mg_none_of X G z.2.2.1,PySem.W.mg_none_of X G z.2.2.2.1,PySem.W.mg_none_of X G z.2.2.2.2.1,PySem.W.mg_none_of X G z.2.2.2.2.2.1,PySem.W.mg_none_of X G z.2.2.2.2.2.2.1,PySem.W.mg_none_of X G z.2.2.2.2.2.2.2.1,PySem.W.mg_none_of X G z.2.2.2.2.2.2.2.2.1,PySem.W.mg_none_of X G z.2.2.2.2.2.2.2.2.2.1,PySem.W.mg_none_of X G z.2.2.2.2.2.2.2.2.2.2.1,PySem.W.mg_none_of X G z.2.2.2.2.2.2.2.2.2.2.2.1,PySem.W.mg_none_of X G z.2.2.2.2.2.2.2.2.2.2.2.2.1,PySem.W.mg_none_of X G z.2.2.2.2.2.2.2.2.2.2.2.2.2,⟨_,PySem.W.mg_of X G y_MOST_COLUMNS⟩,⟨_,PySem.W.mg_of X G y_MOST_HEADS⟩⟩
 have E_is_whole:=ent X G e_is_whole (ps:=["thing"]) fun _ _ _ _ _ _ us hl => by obtain ⟨_,rfl⟩:=i6 hl; rfl
 have E_is_below:=ent X G e_is_below (ps:=["thing","many"]) fun _ _ _ _ _ _ us hl => by obtain ⟨_,_,rfl⟩:=dw hl; rfl
 have E_are_below:=ent X G e_are_below (ps:=["thing","many"]) fun _ _ _ _ _ _ us hl => by obtain ⟨_,_,rfl⟩:=dw hl; rfl
 have E_are_unlike:=ent X G e_are_unlike (ps:=["things"]) fun _ _ _ _ _ _ us hl => by obtain ⟨_,rfl⟩:=i6 hl; rfl
 have E_are_all_below:=ent X G e_are_all_below (ps:=["thing","many"]) fun _ _ _ _ _ _ us hl => by obtain ⟨_,_,rfl⟩:=dw hl; rfl
 have E_is_rising:=ent X G e_is_rising (ps:=["things"]) fun _ _ _ _ _ _ us hl => by obtain ⟨_,rfl⟩:=i6 hl; rfl
 have E_linked:=ent X G e_linked (ps:=["labels","one","other"]) fun _ _ _ _ _ _ us hl => by obtain ⟨_,_,_,rfl⟩:=Aq hl; rfl
 have E_is_head:=ent X G e_is_head (ps:=["thing","many"]) fun _ _ _ _ _ _ us hl => by obtain ⟨_,_,rfl⟩:=dw hl; rfl
 have E_is_layout:=ent X G e_is_layout (ps:=["thing"]) fun _ _ _ _ _ _ us hl => by obtain ⟨_,rfl⟩:=i6 hl; rfl
 have E_need_head:=ent X G e_need_head (ps:=["layout","thing"]) fun _ _ _ _ _ _ us hl => by obtain ⟨_,_,rfl⟩:=dw hl; rfl
 have E_heads_of:=ent X G e_heads_of (ps:=["layout","column"]) fun _ _ _ _ _ _ us hl => by obtain ⟨_,_,rfl⟩:=dw hl; rfl
 have E_common:=ent X G e_common (ps:=["layout","one","other"]) fun _ _ _ _ _ _ us hl => by obtain ⟨_,_,_,rfl⟩:=Aq hl; rfl
 have E_pieces:=ent X G e_pieces (ps:=["layout"]) fun _ _ _ _ _ _ us hl => by obtain ⟨_,rfl⟩:=i6 hl; rfl
 have E_moved:=ent X G e_moved (ps:=["heads","places"]) fun _ _ _ _ _ _ us hl => by obtain ⟨_,_,rfl⟩:=dw hl; rfl
 have E_named:=ent X G e_named (ps:=["layout","order"]) fun _ _ _ _ _ _ us hl => by obtain ⟨_,_,rfl⟩:=dw hl; rfl
 have E_beside:=ent X G e_beside (ps:=["one","other"]) fun _ _ _ _ _ _ us hl => by obtain ⟨_,_,rfl⟩:=dw hl; rfl
 have E_without:=ent X G e_without (ps:=["layout","head"]) fun _ _ _ _ _ _ us hl => by obtain ⟨_,_,rfl⟩:=dw hl; rfl
 have E__law_cell:=ent X G e__law_cell (ps:=["_law_script","_law_k"]) fun _ _ _ _ _ _ us hl => by obtain ⟨_,_,rfl⟩:=dw hl; rfl
 have E__law_box:=ent X G e__law_box (ps:=["_law_script","_law_k"]) fun _ _ _ _ _ _ us hl => by obtain ⟨_,_,rfl⟩:=dw hl; rfl
 have E__law_take:=ent X G e__law_take (ps:=["_law_box_here","_law_many"]) fun _ _ _ _ _ _ us hl => by obtain ⟨_,_,rfl⟩:=dw hl; rfl
 have E__law_layout:=ent X G e__law_layout (ps:=["_law_box_here"]) fun _ _ _ _ _ _ us hl => by obtain ⟨_,rfl⟩:=i6 hl; rfl
 have E__law_order:=ent X G e__law_order (ps:=["_law_box_here","_law_many"]) fun _ _ _ _ _ _ us hl => by obtain ⟨_,_,rfl⟩:=dw hl; rfl
 have E__law_right:=ent X G e__law_right (ps:=["_law_layout_here"]) fun _ _ _ _ _ _ us hl => by obtain ⟨_,rfl⟩:=i6 hl; rfl
 have E__law_named_right:=ent X G e__law_named_right (ps:=["_law_box_here","_law_layout_here"]) fun _ _ _ _ _ _ us hl => by obtain ⟨_,_,rfl⟩:=dw hl; rfl
 have E__law_beside_right:=ent X G e__law_beside_right (ps:=["_law_layout_here"]) fun _ _ _ _ _ _ us hl => by obtain ⟨_,rfl⟩:=i6 hl; rfl
 exact Fq X G hfa e_law (fun _ _ _ _ _ _ s v => .of_eq rfl) eG (fun base => by
  have G_q13:eL l.prog w K mg base 1:=BG (k:=0) E_is_whole m
  have G_q15:dq l.prog w K mg base 2:=CK (k:=1) E_is_below (G_q13.up (by decide))
  have G_q7:dM l.prog w K mg base 3:=D_ (k:=2) E_are_below m (G_q15.up (by decide))
  have G_q4:eN l.prog w K mg base 1:=Dq (k:=0) E_are_unlike m
  have G_q2:df l.prog w K mg base 4:=D1 (k:=3) E_are_all_below m (G_q7.up (by decide)) (G_q4.up (by decide))
  have G_q11:fB l.prog w K mg base 1:=BA (k:=0) E_is_rising m
  have G_q21:j6 l.prog w K mg base 1:=CM (k:=0) E_linked m
  have G_q18:iK l.prog w K mg base 4:=AF (k:=3) E_is_head m (G_q7.up (by decide)) (G_q11.up (by decide))
  have G_q9:fu l.prog w K mg base 5:=C6 (k:=4) E_is_layout m (G_q18.up (by decide)) (G_q13.up (by decide))
  have G_q10:dQ l.prog w K mg base 3:=CC (k:=2) E_need_head m (G_q15.up (by decide))
  have G_q16:eR l.prog w K mg base 3:=Cc (k:=2) E_heads_of m (G_q15.up (by decide))
  have G_q20:eE l.prog w K mg base 4:=Ba (k:=3) E_common m (G_q10.up (by decide))
  have G_q19:fE l.prog w K mg base 5:=Cn (k:=4) E_pieces m (G_q20.up (by decide)) (G_q21.up (by decide))
  have G_q23:jz l.prog w K mg base 1:=Cg (k:=0) E_moved m
  have G_q24:mj l.prog w K mg base 5:=B6 (k:=4) E_named m (G_q2.up (by decide)) (G_q23.up (by decide))
  have G_q22:j9 l.prog w K mg base 2:=BR (k:=1) E_beside m (G_q23.up (by decide))
  have G_q17:iU l.prog w K mg base 4:=B8 (k:=3) E_without m (G_q10.up (by decide))
  have G_q12:fC l.prog w K mg base 1:=AW (k:=0) E__law_cell m
  have G_q14:gx l.prog w K mg base 2:=Cw (k:=1) E__law_box m (G_q12.up (by decide))
  have G_q8:cC l.prog w K mg base 1:=Dd (k:=0) E__law_take
  have G_q3:dW l.prog w K mg base 2:=Er (k:=1) E__law_layout m (G_q8.up (by decide))
  have G_q5:eS l.prog w K mg base 2:=Dn (k:=1) E__law_order m (G_q8.up (by decide))
  have G_q6:eY l.prog w K mg base 6:=Dw (k:=5) E__law_right m (G_q20.up (by decide)) (G_q16.up (by decide)) (G_q19.up (by decide))
  have G_q1:cy l.prog w K mg base 6:=DU (k:=5) E__law_named_right m (G_q5.up (by decide)) (G_q8.up (by decide)) (G_q20.up (by decide)) (G_q9.up (by decide)) (G_q24.up (by decide)) (G_q19.up (by decide))
  have G_q0:cp l.prog w K mg base 6:=C5 (k:=5) E__law_beside_right m (G_q22.up (by decide)) (G_q16.up (by decide)) (G_q19.up (by decide))
  exact Eg (k:=6) m (G_q0.up (by decide)) (G_q14.up (by decide)) (G_q3.up (by decide)) (G_q1.up (by decide)) (G_q6.up (by decide)) (G_q8.up (by decide)) (G_q20.up (by decide)) (G_q17.up (by decide))) fun _ _ _ F => Bb F uE
end K04
open PySem PySem.W PyProof.Rows
set_option maxRecDepth 100000
set_option maxHeartbeats 0
namespace TopAll
open PySem PySem.W PySem.Calls PyProof.Rows
def run (st:SharedT→Thread→Option (SharedT×Thread)) (ok:Thread→Bool):Nat→SharedT→Thread→Option SharedT
 |0,_,_=>none
 |n+1,s,t=>match through t with
  |true=>some s
  |false=>match ok t with
   |false=>none
   |true=>match st s t with
    |some (s',t')=>run st ok n s' t'
    |none=>none
theorem run_spec {tb:String→Option Builtin} {p:Program} {w:World} {m:Nat} {an:Option Value}:∀ {n:Nat} {s s':SharedT} {t:Thread},
  run (stepT (denote tb) p w) (stepOk m an) n s t=some s' → topRun tb p w m an n s.abs t=some s'.abs
 |0,_,_,_,h=>by cases h
 |n+1,s,s',t,h=>by
  unfold run at h
  unfold topRun
  cases ht:through t with
  |true=>rw [ht] at h;cases h;rfl
  |false=>
   rw [ht] at h
   cases hk:stepOk m an t with
   |false=>rw [hk] at h;cases h
   |true=>
    rw [hk] at h
    cases hs:stepT (denote tb) p w s t with
    |none=>rw [hs] at h;cases h
    |some r=>obtain ⟨s2,t2⟩:=r;rw [hs] at h;rw [stepT_spec hs];exact run_spec h
noncomputable def boot (w:World) (os:OsState):SharedT:=⟨(boot_heap w.params).objs.toList.zipIdx.foldl (fun t x=>t.ins x.2 x.1) BT.nil,11,(boot_heap w.params).life,Array.mk [],boot_drawn,boot_toks,os⟩
theorem boot_abs (w:World) (os:OsState):(boot w os).abs=⟨boot_heap w.params,Array.mk [],boot_drawn,boot_toks,os⟩:=by kernel_rfl
theorem boot_size (w:World):((boot_heap w.params).isNs mainGlobals && (Array.mk []:Array GenState).size==0,(boot_heap w.params).objs.size,(boot_heap w.params).nsMap mainGlobals "__annotations__")=(true,11,some (.ref 6)):=by kernel_rfl
noncomputable abbrev go (p:Program) (w:World) (N:Nat) (os:OsState):Option SharedT:=run (Fast.tw10156331382660048174 (Fast.tw11892475500146522536 Fast.tw14364793385576792824) p w) (Fast.tw6613529449190102663 11 (some (.ref 6))) N (boot w os) (topStub p)
theorem left {p q:Program} {lo:List Str} {Xt:Shared→Bool} {α:Type} {Yf:Shared→α} {Ya:World→α} {N:Nat} {g0:Bool}
  (e:opening p=plainProg p.main.scope.names) (hN:Nat.ble 600 N=true) (f:∀ s,fenceModules? p s=some s)
  (u1:∀ w:World,(fun os=>(go p w N os).map fun S=>((staticsOk (importedModules p.main.body) (boot_heap w.params) S.abs.heap && namesBound p S.abs.heap && gensDone S.abs && laidKept (boot_heap w.params) S.abs.heap),
   (Fast.tw4187177175401517315 q lo (Fast.tw5923862056798008813 p.main.body) Xt g0 S.abs).1))=fun _=>some (true,(openGood q lo).1))
  (u2:∀ w:World,(fun os=>(go p w N os).map fun S=>(Fast.tw4187177175401517315 q lo (Fast.tw5923862056798008813 p.main.body) Xt g0 S.abs).2)=fun _=>some (openGood q lo).2)
  (u3:∀ w:World,(fun os=>(go p w N os).map fun S=>Yf S.abs)=fun _=>some (Ya w)):LeftO p q lo Xt Yf Ya N g0:=fun w=>by
 obtain ⟨⟨h,gs,d,k,os⟩,e1,e'⟩:=Option.map_eq_some_iff.mp (boot_open e hN f w)
 obtain ⟨rfl,rfl,rfl,rfl⟩:h=boot_heap w.params∧gs=Array.mk []∧d=boot_drawn∧k=boot_toks:=by simpa using e'
 obtain ⟨z1,z2,z3⟩:_∧_∧_:=by simpa only [Prod.mk.injEq] using boot_size w
 obtain ⟨S,r,l1⟩:=Option.map_eq_some_iff.mp (congrFun (u1 w) os)
 have l2:=congrFun (u2 w) os
 have l3:=congrFun (u3 w) os
 simp only [r,Option.map_some,Option.some.injEq] at l2 l3
 obtain ⟨l1,l4⟩:=Prod.mk.inj l1
 rw [←Fast.te4187177175401517315,←Fast.te5923862056798008813] at l2 l4
 unfold go at r
 rw [←Fast.te10156331382660048174,←Fast.te11892475500146522536,←Fast.te14364793385576792824,←Fast.te6613529449190102663] at r
 have r:=run_spec r
 rw [boot_abs] at r
 have t:topFrom treeTable p w N ⟨boot_heap w.params,Array.mk [],boot_drawn,boot_toks,os⟩=some S.abs:=by
  unfold topFrom
  dsimp only
  rw [z1,z2,z3,r]
  show (match staticsOk (importedModules p.main.body) (boot_heap w.params) S.abs.heap && namesBound p S.abs.heap && gensDone S.abs && laidKept (boot_heap w.params) S.abs.heap with |true=>_|false=>_)=_
  rw [l1]
 unfold openEnds
 rw [e1]
 show (topFrom treeTable p w N _).map _=_
 rw [t]
 exact congrArg some (Prod.ext (Prod.ext l4 l2) l3)
end TopAll
abbrev TopAll.q:PySem.Program:=PySem.W.view PySem.Challenge.rw_jointrees_k04_whole_layouts_together.prog [1,2,3,4,5,7,8,9,10,11,12,13,15,16,17,18,19,20,21,22,23,24,25,26,28,29,30,31,32,33,34,35,36]
open PySem PySem.W PySem.Calls PyProof.Rows
theorem TopAll.law:PySem.Challenge.rw_jointrees_k04_whole_layouts_together.wellSaid=true:=by
 rw [Fast.te9446332074065402090]
 kernel_rfl
theorem TopAll.u1 (w:World):(fun os=>(TopAll.go PySem.Challenge.rw_jointrees_k04_whole_layouts_together.row.prog w 8000 os).map fun S=>((staticsOk (importedModules PySem.Challenge.rw_jointrees_k04_whole_layouts_together.row.prog.main.body) (boot_heap w.params) S.abs.heap && namesBound PySem.Challenge.rw_jointrees_k04_whole_layouts_together.row.prog S.abs.heap && gensDone S.abs && laidKept (boot_heap w.params) S.abs.heap),
   (Fast.tw4187177175401517315 TopAll.q [] (Fast.tw5923862056798008813 PySem.Challenge.rw_jointrees_k04_whole_layouts_together.row.prog.main.body) (fun s=>xlAt TopAll.q [] s && recOk [] s) true S.abs).1))=fun _=>some (true,(openGood TopAll.q []).1):=by kernel_rfl
theorem TopAll.u2 (w:World):(fun os=>(TopAll.go PySem.Challenge.rw_jointrees_k04_whole_layouts_together.row.prog w 8000 os).map fun S=>(Fast.tw4187177175401517315 TopAll.q [] (Fast.tw5923862056798008813 PySem.Challenge.rw_jointrees_k04_whole_layouts_together.row.prog.main.body) (fun s=>xlAt TopAll.q [] s && recOk [] s) true S.abs).2)=fun _=>some (openGood TopAll.q []).2:=by kernel_rfl
set_option hygiene false in
local macro_rules |`(tactic|o_head $H)=>`(tactic|(refine holds_open (r:=PySem.Challenge.rw_jointrees_k04_whole_layouts_together.row) (q:=TopAll.q) (loose:=[]) (Xt:=fun s=>xlAt TopAll.q [] s && recOk [] s) (XP:=XL TopAll.q []) (Yf:=Hook.obs $H) (Ya:=Hook.val $H) (YP:=Hook.says $H) (N:=8000) ?hl (Hook.of $H) (Hook.keeps $H) (fun s e=>xl_of s (Bool.and_eq_true_iff.mp e).1) XL.keeps (by rfl) (by rfl) (by rfl) (fun s e=>recFacts_of (Bool.and_eq_true_iff.mp e).2) (by rfl) (by assumption) (by decide +kernel) ⟨rfl,rfl,rfl,rfl,rfl,by decide +kernel⟩ ?hw ?hc;(case hl=>exact TopAll.left (by kernel_rfl) (by decide) (fun s=>by kernel_rfl) TopAll.u1 TopAll.u2 (fun w=>by kernel_rfl))))
set_option maxRecDepth 100000 in
set_option maxHeartbeats 0 in
theorem PySem.Challenge.cw_jointrees_k04_whole_layouts_together_holds : PySem.Challenge.rw_jointrees_k04_whole_layouts_together.Holds := by
 w_on;refine holds_law TopAll.law fun said=>?_;k_head;(case hw=>w_witness2)
 k_fill
 refine Jt.walkD (l:=PySem.Challenge.rw_jointrees_k04_whole_layouts_together) (k:=7) rfl rfl ⟨rfl,by decide,by decide,rfl⟩ (fun w h Y => PySem.W.kIn_of Y) ?L ?F
 case L => intro w; kernel_rfl
 case F =>
  intro w mg fa h KX G hmg
  refine' K04.all_mk KX G hmg ?_ ?_ ?_ ?_ ?_ ?_ ?_ ?_ ?_ ?_ ?_ ?_ ?_ ?_ ?_ ?_ ?_ ?_ ?_ ?_ ?_ ?_ ?_ ?_ ?_ ?_ ?z ?y_MOST_COLUMNS ?y_MOST_HEADS
  (case y_MOST_COLUMNS => k_is)
  (case y_MOST_HEADS => k_is)
  case z => refine ⟨?_,?_,?_,?_,?_,?_,?_,?_,?_,?_,?_,?_,?_,?_⟩ <;> k_is
  all_goals (refine' Jt.fh_mk ?a ?l ?c ?k; (case a => k_is); (case l => k_is); (case c => k_is); (case k => k_is))
