import PyProof.Rows.All
import Wide.All
import OpenK.AllK
import Wide.FinOn
import Lean
import PyProof.Rows.SetFrom
import PyProof.WalksMore
import PyProof.SetRoads
import PyProof.ListRange
import PyProof.Rows.SortWalk
import PyProof.CollectWalk
import PyProof.ZipIter
import PyProof.EnumStmt
import PyProof.EqAt
import PyProof.EqKinds
import PyProof.TupleCall
import PyProof.CompFree
import PyProof.Cells
import PyProof.ConsumeWalk
import PyProof.TupleOfSeq
import PyProof.NeKinds
import PyProof.IsiPairs
import PyProof.IsiHeapPairs
import PyProof.IsInstanceT
import PyProof.IsiTupleOf
import KE.KSortTup
import KE.KTryMore
import PyProof.ExcBaseAll.ValueError
import KE.RegMulBits
import Wide.ObjOpen
import Wide.RegSB
import PyProof.ReprRoads
import PyProof.Rows.DictMade
import PyProof.Rows.DictMethods
import PyProof.ListMulRoad
import PyProof.FactsAll.tuple_2
import PySem.Challenge.RW_jointrees_k42_wreaths
noncomputable section
set_option Elab.async false
set_option linter.all false
set_option maxRecDepth 100000
set_option maxHeartbeats 4000000
namespace Jt
open PySem
def Up (xs:Array Nat):Prop:=xs.toList.Pairwise (· < ·)
theorem Up.lt {xs:Array Nat} (u:Up xs) {i k a b:Nat} (h:i < k) (ha:xs[i]? = some a) (hb:xs[k]? = some b):a < b:= by
 rw [<- Array.getElem?_toList] at ha hb
 obtain ⟨hi,e1⟩:=List.getElem?_eq_some_iff.mp ha
 obtain ⟨hk,e2⟩:=List.getElem?_eq_some_iff.mp hb
 rw [<- e1,<- e2]
 exact List.pairwise_iff_getElem.mp u i k hi hk h
theorem zm {xs:Array Nat} {j:Nat} (u:Up xs):∀ (fuel lo hi:Nat),hi ≤ xs.size -> lo ≤ hi -> hi - lo ≤ fuel ->
  (∀ i v,i < lo -> xs[i]? = some v -> v < j) -> (∀ i v,hi ≤ i -> xs[i]? = some v -> j ≤ v) ->
  SetTable.below.go xs j fuel lo hi ≤ xs.size ∧ (∀ i v,i < SetTable.below.go xs j fuel lo hi -> xs[i]? = some v -> v < j) ∧ ∀ i v,SetTable.below.go xs j fuel lo hi ≤ i -> xs[i]? = some v -> j ≤ v:= by
 intro fuel
 induction fuel with
 | zero =>
  intro lo hi h1 h2 h3 h4 h5
  unfold SetTable.below.go
  have:lo = hi:=by omega
  subst this
  exact ⟨h1,h4,h5⟩
 | succ fuel ih =>
  intro lo hi h1 h2 h3 h4 h5
  unfold SetTable.below.go
  by_cases hl:lo < hi
  ·rw [if_pos hl]
   have hm:(lo + hi) / 2 < xs.size:=by omega
   have eg:xs.getD ((lo + hi) / 2) j = xs[(lo + hi) / 2]:=by simp [Array.getD,hm]
   have em:xs[(lo + hi) / 2]? = some xs[(lo + hi) / 2]:=by simp [hm]
   dsimp only
   by_cases hc:xs.getD ((lo + hi) / 2) j < j
   ·rw [if_pos hc]
    refine ih _ _ h1 (by omega) (by omega) (fun i v hi' e => ?_) h5
    rcases Nat.lt_or_eq_of_le (Nat.le_of_lt_succ hi') with q | q
    ·have:=u.lt q e em
     omega
    ·subst q; rw [em] at e; cases e; omega
   ·rw [if_neg hc]
    refine ih _ _ (by omega) (by omega) (by omega) h4 fun i v hi' e => ?_
    rcases Nat.lt_or_eq_of_le hi' with q | q
    ·have:=u.lt q em e
     omega
    ·subst q; rw [em] at e; cases e; omega
  ·rw [if_neg hl]
   have:lo = hi:=by omega
   subst this
   exact ⟨h1,h4,h5⟩
theorem rQ {xs:Array Nat} (u:Up xs) (j:Nat):SetTable.below xs j ≤ xs.size ∧ (∀ i v,i < SetTable.below xs j -> xs[i]? = some v -> v < j) ∧ ∀ i v,SetTable.below xs j ≤ i -> xs[i]? = some v -> j ≤ v:= by
 unfold SetTable.below
 refine zm u _ _ _ (Nat.le_refl _) (Nat.zero_le _) (by omega) (fun i v h => absurd h (Nat.not_lt_zero _)) fun i v h e => ?_
 rw [Array.getElem?_eq_none h] at e
 cases e
theorem vK {xs:Array Nat} (u:Up xs) {j:Nat} (h:xs[SetTable.below xs j]? ≠ some j):j ∉ xs.toList:=fun hm => by
 obtain ⟨i,hi,e⟩:=List.getElem_of_mem hm
 have ei:xs[i]? = some j:=by rw [<- Array.getElem?_toList,List.getElem?_eq_getElem hi,e]
 obtain ⟨_,b1,b2⟩:=rQ u j
 rcases Nat.lt_trichotomy i (SetTable.below xs j) with q | q | q
 ·exact absurd (b1 i j q ei) (Nat.lt_irrefl _)
 ·rw [<- q] at h; exact h ei
 ·have hb:SetTable.below xs j < xs.size:=Nat.lt_of_lt_of_le q (by simpa using Nat.le_of_lt hi)
  have e2:xs[SetTable.below xs j]? = some xs[SetTable.below xs j]:=by simp [hb]
  have:=u.lt q e2 ei
  have:=b2 _ _ (Nat.le_refl _) e2
  omega
theorem wI {xs:Array Nat} (u:Up xs) {j:Nat} (h:j ∉ xs.toList):Up (SetTable.insertAt xs (SetTable.below xs j) j):= by
 unfold Up
 rw [SetTable.toList_insertAt]
 obtain ⟨b0,b1,b2⟩:=rQ u j
 have u':xs.toList.Pairwise (· < ·):=u
 have hd:∀ y ∈ xs.toList.drop (SetTable.below xs j),j < y:=fun y hy => by
  obtain ⟨i,hi,e⟩:=List.getElem_of_mem hy
  rw [List.getElem_drop] at e
  have hm:y ∈ xs.toList:=List.mem_of_mem_drop hy
  have:=b2 (SetTable.below xs j + i) y (by omega) (by rw [<- Array.getElem?_toList,List.getElem?_eq_some_iff]; exact ⟨by simp at hi; simp; omega,e⟩)
  rcases Nat.lt_or_eq_of_le this with q | q
  ·exact q
  ·subst q; exact absurd hm h
 have ht:∀ y ∈ xs.toList.take (SetTable.below xs j),y < j:=fun y hy => by
  obtain ⟨i,hi,e⟩:=List.getElem_of_mem hy
  rw [List.getElem_take] at e
  have hi':i < SetTable.below xs j ∧ i < xs.toList.length:=by rw [List.length_take] at hi; omega
  exact b1 i y hi'.1 (by rw [<- Array.getElem?_toList,List.getElem?_eq_some_iff]; exact ⟨hi'.2,e⟩)
 rw [List.pairwise_append]
 refine ⟨u'.sublist (List.take_sublist _ _),?_,fun a ha b hb => ?_⟩
 ·rw [List.pairwise_cons]
  exact ⟨hd,u'.sublist (List.drop_sublist _ _)⟩
 ·rcases List.mem_cons.mp hb with e | hb
  ·rw [e]; exact ht a ha
  ·exact Nat.lt_trans (ht a ha) (hd b hb)
def Tb (t:SetTable):Prop:=t.plain = true -> Up t.place
theorem wj {t:SetTable} {j:Nat} (u:Up t.place) (h:t.slot j = .empty ∨ t.slot j = .dummy):j ∉ t.place.toList:= by
 refine vK u fun e => ?_
 unfold SetTable.slot at h
 dsimp only at h
 rw [if_pos (by rw [e]; simp)] at h
 rcases h with h | h <;> cases h
theorem jh (t:SetTable) (p:SetTable.Probe):(t.advance p).dummy = p.dummy:= by
 unfold SetTable.advance
 split <;> rfl
theorem ur {t:SetTable} {f:Nat -> Int} {h:Int}:∀ (fuel:Nat) (p:SetTable.Probe) (j:Nat) (d:Option Nat),(∀ x,p.dummy = some x -> t.slot x = .dummy) ->
  SetTable.probe.go t f h fuel p = some (.empty j d) -> t.slot (d.getD j) = .empty ∨ t.slot (d.getD j) = .dummy:= by
 intro fuel
 induction fuel with
 | zero => intro p j d _ e; unfold SetTable.probe.go at e; cases e
 | succ fuel ih =>
  intro p j d hp e
  unfold SetTable.probe.go at e
  cases q:t.slot p.j with
  | empty =>
   rw [q] at e
   injection e with e
   injection e with e1 e2
   subst e1
   cases d with
   | none => exact .inl q
   | some x => exact .inr (hp x e2)
  | dummy =>
   rw [q] at e
   dsimp only at e
   refine ih _ j d (fun x hx => ?_) e
   rw [jh] at hx
   cases hx
   exact q
  | live i =>
   rw [q] at e
   dsimp only at e
   split at e
   ·cases e
   ·exact ih _ j d (fun x hx => hp x (by rw [jh] at hx; exact hx)) e
theorem nK {t:SetTable} {h:Int} {j:Nat} {b:Bool} (u:Up t.place) (e:t.freeSlot h = some (j,b)):j ∉ t.place.toList:= by
 unfold SetTable.freeSlot at e
 split at e
 ·rename_i j' d q
  cases e
  exact wj u (ur _ _ _ _ (fun x hx => by unfold SetTable.probeStart at hx; cases hx) q)
 ·cases e
theorem wk {t:SetTable} (h:Tb t) (es:Array (Int × Value)) (k:Int) (x:Value):Tb (layNew t es k x).2.1 ∧ (layNew t es k x).2.1.led = t.led:= by
 unfold layNew
 split
 ·rename_i j b e
  dsimp only
  unfold SetTable.orStandIn
  split
  ·exact ⟨fun hp => wI (h hp) (nK (h hp) e),rfl⟩
  ·exact ⟨fun hp => absurd (show false = true from hp) Bool.false_ne_true,rfl⟩
 ·exact ⟨fun hp => absurd (show false = true from hp) Bool.false_ne_true,rfl⟩
theorem Bu {mask finger moves:Nat} {led plain:Bool} {hs:Array Int} {t:SetTable} {o:Array Nat} (e:SetTable.laid mask finger moves led plain hs = some (t,o)):Up t.place ∧ t.led = led:= by
 unfold SetTable.laid at e
 cases q:SetTable.layClean mask hs with
 | none => rw [q] at e; cases e
 | some owner =>
  rw [q] at e
  injection e with e
  injection e with e1 e2
  subst e1
  refine ⟨?_,rfl⟩
  show (List.map _ _).Pairwise _
  rw [List.pairwise_map]
  rw [List.pairwise_filterMap]
  refine List.Pairwise.imp (fun {a b} hab x hx y hy => ?_) List.pairwise_lt_range
  cases q1:owner.getD a none with
  | none => rw [q1] at hx; cases hx
  | some _ =>
   cases q2:owner.getD b none with
   | none => rw [q2] at hy; cases hy
   | some _ => rw [q1] at hx; rw [q2] at hy; cases hx; cases hy; exact hab
theorem se (t:SetTable) (es:Array (Int × Value)) (n:Nat):Tb (relayAll t es n).2.1 ∧ (relayAll t es n).2.1.led = t.led:= by
 unfold relayAll
 split
 ·rename_i t' o e
  dsimp only
  split
  ·obtain ⟨h1,h2⟩:=Bu e
   exact ⟨fun _ => h1,h2⟩
  ·exact ⟨fun hp => absurd (show false = true from hp) Bool.false_ne_true,rfl⟩
 ·exact ⟨fun hp => absurd (show false = true from hp) Bool.false_ne_true,rfl⟩
def eo (p:Int × Tok):Int × Value:=(hashInt p.1,.int p.1 p.2)
def ed (e:Int × Value):Int × Tok:=match e.2 with
 | .int i t => (i,t)
 | _ => (0,0)
theorem Hy (p:Int × Tok):ed (eo p) = p:=rfl
theorem uD {es:Array (Int × Value)} {l:List (Int × Tok)} (p:es.toList.Perm (l.map eo)):∃ l':List (Int × Tok),es.toList = l'.map eo ∧ l'.Perm l:= by
 refine ⟨es.toList.map ed,?_,?_⟩
 ·rw [List.map_map]
  have:es.toList.map (eo ∘ ed) = es.toList.map id:=List.map_congr_left fun x hx => by
   obtain ⟨q,_,rfl⟩:=List.mem_map.mp (p.mem_iff.mp hx)
   rfl
  rw [this,List.map_id]
 ·have:=p.map ed
  rw [List.map_map] at this
  have e:l.map (ed ∘ eo) = l:= by
   have:(ed ∘ eo) = id:=funext Hy
   rw [this,List.map_id]
  rwa [e] at this
structure fw (w:World) (h:Heap) (a:Addr) (l:List (Int × Tok)) (ep:Nat) (t:SetTable):Prop where
 obj:∃ o,h.get? a = some o ∧ o.ExactSet ∧ o.data = .set (l.map eo).toArray ep t
 few:l.length < scanBound
 fits:t.fits l.length = true
 led:t.led = !w.params.followText "set-order"
 tb:Tb t
end Jt
namespace Jt
open PySem
section
variable {prog:Program} {w:World} {A:Around} {E:Value -> Shared -> Prop} {s:Shared} {a:Addr} {l:List (Int × Tok)} {ep:Nat} {t:SetTable}
theorem zw (l:List (Int × Tok)):ElemsOf (intKind prog w) (l.map eo):=fun e he => by
 obtain ⟨p,_,rfl⟩:=List.mem_map.mp he
 exact ⟨⟨p.1,by simp [eo,intKind,Value.isInt],rfl⟩,rfl⟩
theorem A9 (k:Int) (l:List (Int × Tok)):((l.map eo).findIdx? fun e => (intKind prog w).is k e.2).isSome = decide (k ∈ l.map (·.1)):= by
 rw [Bool.eq_iff_iff,decide_eq_true_eq,List.findIdx?_isSome,List.any_eq_true]
 constructor
 ·rintro ⟨e,he,hk⟩
  obtain ⟨p,hp,rfl⟩:=List.mem_map.mp he
  obtain ⟨u,eu⟩:=Value.isInt_shape (show Value.isInt k (.int p.1 p.2) = true from hk)
  injection eu with e1
  exact e1 ▸ List.mem_map.mpr ⟨p,hp,rfl⟩
 ·intro h
  obtain ⟨p,hp,rfl⟩:=List.mem_map.mp h
  exact ⟨eo p,List.mem_map_of_mem hp,by simp [eo,intKind,Value.isInt]⟩
theorem fw.store {h:Heap} {es:Array (Int × Value)} {l':List (Int × Tok)} {t':SetTable} (x:fw w h a l ep t) (he:es.toList = l'.map eo) (hn:l'.length < scanBound) (hf:t'.fits l'.length = true) (hl:t'.led = t.led) (hb:Tb t') :
  fw w (h.update a (Obj.putSet es t')) a l' (ep + 1) t':= by
 obtain ⟨o,ho,hx,hd⟩:=x.obj
 have e2:es = (l'.map eo).toArray:=by apply Array.toList_inj.mp; simpa using he
 refine ⟨⟨{ o with data:=.set es (ep + 1) t' },?_,hx,by rw [e2]⟩,hn,hf,hl.trans x.led,hb⟩
 have:=Heap.get?_update_self (Obj.putSet es t') ho (by rw [putSet_of es t' hd]; rfl)
 rwa [putSet_of es t' hd] at this
theorem mz {es:Array (Int × Value)} {t':SetTable} {Q:Unit -> Shared -> Prop} (x:fw w s.heap a l ep t) (hz:es.size < scanBound) (h:Q () { s with heap:=s.heap.update a (Obj.putSet es t') }) :
  wpAny (model prog w) A (storeSet a es t') Q E s:= by
 obtain ⟨o,ho,_,hd⟩:=x.obj
 exact wpAny_storeSet_of ho hd h (fits_of_scanBound hz)
theorem iK {es:Array (Int × Value)} {l':List (Int × Tok)} (h:es.toList = l'.map eo):es.size = l'.length:= by
 have:=congrArg List.length h
 simpa using this
theorem yI {k:Int} {tok:Tok} {Q:Bool -> Shared -> Prop} (x:fw w s.heap a l ep t) (hroom:l.length + 1 < scanBound)
  (h:∀ h' l' ep' t' b,Heap.SameBut a s.heap h' -> fw w h' a l' ep' t' -> (if k ∈ l.map (·.1) then l' = l else l'.Perm (l ++ [(k,tok)])) -> Q b { s with heap:=h' }) :
  wpAny (model prog w) A (setAddHashed a (.int k tok) (hashInt k)) Q E s:= by
 obtain ⟨o,ho,hx,hd⟩:=x.obj
 have hsz:(l.map eo).toArray.size = l.length:=by simp
 have hel:ElemsOf (intKind prog w) (l.map eo).toArray.toList:=by simpa using zw l
 have hft:t.fits (l.map eo).toArray.size = true:=by rw [hsz]; exact x.fits
 unfold setAddHashed setAddHashedIn
 refine wpAny_holding ?_
 refine wpAny_bind (wpAny_setState_of ho hd hft ?_)
 show wpAny _ _ (if byScan (.int k tok) (l.map eo).toArray = true then _ else _) _ _ _
 rw [if_pos (byScan_of (knd:=intKind prog w) rfl (by rw [hsz]; exact x.few) hel)]
 refine wpAny_bind ?_
 unfold setAddByScan
 refine wpAny_bind (wpAny_rule ?_)
 refine wpAny_bind (wpAny_setScan_of (knd:=intKind prog w) (k:=k) (intKind_is _ _ _ _) ho hd hft hel ?_)
 have hfi:=A9 (prog:=prog) (w:=w) k l
 rw [show (l.map eo).toArray.toList = l.map eo by simp]
 cases hr:(l.map eo).findIdx? (fun e => (intKind prog w).is k e.2) with
 | some j =>
  rw [hr] at hfi
  have hm:k ∈ l.map (·.1):=of_decide_eq_true hfi.symm
  dsimp only
  refine wpAny_pure (wpAny_pure ?_)
  have:=h s.heap l ep t false (Heap.SameBut.refl a s.heap) x (by rw [if_pos hm])
  exact this
 | none =>
  rw [hr] at hfi
  have hm:k ∉ l.map (·.1):=of_decide_eq_false hfi.symm
  dsimp only
  have p1:=layNew_perm t (l.map eo).toArray (hashInt k) (.int k tok)
  have f1:=layNew_fits t (l.map eo).toArray (hashInt k) (.int k tok)
  obtain ⟨b1,b2⟩:=wk x.tb (l.map eo).toArray (hashInt k) (.int k tok)
  generalize hL:layNew t (l.map eo).toArray (hashInt k) (.int k tok) = L at p1 f1 b1 b2 ⊢
  obtain ⟨es1,t1,dm,gv⟩:=L
  dsimp only at p1 f1 b1 b2 ⊢
  rw [Array.toList_push,show (l.map eo).toArray.toList ++ [(hashInt k,Value.int k tok)] = (l ++ [(k,tok)]).map eo by simp [eo]] at p1
  obtain ⟨l1,e1,q1⟩:=uD p1
  have n1:l1.length = l.length + 1:=by rw [q1.length_eq]; simp
  have z1:=iK e1
  have fin:∀ h' l' ep' t',Heap.SameBut a s.heap h' -> fw w h' a l' ep' t' -> l'.Perm l1 -> Q true { s with heap:=h' }:=fun h' l' ep' t' sb x' p' =>
   h h' l' ep' t' true sb x' (by rw [if_neg hm]; exact p'.trans q1)
  have gw:∀ (b:Bool) {s₁:Shared} {Q':Unit -> Shared -> Prop},Q' () s₁ -> wpAny (model prog w) A (match b with | true => rule "set.scan.the-table-gave-way" | false => pure ()) Q' E s₁:=fun b _ _ hq => by
   cases b
   ·exact wpAny_pure hq
   ·exact wpAny_rule hq
  refine wpAny_bind (gw gv ?_)
  have x1:fw w (s.heap.update a (Obj.putSet es1 t1)) a l1 (ep + 1) t1:=x.store e1 (by omega) (by rw [<- z1]; exact f1) b2 b1
  have sb1:=Heap.SameBut.update s.heap a (Obj.putSet es1 t1)
  have tl:∀ (g:Bool -> Sem Unit) (R:Option Bool -> Shared -> Prop),(∀ (b:Bool) {s₁:Shared} {Q':Unit -> Shared -> Prop},Q' () s₁ -> wpAny (model prog w) A (g b) Q' E s₁) ->
    (∀ h' l' ep' t',Heap.SameBut a s.heap h' -> fw w h' a l' ep' t' -> l'.Perm l1 -> R (some true) { s with heap:=h' }) ->
    wpAny (model prog w) A (storeSet a es1 t1 >>= fun _ => if (!dm && t1.tooFull) = true then (g (relayAll t1 es1 (SetTable.grown es1.size)).2.2 >>= fun _ =>
     storeSet a (relayAll t1 es1 (SetTable.grown es1.size)).1 (relayAll t1 es1 (SetTable.grown es1.size)).2.1 >>= fun _ => pure (some true)) else pure (some true)) R E s:=fun g R hg fin => by
   refine wpAny_bind (mz x (by rw [z1]; omega) ?_)
   by_cases hfull:(!dm && t1.tooFull) = true
   ·rw [if_pos hfull]
    have p2:=relayAll_perm t1 es1 (SetTable.grown es1.size)
    have f2:=relayAll_fits t1 es1 (SetTable.grown es1.size)
    obtain ⟨c1,c2⟩:=se t1 es1 (SetTable.grown es1.size)
    generalize hR:relayAll t1 es1 (SetTable.grown es1.size) = R at p2 f2 c1 c2 ⊢
    obtain ⟨es2,t2,gv2⟩:=R
    dsimp only at p2 f2 c1 c2 ⊢
    rw [e1] at p2
    obtain ⟨l2,e2,q2⟩:=uD p2
    have n2:l2.length = l1.length:=q2.length_eq
    have z2:=iK e2
    refine wpAny_bind (hg gv2 ?_)
    refine wpAny_bind (mz (s:={ s with heap:=s.heap.update a (Obj.putSet es1 t1) }) x1 (by rw [z2]; omega) (wpAny_pure ?_))
    exact fin _ l2 _ t2 (sb1.trans (Heap.SameBut.update _ a _)) (x1.store e2 (by omega) (by rw [<- z2]; exact f2) c2 c1) q2
   ·rw [if_neg hfull]
    exact wpAny_pure (fin _ l1 _ t1 sb1 x1 (List.Perm.refl _))
  split
  ·refine wpAny_bind (wpAny_pure ?_)
   exact tl _ _ gw fun h' l' ep' t' c1 c2 c3 => wpAny_pure (fin h' l' ep' t' c1 c2 c3)
  ·refine wpAny_bind (wpAny_pure ?_)
   exact tl _ _ gw fun h' l' ep' t' c1 c2 c3 => wpAny_pure (fin h' l' ep' t' c1 c2 c3)
end
end Jt
namespace Jt
open PySem
section
variable {prog:Program} {w:World} {A:Around} {E:Value -> Shared -> Prop} {s:Shared} {R:Result -> Shared -> Prop} {I:Addr} {fp wr:List Addr} {n:Nat} {P:Nat -> Value -> Prop} {St:Nat -> Heap -> Prop}
theorem fw.at {h h':Heap} {a:Addr} {l:List (Int × Tok)} {ep:Nat} {t:SetTable} (x:fw w h a l ep t) (k:∀ o,h.get? a = some o -> h'.get? a = some o):fw w h' a l ep t:= by
 obtain ⟨o,ho,hr⟩:=x.obj
 exact ⟨⟨o,k o ho,hr⟩,x.few,x.fits,x.led,x.tb⟩
theorem pf (W:Walks prog w A.in1 I fp wr n P St) (S:Addr) (hSf:S ∉ fp) (val:Nat -> Int) (hval:∀ i v,P i v -> ∃ t,v = .int (val i) t) (hb:n + 1 < scanBound) :
  ∀ (k i:Nat) (h:Heap) (tk:Nat) (l:List (Int × Tok)) (ep:Nat) (t:SetTable),n - i = k -> i ≤ n -> St i h -> fw w h S l ep t -> l.length ≤ i -> (l.map (·.1)).Nodup -> (∀ z,z ∈ l.map (·.1) ↔ ∃ j,j < i ∧ val j = z) ->
   (∀ h' tk' l' ep' t',(∀ b o,b ∉ S :: wr -> h.get? b = some o -> h'.get? b = some o) -> fw w h' S l' ep' t' -> (l'.map (·.1)).Nodup -> (∀ z,z ∈ l'.map (·.1) ↔ ∃ j,j < n ∧ val j = z) -> R (.ok (.ret .none)) { s with heap:=h',toks:=tk' }) ->
   codeAny (model prog w) A (.builtin "set.update.loop" ⟨[.ref S,.ref I],[]⟩) R { s with heap:=h,toks:=tk }:= by
 have hSw:S ∉ wr:=fun z => hSf (W.sub _ z)
 intro k
 induction k with
 | zero =>
  intro i h tk l ep t hk hi st x hl nd mem fin
  have ei:i = n:=by omega
  subst ei
  refine codeAny_builtin PyProof.Rows.F.entry_set_update_loop ?_
  rw [Around.under_plainId PyProof.Rows.F.plain_set_update_loop _]
  show wpAny (model prog w) A.in1 (pyNext (.ref I) >>= _) _ _ _
  refine wpAny_bind (W.done { s with heap:=h,toks:=tk } _ _ st fun h' tk' kp => ?_)
  exact wpAny_pure (fin h' tk' l ep t (fun b o hb' e => kp b o (fun z => hb' (List.mem_cons_of_mem _ z)) e) (x.at fun o e => kp S o hSw e) nd mem)
 | succ k ih =>
  intro i h tk l ep t hk hi st x hl nd mem fin
  have hlt:i < n:=by omega
  refine codeAny_builtin PyProof.Rows.F.entry_set_update_loop ?_
  rw [Around.under_plainId PyProof.Rows.F.plain_set_update_loop _]
  show wpAny (model prog w) A.in1 (pyNext (.ref I) >>= _) _ _ _
  refine wpAny_bind (W.item i { s with heap:=h,toks:=tk } _ _ hlt st fun v h1 tk1 hP st1 kp => ?_)
  obtain ⟨u,rfl⟩:=hval i v hP
  have x1:fw w h1 S l ep t:=x.at fun o e => kp S o hSw e
  show wpAny (model prog w) A.in1 (holding [Value.int (val i) u] (setAdd S (.int (val i) u)) >>= _) _ _ _
  refine wpAny_bind (wpAny_holding ?_)
  unfold setAdd
  refine wpAny_holding ?_
  refine wpAny_bind ((intKind prog w).pyHash (k:=val i) (intKind_is _ _ _ _) ?_)
  refine yI (s:={ s with heap:=h1,toks:=tk1 + 1 }) x1 (by omega) fun h2 l2 ep2 t2 b sb x2 hif => ?_
  have hm2:(∀ z,z ∈ l2.map (·.1) ↔ ∃ j,j < i + 1 ∧ val j = z) ∧ (l2.map (·.1)).Nodup ∧ l2.length ≤ i + 1:= by
   by_cases hm:val i ∈ l.map (·.1)
   ·rw [if_pos hm] at hif
    subst hif
    refine ⟨fun z => (mem z).trans ⟨fun ⟨j,h1,h2⟩ => ⟨j,by omega,h2⟩,fun ⟨j,h1,h2⟩ => ?_⟩,nd,by omega⟩
    by_cases hj:j < i
    ·exact ⟨j,hj,h2⟩
    ·have:j = i:=by omega
     subst this
     exact (mem z).mp (h2 ▸ hm)
   ·rw [if_neg hm] at hif
    have pm:(l2.map (·.1)).Perm (l.map (·.1) ++ [val i]):=by simpa using hif.map (·.1)
    refine ⟨fun z => ?_,?_,?_⟩
    ·rw [pm.mem_iff,List.mem_append,mem z,List.mem_singleton]
     constructor
     ·rintro (⟨j,h1,h2⟩ | e)
      ·exact ⟨j,by omega,h2⟩
      ·exact ⟨i,by omega,e.symm⟩
     ·rintro ⟨j,h1,h2⟩
      by_cases hj:j < i
      ·exact .inl ⟨j,hj,h2⟩
      ·have:j = i:=by omega
       subst this
       exact .inr h2.symm
    ·rw [pm.nodup_iff,List.nodup_append]
     refine ⟨nd,by simp,fun p hp q hq e => ?_⟩
     rw [List.mem_singleton] at hq
     subst hq; subst e
     exact hm hp
    ·rw [hif.length_eq]; simp; omega
  refine wpAny_pure ⟨plainId_quiet PyProof.Rows.F.plain_set_update_loop _,ih (i + 1) h2 (tk1 + 1) l2 ep2 t2 (by omega) hlt (W.frame _ h1 h2 st1 fun b hb' o e => ?_) x2 hm2.2.2 hm2.2.1 hm2.1 fun h' tk' l' ep' t' c1 c2 c3 c4 => fin h' tk' l' ep' t' (fun b o hb' e => ?_) c2 c3 c4⟩
  ·rw [sb.2 b fun z => hSf (z ▸ hb')]; exact e
  ·refine c1 b o hb' ?_
   rw [sb.2 b fun z => hb' (z ▸ List.mem_cons_self)]
   exact kp b o (fun z => hb' (List.mem_cons_of_mem _ z)) e
theorem mX {h:Heap} {S:Addr} (e:h.get? S = some { cls:=.type "set",dict:=none,data:=.set #[] 0 (.fresh 0 0 (!w.params.followText "set-order")) }):fw w h S [] 0 (.fresh 0 0 (!w.params.followText "set-order")) :=
 ⟨⟨_,e,⟨rfl,rfl,rfl⟩,rfl⟩,by decide,by rfl,rfl,fun _ => List.Pairwise.nil⟩
theorem k9 (v:Value) {Q:Value -> Shared -> Prop} (h:Q (.ref s.heap.objs.size) { s with heap:=s.heap.push { cls:=.type "set",dict:=none,data:=.set #[] 0 (.fresh 0 0 (!w.params.followText "set-order")) } }) :
  codeAny (model prog w) A (.call (.builtin "set.__new__") ⟨[.type "set",v],[]⟩) (wants Q E) s:= by
 refine codeAny_of_tree ?_
 show wpAny (model prog w) A.in1 (do checkBuiltinCall "set.__new__" ⟨[.type "set",v],[]⟩; again (.builtin "set.__new__" ⟨[.type "set",v],[]⟩)) _ _ s
 refine wpAny_bind (wpAny_of_eq (F.newCall_set_1 v) (wpAny_pure ⟨plainId_quiet F.plain_set_new _,codeAny_builtin F.entry_set_new ?_⟩))
 rw [Around.under_plainId F.plain_set_new _]
 have hsub:=sub_set_self
 obtain ⟨hp,g,d,tk,os⟩:=s
 unfold Builtin.«set.__new__» Builtin.Frozenset.newClass
 dsimp only
 wp_walk
 refine wpAny_askSetting (wpAny_pure ?_)
 dsimp only
 simp only [newObj]
 exact wpAny_bind (wpAny_alloc (wpAny_pure (wpAny_pure h)))
set_option maxHeartbeats 8000000 in
theorem we {l:Addr} {items:Array Value} {ns:List Int} {Q:Value -> Shared -> Prop} (hh:A.handled = none) (hl:s.heap.IsList l items) (hi:PyProof.Rows.IntsAre items.toList ns) (hb:items.size + 1 < scanBound)
  (h:∀ (h':Heap) (tk:Nat) (ls:List (Int × Tok)) (ep:Nat) (t:SetTable),fw w h' s.heap.objs.size ls ep t -> (ls.map (·.1)).Nodup -> (∀ z,z ∈ ls.map (·.1) ↔ z ∈ ns) ->
   (∀ b o,s.heap.get? b = some o -> h'.get? b = some o) -> Q (.ref s.heap.objs.size) { s with heap:=h',toks:=tk }) :
  wpAny (model prog w) A (call (.type "set") [.ref l]) Q E s:= by
 obtain ⟨c,tl,hmro⟩:=F.called_set.mro
 have hmade:=F.called_set.made
 have hsub:=F.called_set.sub
 refine wpAny_call (codeAny_of_tree (?_:wpAny _ _ (callAny (.type "set") _) _ _ _))
 refine wpAny_pure ⟨Code.quiet_builtin _ (by decide +kernel),codeAny_builtin F.entry_type_call ?_⟩
 rw [Around.under_plain (weight_type_call_type "set" [.ref l] []) rfl]
 have h1:=F.called_set.notType
 have h2:=F.called_set.canCreate
 have hct:=F.typeCall_set_1 (.ref l)
 repeat (any_goals (first | assumption | wp_step))
 refine codeAny_mono (k9 (.ref l) (E:=E) (Q:=fun obj s₁ => obj = .ref s.heap.objs.size ∧ s₁ = { s with heap:=s.heap.push { cls:=.type "set",dict:=none,data:=.set #[] 0 (.fresh 0 0 (!w.params.followText "set-order")) } }) ⟨rfl,rfl⟩) fun r s₁ hr => ?_
 cases r with
 | error e => exact hr
 | ok fl =>
  cases fl with
  | ret obj =>
   obtain ⟨rfl,rfl⟩:=hr
   have hS:(s.heap.push ({ cls:=.type "set",dict:=none,data:=.set #[] 0 (.fresh 0 0 (!w.params.followText "set-order")) }:Obj)).get? s.heap.objs.size = some ({ cls:=.type "set",dict:=none,data:=.set #[] 0 (.fresh 0 0 (!w.params.followText "set-order")) }:Obj):=Heap.get?_push_size _ rfl
   have hT:Shared.TypeIs { s with heap:=s.heap.push ({ cls:=.type "set",dict:=none,data:=.set #[] 0 (.fresh 0 0 (!w.params.followText "set-order")) }:Obj) } (.ref s.heap.objs.size) "set":=⟨_,hS,rfl⟩
   have hli:=F.called_set.init.lookup
   have hbi:=F.called_set.init.bind (.ref s.heap.objs.size)
   repeat (any_goals (first | assumption | wp_step))
   refine codeAny_mono (codeAny_call_builtin (R:=wants (fun r s₂ => r = .none ∧ ∃ h' tk ls ep t,s₂ = { s with heap:=h',toks:=tk } ∧ fw w h' s.heap.objs.size ls ep t ∧ (ls.map (·.1)).Nodup ∧ (∀ z,z ∈ ls.map (·.1) ↔ z ∈ ns) ∧
     (∀ b o,s.heap.get? b = some o -> h'.get? b = some o)) E) F.called_set.init.plain F.entry_set_init (check_set_init_1 hT ?_)) fun r₂ s₂ hr₂ => ?_
   ·obtain ⟨⟨ocls,odict,odata,oslots⟩,hol,hcl,nl,hdl⟩:=hl
    simp only at hcl hdl
    subst hcl; subst hdl
    have hol':=Heap.get?_push_of_some ({ cls:=.type "set",dict:=none,data:=.set #[] 0 (.fresh 0 0 (!w.params.followText "set-order")) }:Obj) hol
    have hsls:=F.sub_list_set
    have hslf:=F.sub_list_frozenset
    have hne:(Value.type "list" == Value.type "dict") = false:=by decide
    have hl1:(s.heap.push ({ cls:=.type "set",dict:=none,data:=.set #[] 0 (.fresh 0 0 (!w.params.followText "set-order")) }:Obj)).IsList l items:=⟨_,hol',rfl,nl,rfl⟩
    unfold Builtin.«set.__init__» noKeywords Builtin.Frozenset.updateFrom
    generalize hPI:pyIter = PI
    wp_walk
    subst hPI
    refine wpAny_pyIter_list (s:={ s with heap:=s.heap.push ({ cls:=.type "set",dict:=none,data:=.set #[] 0 (.fresh 0 0 (!w.params.followText "set-order")) }:Obj) }) hl1 ?_
    refine wpAny_bind (wpAny_runValue ?_)
    have hlS:l < s.heap.objs.size:=Heap.lt_size hol
    have hh3:A.in1.in1.in1.handled = none:=by simp [hh]
    have hneI:l ≠ (s.heap.push ({ cls:=.type "set",dict:=none,data:=.set #[] 0 (.fresh 0 0 (!w.params.followText "set-order")) }:Obj)).objs.size:=by rw [Heap.size_push]; exact Nat.ne_of_lt (Nat.lt_succ_of_lt hlS)
    have hSf:s.heap.objs.size ∉ [(s.heap.push ({ cls:=.type "set",dict:=none,data:=.set #[] 0 (.fresh 0 0 (!w.params.followText "set-order")) }:Obj)).objs.size,l]:= by
     rw [Heap.size_push]
     intro hm
     rcases List.mem_cons.mp hm with e | hm
     ·exact Nat.ne_of_lt (Nat.lt_succ_self _) e
     ·exact Nat.ne_of_gt hlS (List.mem_singleton.mp hm)
    have hval:∀ (i:Nat) (v:Value),items[i]? = some v -> ∃ t,v = .int ((fun i => ns.getD i 0) i) t:=fun i v hv => PyProof.Rows.IntsAre.int_at hi i v (by rw [Array.getElem?_toList]; exact hv)
    have hln:ns.length = items.size:=by have:=hi.length; simpa using this.symm
    refine pf (Walks.list hh3 _ l hneI items) s.heap.objs.size hSf (fun i => ns.getD i 0) hval hb (items.size - 0) 0 _ s.toks [] 0 (.fresh 0 0 (!w.params.followText "set-order")) (by omega) (Nat.zero_le _) ⟨⟨_,Heap.get?_push_size _ rfl,rfl,rfl⟩,hl1.push _⟩
     (mX (Heap.get?_push_of_some _ hS)) (Nat.zero_le _) List.nodup_nil (fun z => ⟨fun hz => (by cases hz),fun ⟨j,hj,_⟩ => absurd hj (Nat.not_lt_zero _)⟩) fun h' tk' l' ep' t' kp x' nd' mem' => ?_
    refine wpAny_pure (?_:wpAny _ _ (ret Value.none) _ _ _)
    refine wpAny_pure ⟨rfl,h',tk',l',ep',t',rfl,x',nd',fun z => (mem' z).trans ⟨fun ⟨j,hj,e⟩ => ?_,fun hz => ?_⟩,fun b o e => ?_⟩
    ·have hj':j < ns.length:=by omega
     have:ns.getD j 0 = ns[j]:=by simp [hj']
     exact e ▸ this ▸ List.getElem_mem hj'
    ·obtain ⟨j,hj,e⟩:=List.getElem_of_mem hz
     exact ⟨j,by omega,by simp [hj,e]⟩
    ·have hb':=Heap.lt_size e
     refine kp b o (fun hm => ?_) (Heap.get?_push_of_some _ (Heap.get?_push_of_some _ e))
     rcases List.mem_cons.mp hm with e' | hm
     ·exact Nat.ne_of_lt hb' e'
     ·have:=List.mem_singleton.mp hm
      rw [Heap.size_push] at this
      exact Nat.ne_of_lt (Nat.lt_succ_of_lt hb') this
   ·cases r₂ with
    | error e => exact hr₂
    | ok fl₂ =>
     cases fl₂ with
     | ret r =>
      obtain ⟨rfl,h',tk,ls,ep,t,rfl,x',nd',mem',kp⟩:=hr₂
      repeat (any_goals (first | assumption | wp_step))
      exact h _ _ ls ep t x' nd' mem' kp
     | _ => exact hr₂.elim
  | _ => exact hr.elim
theorem rp:isSubtype (.type "tuple") (.type "set") = pure false:=by rw [isSubtype_type]; kernel_rfl
theorem qX:isSubtype (.type "tuple") (.type "frozenset") = pure false:=by rw [isSubtype_type]; kernel_rfl
set_option maxHeartbeats 8000000 in
theorem vD {l:Addr} {items:Array Value} {ns:List Int} {Q:Value -> Shared -> Prop} (hh:A.handled = none) (hl:s.heap.IsTuple l items) (hi:PyProof.Rows.IntsAre items.toList ns) (hb:items.size + 1 < scanBound)
  (h:∀ (h':Heap) (tk:Nat) (ls:List (Int × Tok)) (ep:Nat) (t:SetTable),fw w h' s.heap.objs.size ls ep t -> (ls.map (·.1)).Nodup -> (∀ z,z ∈ ls.map (·.1) ↔ z ∈ ns) ->
   (∀ b o,s.heap.get? b = some o -> h'.get? b = some o) -> Q (.ref s.heap.objs.size) { s with heap:=h',toks:=tk }) :
  wpAny (model prog w) A (call (.type "set") [.ref l]) Q E s:= by
 obtain ⟨c,tl,hmro⟩:=F.called_set.mro
 have hmade:=F.called_set.made
 have hsub:=F.called_set.sub
 refine wpAny_call (codeAny_of_tree (?_:wpAny _ _ (callAny (.type "set") _) _ _ _))
 refine wpAny_pure ⟨Code.quiet_builtin _ (by decide +kernel),codeAny_builtin F.entry_type_call ?_⟩
 rw [Around.under_plain (weight_type_call_type "set" [.ref l] []) rfl]
 have h1:=F.called_set.notType
 have h2:=F.called_set.canCreate
 have hct:=F.typeCall_set_1 (.ref l)
 repeat (any_goals (first | assumption | wp_step))
 refine codeAny_mono (k9 (.ref l) (E:=E) (Q:=fun obj s₁ => obj = .ref s.heap.objs.size ∧ s₁ = { s with heap:=s.heap.push { cls:=.type "set",dict:=none,data:=.set #[] 0 (.fresh 0 0 (!w.params.followText "set-order")) } }) ⟨rfl,rfl⟩) fun r s₁ hr => ?_
 cases r with
 | error e => exact hr
 | ok fl =>
  cases fl with
  | ret obj =>
   obtain ⟨rfl,rfl⟩:=hr
   have hS:(s.heap.push ({ cls:=.type "set",dict:=none,data:=.set #[] 0 (.fresh 0 0 (!w.params.followText "set-order")) }:Obj)).get? s.heap.objs.size = some ({ cls:=.type "set",dict:=none,data:=.set #[] 0 (.fresh 0 0 (!w.params.followText "set-order")) }:Obj):=Heap.get?_push_size _ rfl
   have hT:Shared.TypeIs { s with heap:=s.heap.push ({ cls:=.type "set",dict:=none,data:=.set #[] 0 (.fresh 0 0 (!w.params.followText "set-order")) }:Obj) } (.ref s.heap.objs.size) "set":=⟨_,hS,rfl⟩
   have hli:=F.called_set.init.lookup
   have hbi:=F.called_set.init.bind (.ref s.heap.objs.size)
   repeat (any_goals (first | assumption | wp_step))
   refine codeAny_mono (codeAny_call_builtin (R:=wants (fun r s₂ => r = .none ∧ ∃ h' tk ls ep t,s₂ = { s with heap:=h',toks:=tk } ∧ fw w h' s.heap.objs.size ls ep t ∧ (ls.map (·.1)).Nodup ∧ (∀ z,z ∈ ls.map (·.1) ↔ z ∈ ns) ∧
     (∀ b o,s.heap.get? b = some o -> h'.get? b = some o)) E) F.called_set.init.plain F.entry_set_init (check_set_init_1 hT ?_)) fun r₂ s₂ hr₂ => ?_
   ·obtain ⟨⟨ocls,odict,odata,oslots⟩,hol,hcl,nl,hdl⟩:=hl
    simp only at hcl hdl
    subst hcl; subst hdl
    have hol':=Heap.get?_push_of_some ({ cls:=.type "set",dict:=none,data:=.set #[] 0 (.fresh 0 0 (!w.params.followText "set-order")) }:Obj) hol
    have hsls:=rp
    have hslf:=qX
    have hne:(Value.type "tuple" == Value.type "dict") = false:=by decide
    have hl1:(s.heap.push ({ cls:=.type "set",dict:=none,data:=.set #[] 0 (.fresh 0 0 (!w.params.followText "set-order")) }:Obj)).IsTuple l items:=⟨_,hol',rfl,nl,rfl⟩
    unfold Builtin.«set.__init__» noKeywords Builtin.Frozenset.updateFrom
    generalize hPI:pyIter = PI
    wp_walk
    subst hPI
    refine wpAny_pyIter_tuple (s:={ s with heap:=s.heap.push ({ cls:=.type "set",dict:=none,data:=.set #[] 0 (.fresh 0 0 (!w.params.followText "set-order")) }:Obj) }) hl1 ?_
    refine wpAny_bind (wpAny_runValue ?_)
    have hlS:l < s.heap.objs.size:=Heap.lt_size hol
    have hh3:A.in1.in1.in1.handled = none:=by simp [hh]
    have hneI:l ≠ (s.heap.push ({ cls:=.type "set",dict:=none,data:=.set #[] 0 (.fresh 0 0 (!w.params.followText "set-order")) }:Obj)).objs.size:=by rw [Heap.size_push]; exact Nat.ne_of_lt (Nat.lt_succ_of_lt hlS)
    have hSf:s.heap.objs.size ∉ [(s.heap.push ({ cls:=.type "set",dict:=none,data:=.set #[] 0 (.fresh 0 0 (!w.params.followText "set-order")) }:Obj)).objs.size,l]:= by
     rw [Heap.size_push]
     intro hm
     rcases List.mem_cons.mp hm with e | hm
     ·exact Nat.ne_of_lt (Nat.lt_succ_self _) e
     ·exact Nat.ne_of_gt hlS (List.mem_singleton.mp hm)
    have hval:∀ (i:Nat) (v:Value),items[i]? = some v -> ∃ t,v = .int ((fun i => ns.getD i 0) i) t:=fun i v hv => PyProof.Rows.IntsAre.int_at hi i v (by rw [Array.getElem?_toList]; exact hv)
    have hln:ns.length = items.size:=by have:=hi.length; simpa using this.symm
    refine pf (Walks.tuple hh3 _ l hneI items) s.heap.objs.size hSf (fun i => ns.getD i 0) hval hb (items.size - 0) 0 _ s.toks [] 0 (.fresh 0 0 (!w.params.followText "set-order")) (by omega) (Nat.zero_le _) ⟨⟨_,Heap.get?_push_size _ rfl,rfl,rfl⟩,hl1.push _⟩
     (mX (Heap.get?_push_of_some _ hS)) (Nat.zero_le _) List.nodup_nil (fun z => ⟨fun hz => (by cases hz),fun ⟨j,hj,_⟩ => absurd hj (Nat.not_lt_zero _)⟩) fun h' tk' l' ep' t' kp x' nd' mem' => ?_
    refine wpAny_pure (?_:wpAny _ _ (ret Value.none) _ _ _)
    refine wpAny_pure ⟨rfl,h',tk',l',ep',t',rfl,x',nd',fun z => (mem' z).trans ⟨fun ⟨j,hj,e⟩ => ?_,fun hz => ?_⟩,fun b o e => ?_⟩
    ·have hj':j < ns.length:=by omega
     have:ns.getD j 0 = ns[j]:=by simp [hj']
     exact e ▸ this ▸ List.getElem_mem hj'
    ·obtain ⟨j,hj,e⟩:=List.getElem_of_mem hz
     exact ⟨j,by omega,by simp [hj,e]⟩
    ·have hb':=Heap.lt_size e
     refine kp b o (fun hm => ?_) (Heap.get?_push_of_some _ (Heap.get?_push_of_some _ e))
     rcases List.mem_cons.mp hm with e' | hm
     ·exact Nat.ne_of_lt hb' e'
     ·have:=List.mem_singleton.mp hm
      rw [Heap.size_push] at this
      exact Nat.ne_of_lt (Nat.lt_succ_of_lt hb') this
   ·cases r₂ with
    | error e => exact hr₂
    | ok fl₂ =>
     cases fl₂ with
     | ret r =>
      obtain ⟨rfl,h',tk,ls,ep,t,rfl,x',nd',mem',kp⟩:=hr₂
      repeat (any_goals (first | assumption | wp_step))
      exact h _ _ ls ep t x' nd' mem' kp
     | _ => exact hr₂.elim
  | _ => exact hr.elim
end
end Jt
namespace Jt
open PySem
section
variable {prog:Program} {w:World} {A:Around} {E:Value -> Shared -> Prop} {s:Shared} {I S:Addr} {l:List (Int × Tok)} {ep:Nat} {t:SetTable} {i:Nat} {f0:Value}
theorem zf {α:Type} {Q:α -> Shared -> Prop} (hh:A.handled = none) (hE:∀ h' e,(∀ b o,s.heap.get? b = some o -> h'.get? b = some o) -> (∃ o,h'.get? e = some o ∧ o.cls = .type "StopIteration") -> E (.ref e) { s with heap:=h' }) :
  wpAny (model prog w) A (newExc (.type "StopIteration") [] >>= fun x => (raiseNew x:Sem α)) Q E s:= by
 refine wpAny_bind ?_
 simp only [newExc,newTuple]
 refine wpAny_bind (wpAny_newObj_type ?_ (by size_fits))
 refine wpAny_bind (m:=firstArgMember _ _) (wpAny_of_eq (a:=Value.none) (by first | rfl | (simp only [firstArgMember]; rfl)) ?_)
 refine wpAny_newObj_type ?_ (by size_fits)
 simp only [raiseNew]
 refine wpAny_bind (wpAny_handled ?_)
 rw [hh]
 refine wpAny_bind (wpAny_pure (wpAny_throw ?_))
 exact hE _ _ (fun b o e => Heap.get?_push_of_some _ (Heap.get?_push_of_some _ e)) ⟨_,Heap.get?_push_size _ rfl,rfl⟩
end
end Jt
namespace Jt
open PySem
section
variable {prog:Program} {w:World} {A:Around} {E:Value -> Shared -> Prop} {s:Shared} {I S:Addr} {l:List (Int × Tok)} {ep:Nat} {t:SetTable} {i:Nat} {f0:Value}
end
end Jt
namespace Jt
open PySem
section
variable {prog:Program} {w:World} {A:Around} {E:Value -> Shared -> Prop} {s:Shared} {I S:Addr} {l:List (Int × Tok)} {ep:Nat} {t:SetTable} {i:Nat} {f0:Value}
end
end Jt
namespace Jt
open PySem
section
variable {prog:Program} {w:World} {A:Around} {E:Value -> Shared -> Prop} {s:Shared} {I S:Addr} {l:List (Int × Tok)} {ep:Nat} {t:SetTable}
theorem sk {v:Value} {ns:List Int} {Q:Value -> Shared -> Prop}
  (hc:∀ (A':Around) (Q':List Value -> Shared -> Prop) (E':Value -> Shared -> Prop),(A'.handled = A.handled) -> (∀ (vs:List Value) (ms:List Int) (h':Heap) (tk:Nat) (d:Drawn),PyProof.Rows.IntsAre vs ms -> ms.Perm ns -> (∀ b o,s.heap.get? b = some o -> h'.get? b = some o) -> Q' vs { s with heap:=h',toks:=tk,drawn:=d }) ->
   wpAny (model prog w) A' (collect v) Q' E' s) (h64:ns.length < 64)
  (h:∀ (h1 h':Heap) (tk:Nat) (d:Drawn) (out:List Value) (ms:List Int) (e:Nat),(∀ b o,s.heap.get? b = some o -> h1.get? b = some o) -> (∀ b o,h1.get? b = some o -> h'.get? b = some o) -> h'.get? h1.objs.size = some { cls:=.type "list",data:=.seq out.toArray e } ->
   PyProof.Rows.IntsAre out ms -> ms.Perm ns -> ms.Pairwise (· ≤ ·) -> Q (.ref h1.objs.size) { s with heap:=h',toks:=tk,drawn:=d }) :
  wpAny (model prog w) A (call (.builtin "sorted") [v]) Q E s:= by
 refine Calls.call_function_entry PyProof.Rows.kind_sorted PyProof.Rows.plain_sorted PyProof.Rows.entry_sorted (PyProof.Rows.args_sorted1 _) ?_
 unfold Builtin.«sorted»
 refine wpAny_bind (m:=checkCount "sorted" 1 1 _) (wpAny_pure ?_)
 refine wpAny_bind (hc _ _ _ (by simp) fun vs ms h1 tk d hi pm kp => ?_)
 have hl:vs.length = ns.length:=by rw [hi.length,pm.length_eq]
 refine wpAny_bind (wpAny_newList ?_ (by rw [hl,sizeLine_eq]; omega))
 have g1:(h1.push (PyProof.Rows.seqObj "list" vs.toArray 0)).get? h1.objs.size = some (PyProof.Rows.seqObj "list" vs.toArray 0):=Heap.get?_push_size _ rfl
 refine wpAny_bind (wpAny_holding (wpAny_call_entry PyProof.Rows.slot_list_sort ⟨_,g1,rfl⟩ PyProof.Rows.entry_list_sort (PyProof.Rows.list_sort_tree (s:={ s with heap:=h1.push (PyProof.Rows.seqObj "list" vs.toArray 0),toks:=tk,drawn:=d }) g1 hi (by omega) fun out ms' a1 a2 a3 => ⟨_,rfl,?_⟩) (PyProof.Rows.args_list_sort _)))
 obtain ⟨e,he⟩:=PyProof.Rows.sortedHeap_at (out:=out) g1
 refine wpAny_pure ⟨_,rfl,h h1 _ tk d out.toList ms' e kp (fun b o eb => ?_) (by simpa [PyProof.Rows.seqObj] using he) a1 (a2.trans pm) a3⟩
 have hb:=Heap.lt_size eb
 show (PyProof.Rows.sortedHeap (h1.push (PyProof.Rows.seqObj "list" vs.toArray 0)) h1.objs.size vs out).get? b = some o
 rw [PyProof.Rows.sortedHeap_old (Nat.ne_of_lt hb) (by rw [Heap.size_push]; exact Nat.lt_succ_of_lt hb)]
 exact Heap.get?_push_of_some _ eb
end
end Jt
namespace Jt
open PySem
def j_ (b:Bool) (h:Heap) (q:Addr) (xs:Array Value):Prop:=match b with
 | true => h.IsTuple q xs
 | false => h.IsList q xs
def kO (b:Bool) (h:Heap) (it q:Addr) (k:Nat):Prop:=match b with
 | true => h.IsTupleIter it q k
 | false => h.IsListIter it q k
def fv (b:Bool) (q:Addr):Obj:={ cls:=.type (if b then "tuple_iterator" else "list_iterator"),data:=.fields #[.ref q,.int 0 0] }
section
variable {prog:Program} {w:World} {A:Around} {E:Value -> Shared -> Prop} {s:Shared} {b:Bool} {it q:Addr} {k:Nat} {xs:Array Value}
theorem j_.at {h h':Heap} (x:j_ b h q xs) (e:∀ o,h.get? q = some o -> h'.get? q = some o):j_ b h' q xs:= by
 cases b with
 | true => obtain ⟨o,ho,r⟩:=x; exact ⟨o,e o ho,r⟩
 | false => obtain ⟨o,ho,r⟩:=x; exact ⟨o,e o ho,r⟩
theorem kO.at {h h':Heap} (x:kO b h it q k) (e:∀ o,h.get? it = some o -> h'.get? it = some o):kO b h' it q k:= by
 cases b with
 | true => obtain ⟨o,ho,r⟩:=x; exact ⟨o,e o ho,r⟩
 | false => obtain ⟨o,ho,r⟩:=x; exact ⟨o,e o ho,r⟩
theorem kO.lt {h:Heap} (x:kO b h it q k):it < h.objs.size:= by
 cases b with
 | true => obtain ⟨o,ho,r⟩:=x; exact Heap.lt_size ho
 | false => obtain ⟨o,ho,r⟩:=x; exact Heap.lt_size ho
theorem j_.lt {h:Heap} (x:j_ b h q xs):q < h.objs.size:= by
 cases b with
 | true => obtain ⟨o,ho,r⟩:=x; exact Heap.lt_size ho
 | false => obtain ⟨o,ho,r⟩:=x; exact Heap.lt_size ho
theorem jO {Q:Value -> Shared -> Prop} (x:j_ b s.heap q xs) (h:Q (.ref s.heap.objs.size) { s with heap:=s.heap.push (fv b q) }):wpAny (model prog w) A (pyIter (.ref q)) Q E s:= by
 cases b with
 | true => exact wpAny_pyIter_tuple x h
 | false => exact wpAny_pyIter_list x h
theorem kO.new {h:Heap}:kO b (h.push (fv b q)) h.objs.size q 0:= by
 cases b with
 | true => exact ⟨_,Heap.get?_push_size _ rfl,rfl,rfl⟩
 | false => exact ⟨_,Heap.get?_push_size _ rfl,rfl,rfl⟩
theorem gB {x:Value} {Q:Value -> Shared -> Prop} (hi:kO b s.heap it q k) (hq:j_ b s.heap q xs) (hx:xs[k]? = some x) (h:∀ h',kO b h' it q (k + 1) -> Heap.SameBut it s.heap h' -> Q x { s with heap:=h' }) :
  wpAny (model prog w) A (Builtin.SmallTypes.nextOf (.ref it)) Q E s:= by
 cases b with
 | false => exact wpAny_nextOf_list_item hi hq hx h
 | true =>
  obtain ⟨o,ho,hc,hd⟩:=id hi
  obtain ⟨oq,hoq,_,n,hdq⟩:=hq
  have hT:s.TypeIs (.ref it) "tuple_iterator":=⟨o,ho,hc⟩
  unfold Builtin.SmallTypes.nextOf
  refine wpAny_bind (wpAny_callSpecial?_slot (name:=Str.ofString "__next__") hT F.slot_tuple_iterator_next (wpAny_call_entry F.slot_tuple_iterator_next hT F.entry_tuple_iterator_next (?_:wpAny _ _ (field (.ref it) 0 >>= _) _ _ s) (F.args_tuple_iterator_next_1 _)))
  refine wpAny_bind (wpAny_field ho hd (x:=.ref q) rfl (?_:wpAny _ _ (if (Value.ref q == Value.none) = true then _ else _) _ _ s))
  rw [if_neg (show ¬ ((Value.ref q == Value.none) = true) from Bool.false_ne_true)]
  refine (?_:wpAny _ _ (field (.ref it) 1 >>= _) _ _ s)
  refine wpAny_bind (wpAny_field ho hd (x:=.int k 0) rfl (?_:wpAny _ _ (seqItems? (.ref q) >>= _) _ _ s))
  refine wpAny_bind (wpAny_seqItems hoq hdq ?_)
  simp only [Int.toNat_natCast,hx]
  refine wpAny_bind (wpAny_setField ho hd (by simp) (wpAny_pure ⟨x,rfl,wpAny_pure (h _ ⟨_,Heap.get?_update_self _ ho (Obj.isFreed_of_fields (Obj.data_mapFields hd _)),(Obj.cls_mapFields ..).trans hc,?_⟩ (Heap.SameBut.update ..))⟩))
  rw [Obj.data_mapFields hd]; simp [rawInt]
theorem ml {Q:Value -> Shared -> Prop} (hh:A.handled = none) (hi:kO b s.heap it q k) (hq:j_ b s.heap q xs) (hx:xs[k]? = none)
  (h:∀ h' e,(∀ c o,c ≠ it -> s.heap.get? c = some o -> h'.get? c = some o) -> (∃ o,h'.get? e = some o ∧ o.cls = .type "StopIteration") -> E (.ref e) { s with heap:=h' }) :
  wpAny (model prog w) A (Builtin.SmallTypes.nextOf (.ref it)) Q E s:= by
 cases b with
 | false => exact wpAny_nextOf_list_end hh hi hq hx h
 | true =>
  obtain ⟨o,ho,hc,hd⟩:=id hi
  obtain ⟨oq,hoq,_,n,hdq⟩:=hq
  have hT:s.TypeIs (.ref it) "tuple_iterator":=⟨o,ho,hc⟩
  unfold Builtin.SmallTypes.nextOf
  refine wpAny_bind (wpAny_callSpecial?_slot (name:=Str.ofString "__next__") hT F.slot_tuple_iterator_next (wpAny_call_entry F.slot_tuple_iterator_next hT F.entry_tuple_iterator_next (?_:wpAny _ _ (field (.ref it) 0 >>= _) _ _ s) (F.args_tuple_iterator_next_1 _)))
  refine wpAny_bind (wpAny_field ho hd (x:=.ref q) rfl (?_:wpAny _ _ (if (Value.ref q == Value.none) = true then _ else _) _ _ s))
  rw [if_neg (show ¬ ((Value.ref q == Value.none) = true) from Bool.false_ne_true)]
  refine (?_:wpAny _ _ (field (.ref it) 1 >>= _) _ _ s)
  refine wpAny_bind (wpAny_field ho hd (x:=.int k 0) rfl (?_:wpAny _ _ (seqItems? (.ref q) >>= _) _ _ s))
  refine wpAny_bind (wpAny_seqItems hoq hdq ?_)
  simp only [Int.toNat_natCast,hx]
  refine wpAny_bind (wpAny_rule (wpAny_bind (wpAny_setField ho hd (by simp) (?_:wpAny _ _ (newExc (.type "StopIteration") [] >>= _) _ _ _))))
  refine zf (s:={ s with heap:=s.heap.update it _ }) (by simpa using hh) fun h' e kp he => h h' e (fun c o hc e' => kp c o ?_) he
  exact (Heap.get?_update_other _ _ (Ne.symm hc)).trans e'
structure uv (z TI TO i1 i2 l1 l2:Addr):Prop where
 ni:[z,TI,TO,i1,i2].Nodup
 n1:l1 ∉ [z,TO,i1,i2]
 n2:l2 ∉ [z,TO,i1,i2]
abbrev sG (b1 b2:Bool) (z TI TO i1 i2 l1 l2:Addr) (xs ys:Array Value) (k:Nat) (f:Value) (h:Heap):Prop :=
 IsZip h z TI TO f ∧ IsPair h TI (.ref i1) (.ref i2) ∧ (∃ a c,IsPair h TO a c) ∧ kO b1 h i1 l1 k ∧ kO b2 h i2 l2 k ∧ j_ b1 h l1 xs ∧ j_ b2 h l2 ys
variable {b1 b2:Bool} {z TI TO i1 i2 l1 l2:Addr} {ys:Array Value}
theorem uv.ne (D:uv z TI TO i1 i2 l1 l2):TI ≠ z ∧ TO ≠ z ∧ i1 ≠ z ∧ i2 ≠ z ∧ TI ≠ TO ∧ TI ≠ i1 ∧ TI ≠ i2 ∧ TO ≠ i1 ∧ TO ≠ i2 ∧ i1 ≠ i2 ∧ l1 ≠ z ∧ l1 ≠ TO ∧ l1 ≠ i1 ∧ l1 ≠ i2 ∧ l2 ≠ z ∧ l2 ≠ TO ∧ l2 ≠ i1 ∧ l2 ≠ i2:= by
 obtain ⟨h,h1,h2⟩:=D
 simp only [List.nodup_cons,List.mem_cons,List.not_mem_nil,or_false,not_or,List.nodup_nil,and_true,not_false_eq_true] at h h1 h2
 obtain ⟨⟨a1,a2,a3,a4⟩,⟨b1,b2,b3⟩,⟨c1,c2⟩,d1⟩:=h
 exact ⟨Ne.symm a1,Ne.symm a2,Ne.symm a3,Ne.symm a4,b1,b2,b3,c1,c2,d1,h1.1,h1.2.1,h1.2.2.1,h1.2.2.2,h2.1,h2.2.1,h2.2.2.1,h2.2.2.2⟩
theorem sG.keep {h h':Heap} {f:Value} (x:sG b1 b2 z TI TO i1 i2 l1 l2 xs ys k f h) (e:∀ c ∈ [z,TI,TO,i1,i2,l1,l2],∀ o,h.get? c = some o -> h'.get? c = some o):sG b1 b2 z TI TO i1 i2 l1 l2 xs ys k f h':= by
 obtain ⟨x1,x2,⟨a,c,x3⟩,x4,x5,x6,x7⟩:=x
 exact ⟨e z (by simp) _ x1,e TI (by simp) _ x2,⟨a,c,e TO (by simp) _ x3⟩,x4.at (e i1 (by simp)),x5.at (e i2 (by simp)),x6.at (e l1 (by simp)),x7.at (e l2 (by simp))⟩
theorem l6 {T:Addr} {a c v:Value} {j:Nat} {Q:Unit -> Shared -> Prop} (hT:IsPair s.heap T a c) (h:∀ h',h'.get? T = some { cls:=.type "tuple",data:=.seq ((#[a,c]:Array Value).setIfInBounds j v) } -> Heap.SameBut T s.heap h' -> Q () { s with heap:=h' }) :
  wpAny (model prog w) A (updateSeq T (·.setIfInBounds j v)) Q E s:=wpAny_updateSeq_pair hT h
theorem sf {v1 v2:Value} {Q:Option Value -> Shared -> Prop} (D:uv z TI TO i1 i2 l1 l2) (st:sG b1 b2 z TI TO i1 i2 l1 l2 xs ys k .none s.heap) (hx:xs[k]? = some v1) (hy:ys[k]? = some v2)
  (hQ:∀ h',sG b1 b2 z TI TO i1 i2 l1 l2 xs ys (k + 1) (rawInt s.heap.objs.size) h' -> IsPair h' s.heap.objs.size v1 v2 -> (∀ c o,c ∉ [z,TO,i1,i2] -> s.heap.get? c = some o -> h'.get? c = some o) -> Q (some (.ref s.heap.objs.size)) { s with heap:=h' }) :
  wpAny (model prog w) A (pyNext (.ref z)) Q E s:= by
 obtain ⟨n1,n2,n3,n4,n5,n6,n7,n8,n9,n10,m1,m2,m3,m4,m5,m6,m7,m8⟩:=D.ne
 obtain ⟨hz,hTI,⟨a,c,hTO⟩,q1,q2,p1,p2⟩:=st
 have hT:s.TypeIs (.ref z) "zip":=⟨_,hz,rfl⟩
 unfold pyNext
 refine wpAny_bind (wpAny_attempt (wpAny_callSpecial?_slot (name:=Str.ofString "__next__") hT F.slot_zip_next (wpAny_call_entry F.slot_zip_next hT F.entry_zip_next (?_:wpAny _ _ (field (.ref z) 2 >>= _) _ _ _) (F.args_zip_next_1 _))))
 refine wpAny_bind (wpAny_field hz rfl (x:=.bool false) rfl (?_:wpAny _ _ (field (.ref z) 3 >>= _) _ _ _))
 refine wpAny_bind (wpAny_field hz rfl (x:=.ref TI) rfl (wpAny_bind (wpAny_seqItems hTI rfl (?_:wpAny _ _ (Builtin.SmallTypes.ownedTupleIsFree (.ref z) >>= _) _ _ _))))
 refine wpAny_bind ?_
 unfold Builtin.SmallTypes.ownedTupleIsFree
 refine wpAny_bind (wpAny_field hz rfl (x:=.none) rfl (wpAny_pure ?_))
 simp only [if_true]
 refine wpAny_bind (wpAny_rule (wpAny_bind (wpAny_field hz rfl (x:=.ref TO) rfl ?_)))
 refine wpAny_bind (wpAny_setField_rec hz (by simp) fun h1 z1 s1 => ?_)
 replace z1:IsZip h1 z TI TO .ellipsis:=z1
 refine wpAny_bind ?_
 simp only [List.zipIdx_cons,List.zipIdx_nil,List.forIn_cons,List.forIn_nil]
 refine wpAny_bind (wpAny_bind (wpAny_onRaise (?_:wpAny _ _ (Builtin.SmallTypes.nextOf (.ref i1) >>= _) _ _ _)))
 refine wpAny_bind (gB (s:={ s with heap:=h1 }) (q1.at fun o e => s1.extBut _ _ n3 e) (p1.at fun o e => s1.extBut _ _ m1 e) hx fun h2 q1' s2 => wpAny_pure ?_)
 have t2:IsPair h2 TO a c:=s2.extBut _ _ n8 (s1.extBut _ _ n2 hTO)
 refine wpAny_bind (wpAny_seqItems (s:={ s with heap:=h2 }) t2 rfl (wpAny_bind (l6 (s:={ s with heap:=h2 }) t2 fun h3 t3 s3 => ?_)))
 replace t3:IsPair h3 TO v1 c:=t3
 refine wpAny_bind (wpAny_letGo (wpAny_pure ?_))
 refine wpAny_bind (wpAny_bind (wpAny_onRaise (?_:wpAny _ _ (Builtin.SmallTypes.nextOf (.ref i2) >>= _) _ _ _)))
 refine wpAny_bind (gB (s:={ s with heap:=h3 }) (q2.at fun o e => s3.extBut _ _ n9.symm (s2.extBut _ _ n10.symm (s1.extBut _ _ n4 e))) (p2.at fun o e => s3.extBut _ _ m6 (s2.extBut _ _ m7 (s1.extBut _ _ m5 e))) hy fun h4 q2' s4 => wpAny_pure ?_)
 have t4:IsPair h4 TO v1 c:=s4.extBut _ _ n9 t3
 refine wpAny_bind (wpAny_seqItems (s:={ s with heap:=h4 }) t4 rfl (wpAny_bind (l6 (s:={ s with heap:=h4 }) t4 fun h5 t5 s5 => ?_)))
 replace t5:IsPair h5 TO v1 v2:=t5
 refine wpAny_bind (wpAny_letGo (wpAny_pure (wpAny_pure ?_)))
 refine wpAny_bind (wpAny_seqItems (s:={ s with heap:=h5 }) t5 rfl (wpAny_bind (wpAny_newTuple ?_)))
 have hsz:h5.objs.size = s.heap.objs.size:=by rw [s5.1,s4.1,s3.1,s2.1,s1.1]
 have up5:∀ c o,c ∉ [z,TO,i1,i2] -> s.heap.get? c = some o -> h5.get? c = some o:=fun c o hc e => by
  simp only [List.mem_cons,List.not_mem_nil,or_false,not_or] at hc
  obtain ⟨c1,c2,c3,c4⟩:=hc
  exact s5.extBut _ _ c2 (s4.extBut _ _ c4 (s3.extBut _ _ c2 (s2.extBut _ _ c3 (s1.extBut _ _ c1 e))))
 have z5:IsZip h5 z TI TO .ellipsis:=s5.extBut _ _ n2.symm (s4.extBut _ _ n4.symm (s3.extBut _ _ n2.symm (s2.extBut _ _ n3.symm z1)))
 refine (?_:wpAny _ _ (Builtin.SmallTypes.ownedTupleHandOut (.ref z) (.ref h5.objs.size) >>= _) _ _ _)
 refine wpAny_bind ?_
 unfold Builtin.SmallTypes.ownedTupleHandOut
 have z6:IsZip (h5.push { cls:=.type "tuple",data:=.seq #[v1,v2] }) z TI TO .ellipsis:=Heap.get?_push_of_some _ z5
 refine wpAny_bind (wpAny_setField_rec (s:={ s with heap:=h5.push { cls:=.type "tuple",data:=.seq #[v1,v2] } }) z6 (by simp) fun h7 z7 s7 => ?_)
 replace z7:IsZip h7 z TI TO (rawInt h5.objs.size):=z7
 refine wpAny_setField_rec (s:={ s with heap:=h7 }) z7 (by simp) fun h8 z8 s8 => ?_
 replace z8:IsZip h8 z TI TO (rawInt h5.objs.size):=z8
 have up:∀ c o,c ≠ z -> h5.get? c = some o -> h8.get? c = some o:=fun c o c1 e => s8.extBut _ _ c1 (s7.extBut _ _ c1 (Heap.get?_push_of_some _ e))
 have zl:z ≠ h5.objs.size:=Nat.ne_of_lt (Heap.lt_size z5)
 have new8:IsPair h8 h5.objs.size v1 v2:=s8.extBut _ _ zl.symm (s7.extBut _ _ zl.symm (Heap.get?_push_size _ rfl))
 rw [hsz] at z8 new8
 refine wpAny_pure ⟨_,rfl,(?_:wpAny _ _ (pure (some (Value.ref h5.objs.size))) _ _ _)⟩
 rw [hsz]
 refine wpAny_pure (hQ h8 ⟨z8,up _ _ n1 (up5 TI _ (by simp [n1,n5,n6,n7]) hTI),⟨_,_,up _ _ n2 t5⟩,q1'.at fun o e => up _ _ n3 (s5.extBut _ _ n8.symm (s4.extBut _ _ n10 (s3.extBut _ _ n8.symm e))),q2'.at fun o e => up _ _ n4 (s5.extBut _ _ n9.symm e),
  p1.at fun o e => up _ _ m1 (up5 l1 _ D.n1 e),p2.at fun o e => up _ _ m5 (up5 l2 _ D.n2 e)⟩ new8 fun c o hc e => up c o (fun z' => hc (by rw [z']; simp)) (up5 c o hc e))
theorem vx {Q:Option Value -> Shared -> Prop} (hh:A.handled = none) (D:uv z TI TO i1 i2 l1 l2) (st:sG b1 b2 z TI TO i1 i2 l1 l2 xs ys k .none s.heap) (hx:xs[k]? = none ∨ ys[k]? = none)
  (hQ:∀ h',(∀ c o,c ∉ [z,TO,i1,i2] -> s.heap.get? c = some o -> h'.get? c = some o) -> Q none { s with heap:=h' }):wpAny (model prog w) A (pyNext (.ref z)) Q E s:= by
 obtain ⟨n1,n2,n3,n4,n5,n6,n7,n8,n9,n10,m1,m2,m3,m4,m5,m6,m7,m8⟩:=D.ne
 obtain ⟨hz,hTI,⟨a,c,hTO⟩,q1,q2,p1,p2⟩:=st
 have hT:s.TypeIs (.ref z) "zip":=⟨_,hz,rfl⟩
 have fin:∀ (h:Heap) (e:Addr),IsZip h z TI TO .ellipsis -> (∀ c o,c ∉ [z,TO,i1,i2] -> s.heap.get? c = some o -> h.get? c = some o) -> (∃ o,h.get? e = some o ∧ o.cls = .type "StopIteration") ->
   wpAny (model prog w) A.in1 (setField (.ref z) 0 .none) (fun _ s' => wpAny (model prog w) A (do if <- isInstance (Value.ref e) (.type "StopIteration") then pure (none:Option Value) else throw (Value.ref e)) Q E s') (fun _ _ => False) { s with heap:=h }:=fun h e hz kp he => by
  obtain ⟨o,ho,hc⟩:=he
  refine wpAny_setField_rec (s:={ s with heap:=h }) hz (by simp) fun h' _ sb => ?_
  have hez:e ≠ z:=fun x => by subst x; rw [hz] at ho; cases ho; simp at hc
  refine wpAny_bind (wpAny_isInstance (T:="StopIteration") (b:=true) ⟨o,sb.extBut _ _ hez ho,hc⟩ isSubtype_stop (wpAny_pure (hQ h' fun c o hc e => sb.extBut _ _ (fun z' => hc (by rw [z']; simp)) (kp c o hc e))))
 unfold pyNext
 refine wpAny_bind (wpAny_attempt (wpAny_callSpecial?_slot (name:=Str.ofString "__next__") hT F.slot_zip_next (wpAny_call_entry F.slot_zip_next hT F.entry_zip_next (?_:wpAny _ _ (field (.ref z) 2 >>= _) _ _ _) (F.args_zip_next_1 _))))
 refine wpAny_bind (wpAny_field hz rfl (x:=.bool false) rfl (?_:wpAny _ _ (field (.ref z) 3 >>= _) _ _ _))
 refine wpAny_bind (wpAny_field hz rfl (x:=.ref TI) rfl (wpAny_bind (wpAny_seqItems hTI rfl (?_:wpAny _ _ (Builtin.SmallTypes.ownedTupleIsFree (.ref z) >>= _) _ _ _))))
 refine wpAny_bind ?_
 unfold Builtin.SmallTypes.ownedTupleIsFree
 refine wpAny_bind (wpAny_field hz rfl (x:=.none) rfl (wpAny_pure ?_))
 simp only [if_true]
 refine wpAny_bind (wpAny_rule (wpAny_bind (wpAny_field hz rfl (x:=.ref TO) rfl ?_)))
 refine wpAny_bind (wpAny_setField_rec hz (by simp) fun h1 z1 s1 => ?_)
 replace z1:IsZip h1 z TI TO .ellipsis:=z1
 refine wpAny_bind ?_
 simp only [List.zipIdx_cons,List.zipIdx_nil,List.forIn_cons,List.forIn_nil]
 refine wpAny_bind (wpAny_bind (wpAny_onRaise (?_:wpAny _ _ (Builtin.SmallTypes.nextOf (.ref i1) >>= _) _ _ _)))
 have p1':j_ b1 h1 l1 xs:=p1.at fun o e => s1.extBut _ _ m1 e
 have q1'':kO b1 h1 i1 l1 k:=q1.at fun o e => s1.extBut _ _ n3 e
 cases hxk:xs[k]? with
 | none =>
  refine wpAny_bind (ml (s:={ s with heap:=h1 }) (by simpa using hh) q1'' p1' hxk fun h2 e kp he => ?_)
  refine wpAny_mono (fin h2 e (kp _ _ n3.symm z1) (fun c o hc e' => ?_) he) (fun _ _ q => q) fun _ _ q => q.elim
  simp only [List.mem_cons,List.not_mem_nil,or_false,not_or] at hc
  exact kp _ _ hc.2.2.1 (s1.extBut _ _ hc.1 e')
 | some v1 =>
  have hy:ys[k]? = none:= by
   rcases hx with h | h
   ·rw [hxk] at h; cases h
   ·exact h
  refine wpAny_bind (gB (s:={ s with heap:=h1 }) q1'' p1' hxk fun h2 q1' s2 => wpAny_pure ?_)
  have t2:IsPair h2 TO a c:=s2.extBut _ _ n8 (s1.extBut _ _ n2 hTO)
  refine wpAny_bind (wpAny_seqItems (s:={ s with heap:=h2 }) t2 rfl (wpAny_bind (l6 (s:={ s with heap:=h2 }) t2 fun h3 t3 s3 => ?_)))
  refine wpAny_bind (wpAny_letGo (wpAny_pure ?_))
  refine wpAny_bind (wpAny_bind (wpAny_onRaise (?_:wpAny _ _ (Builtin.SmallTypes.nextOf (.ref i2) >>= _) _ _ _)))
  refine wpAny_bind (ml (s:={ s with heap:=h3 }) (by simpa using hh) (q2.at fun o e => s3.extBut _ _ n9.symm (s2.extBut _ _ n10.symm (s1.extBut _ _ n4 e))) (p2.at fun o e => s3.extBut _ _ m6 (s2.extBut _ _ m7 (s1.extBut _ _ m5 e))) hy fun h4 e kp he => ?_)
  refine wpAny_mono (fin h4 e (kp _ _ n4.symm (s3.extBut _ _ n2.symm (s2.extBut _ _ n3.symm z1))) (fun c o hc e' => ?_) he) (fun _ _ q => q) fun _ _ q => q.elim
  simp only [List.mem_cons,List.not_mem_nil,or_false,not_or] at hc
  exact kp _ _ hc.2.2.2 (s3.extBut _ _ hc.2.1 (s2.extBut _ _ hc.2.2.1 (s1.extBut _ _ hc.1 e')))
end
end Jt
namespace Jt
open PySem
section
variable {prog:Program} {w:World} {A:Around} {E:Value -> Shared -> Prop} {s:Shared} {b1 b2 b:Bool} {l1 l2 q it e:Addr} {xs ys:Array Value} {k:Nat}
def zv (b1 b2:Bool) (h:Heap) (l1 l2:Addr):Heap:=(h.push (fv b1 l1)).push (fv b2 l2)
def Gv (b1 b2:Bool) (h:Heap) (l1 l2:Addr):Heap:=((zv b1 b2 h l1 l2).push { cls:=.type "tuple",data:=.seq #[.ref h.objs.size,.ref (h.push (fv b1 l1)).objs.size] }).push { cls:=.type "tuple",data:=.seq #[.none,.none] }
def Dq (b1 b2:Bool) (h:Heap) (l1 l2:Addr):Heap:=(Gv b1 b2 h l1 l2).push { cls:=.type "zip",data:=.fields #[.none,.bool false,.bool false,.ref (zv b1 b2 h l1 l2).objs.size,.ref ((zv b1 b2 h l1 l2).push { cls:=.type "tuple",data:=.seq #[.ref h.objs.size,.ref (h.push (fv b1 l1)).objs.size] }).objs.size] }
theorem vJ (b1 b2:Bool) (l1 l2:Addr) (xs ys:Array Value):Meets (Builtin.«zip.__new__» ⟨[.type "zip",.ref l1,.ref l2],[]⟩) (fun _ R s => j_ b1 s.heap l1 xs ∧ j_ b2 s.heap l2 ys ∧ R (.ok (.ret (.ref (Gv b1 b2 s.heap l1 l2).objs.size))) { s with heap:=Dq b1 b2 s.heap l1 l2 }) :=
 .of_wp fun prog w A R s h => by
  obtain ⟨hp,g,d,tk,os⟩:=s
  obtain ⟨h1,h2,h⟩:=h
  have hsub:=sub_zip
  have L1:j_ b1 (Shared.heap ⟨hp,g,d,tk,os⟩) l1 xs:=h1
  have L2:j_ b2 (Shared.heap ⟨hp.push (fv b1 l1),g,d,tk,os⟩) l2 ys:=h2.at fun o e => Heap.get?_push_of_some _ e
  wp_walk using jO L1,jO L2
  exact ⟨_,rfl,h⟩
theorem uE {Q:Value -> Shared -> Prop} (h1:j_ b1 s.heap l1 xs) (h2:j_ b2 s.heap l2 ys)
  (h:∀ h' z TI TO i1 i2,uv z TI TO i1 i2 l1 l2 -> sG b1 b2 z TI TO i1 i2 l1 l2 xs ys 0 .none h' -> (∀ c o,s.heap.get? c = some o -> h'.get? c = some o) -> (∀ c ∈ [z,TI,TO,i1,i2],s.heap.objs.size ≤ c) -> Q (.ref z) { s with heap:=h' }) :
  wpAny (model prog w) A (call (.type "zip") [.ref l1,.ref l2]) Q E s:= by
 refine callType_new F.called_zip (by decide) (F.typeCall_zip_2 _ _) (F.newCall_zip_2 _ _) (fun obj => F.args_object_init_3 obj _ _) F.entry_zip_new (vJ b1 b2 l1 l2 xs ys) ⟨h1,h2,?_⟩
 have a1:(s.heap.push (fv b1 l1)).objs.size = s.heap.objs.size + 1:=Heap.size_push ..
 have a2:(zv b1 b2 s.heap l1 l2).objs.size = s.heap.objs.size + 2:=by unfold zv; rw [Heap.size_push,a1]
 have a3:((zv b1 b2 s.heap l1 l2).push { cls:=.type "tuple",data:=.seq #[.ref s.heap.objs.size,.ref (s.heap.push (fv b1 l1)).objs.size] }).objs.size = s.heap.objs.size + 3:=by rw [Heap.size_push,a2]
 have a4:(Gv b1 b2 s.heap l1 l2).objs.size = s.heap.objs.size + 4:=by unfold Gv; rw [Heap.size_push,a3]
 have up4:∀ c o,(Gv b1 b2 s.heap l1 l2).get? c = some o -> (Dq b1 b2 s.heap l1 l2).get? c = some o:=fun c o e => Heap.get?_push_of_some _ e
 have up2:∀ c o,(zv b1 b2 s.heap l1 l2).get? c = some o -> (Dq b1 b2 s.heap l1 l2).get? c = some o:=fun c o e => up4 c o (Heap.get?_push_of_some _ (Heap.get?_push_of_some _ e))
 have up:∀ c o,s.heap.get? c = some o -> (Dq b1 b2 s.heap l1 l2).get? c = some o:=fun c o e => up2 c o (Heap.get?_push_of_some _ (Heap.get?_push_of_some _ e))
 have g5:(Dq b1 b2 s.heap l1 l2).get? (Gv b1 b2 s.heap l1 l2).objs.size = some _:=Heap.get?_push_size _ rfl
 have g4:(Dq b1 b2 s.heap l1 l2).get? ((zv b1 b2 s.heap l1 l2).push { cls:=.type "tuple",data:=.seq #[.ref s.heap.objs.size,.ref (s.heap.push (fv b1 l1)).objs.size] }).objs.size = some _:=up4 _ _ (Heap.get?_push_size _ rfl)
 have g3:(Dq b1 b2 s.heap l1 l2).get? (zv b1 b2 s.heap l1 l2).objs.size = some _:=up4 _ _ (Heap.get?_push_of_some _ (Heap.get?_push_size _ rfl))
 have lt1:=h1.lt
 have lt2:=h2.lt
 refine ⟨⟨_,g5,rfl⟩,h (Dq b1 b2 s.heap l1 l2) _ (zv b1 b2 s.heap l1 l2).objs.size ((zv b1 b2 s.heap l1 l2).push { cls:=.type "tuple",data:=.seq #[.ref s.heap.objs.size,.ref (s.heap.push (fv b1 l1)).objs.size] }).objs.size s.heap.objs.size (s.heap.push (fv b1 l1)).objs.size ?_
  ⟨g5,g3,⟨_,_,g4⟩,kO.new.at fun o e => up2 _ _ (Heap.get?_push_of_some _ e),kO.new.at fun o e => up2 _ _ e,h1.at fun o e => up _ _ e,h2.at fun o e => up _ _ e⟩ up fun c hc => ?_⟩
 ·rw [a3,a4,a2,a1]
  have e1:∀ j:Nat,l1 ≠ s.heap.objs.size + j:=fun j z => Nat.ne_of_lt (Nat.lt_of_lt_of_le lt1 (Nat.le_add_right _ j)) z
  have e2:∀ j:Nat,l2 ≠ s.heap.objs.size + j:=fun j z => Nat.ne_of_lt (Nat.lt_of_lt_of_le lt2 (Nat.le_add_right _ j)) z
  have ne:∀ i j:Nat,i ≠ j -> s.heap.objs.size + i ≠ s.heap.objs.size + j:=fun i j h z => h (Nat.add_left_cancel z)
  have ne0:∀ j:Nat,j ≠ 0 -> s.heap.objs.size + j ≠ s.heap.objs.size:=fun j h z => h (Nat.add_left_cancel (m:=j) (k:=0) z)
  refine ⟨?_,?_,?_⟩
  ·simp only [List.nodup_cons,List.mem_cons,List.not_mem_nil,or_false,not_or,List.nodup_nil,and_true,not_false_eq_true]
   exact ⟨⟨ne 4 2 (by decide),ne 4 3 (by decide),ne0 4 (by decide),ne 4 1 (by decide)⟩,⟨ne 2 3 (by decide),ne0 2 (by decide),ne 2 1 (by decide)⟩,⟨ne0 3 (by decide),ne 3 1 (by decide)⟩,(ne0 1 (by decide)).symm⟩
  ·simp only [List.mem_cons,List.not_mem_nil,or_false,not_or]
   exact ⟨e1 4,e1 3,Nat.ne_of_lt lt1,e1 1⟩
  ·simp only [List.mem_cons,List.not_mem_nil,or_false,not_or]
   exact ⟨e2 4,e2 3,Nat.ne_of_lt lt2,e2 1⟩
 ·rw [a3,a4,a2,a1] at hc
  simp only [List.mem_cons,List.not_mem_nil,or_false] at hc
  rcases hc with e | e | e | e | e
  ·rw [e]; exact Nat.le_add_right _ 4
  ·rw [e]; exact Nat.le_add_right _ 2
  ·rw [e]; exact Nat.le_add_right _ 3
  ·rw [e]; exact Nat.le_refl _
  ·rw [e]; exact Nat.le_add_right _ 1
theorem t9 (b:Bool) (l:Addr) (xs:Array Value):Meets (Builtin.«enumerate.__new__» ⟨[.type "enumerate",.ref l],[]⟩) (fun _ R s => j_ b s.heap l xs ∧ R (.ok (.ret (.ref (s.heap.push (fv b l)).objs.size)))
  { s with heap:=(s.heap.push (fv b l)).push { cls:=.type "enumerate",data:=.fields #[.none,.bool false,.ref s.heap.objs.size,rawInt 0,.none,.none] } }) :=
 .of_wp fun prog w A R s h => by
  obtain ⟨hp,g,d,tk,os⟩:=s
  obtain ⟨h1,h⟩:=h
  have hsub:=sub_enumerate
  have L1:j_ b (Shared.heap ⟨hp,g,d,tk,os⟩) l xs:=h1
  wp_walk
  refine wpAny_stack_any fun st => wpAny_pure ?_
  split
  ·rename_i c _ _ _ _ _
   cases (c == Value.type "enumerate")
   ·wp_walk using jO L1
    exact ⟨_,rfl,h⟩
   ·wp_walk using jO L1
    exact ⟨_,rfl,h⟩
  ·wp_walk using jO L1
   exact ⟨_,rfl,h⟩
abbrev JL (b:Bool) (e it l:Addr) (xs:Array Value) (k:Nat) (h:Heap):Prop:=(∃ old,IsEnum h e it k old) ∧ kO b h it l k ∧ j_ b h l xs
theorem ye {Q:Value -> Shared -> Prop} (h1:j_ b s.heap q xs)
  (h:∀ h' e it,e ≠ it -> q ≠ e -> q ≠ it -> JL b e it q xs 0 h' -> (∀ c o,s.heap.get? c = some o -> h'.get? c = some o) -> s.heap.objs.size ≤ e -> s.heap.objs.size ≤ it -> Q (.ref e) { s with heap:=h' }) :
  wpAny (model prog w) A (call (.type "enumerate") [.ref q]) Q E s:= by
 refine callType_new F.called_enumerate (by decide) (F.typeCall_enumerate_1 _) (F.newCall_enumerate_1 _) (fun obj => F.args_object_init_2 obj _) F.entry_enumerate_new (t9 b q xs) ⟨h1,?_⟩
 have a1:(s.heap.push (fv b q)).objs.size = s.heap.objs.size + 1:=Heap.size_push ..
 have lt1:=h1.lt
 refine ⟨⟨_,Heap.get?_push_size _ rfl,rfl⟩,h _ _ s.heap.objs.size (fun z => ?_) (fun z => ?_) (Nat.ne_of_lt lt1) ⟨⟨.none,Heap.get?_push_size _ rfl⟩,kO.new.at fun o e => Heap.get?_push_of_some _ e,h1.at fun o e => Heap.get?_push_of_some _ (Heap.get?_push_of_some _ e)⟩ (fun c o e => Heap.get?_push_of_some _ (Heap.get?_push_of_some _ e)) ?_ (Nat.le_refl _)⟩
 ·rw [a1] at z; exact Nat.succ_ne_self _ z
 ·rw [a1] at z; exact Nat.ne_of_lt (Nat.lt_succ_of_lt lt1) z
 ·rw [a1]; exact Nat.le_succ _
theorem v9 {v:Value} {Q:Option Value -> Shared -> Prop} (hne:e ≠ it) (hqe:q ≠ e) (hqi:q ≠ it) (st:JL b e it q xs k s.heap) (hx:xs[k]? = some v)
  (hQ:∀ h',IsEnumOut h' e it ((k:Int) + 1) v s.heap.objs.size -> kO b h' it q (k + 1) -> j_ b h' q xs -> IsPair h' s.heap.objs.size (.int k s.toks) v -> (∀ c o,c ≠ e -> c ≠ it -> s.heap.get? c = some o -> h'.get? c = some o) -> Q (some (.ref s.heap.objs.size)) { s with heap:=h',toks:=s.toks + 1 }) :
  wpAny (model prog w) A (pyNext (.ref e)) Q E s:= by
 obtain ⟨⟨old,he⟩,hi,hq⟩:=st
 have hT:s.TypeIs (.ref e) "enumerate":=⟨_,he,rfl⟩
 have hel:e < s.heap.objs.size:=Heap.lt_size he
 unfold pyNext
 refine wpAny_bind (wpAny_attempt (wpAny_callSpecial?_slot (name:=Str.ofString "__next__") hT F.slot_enumerate_next (wpAny_call_entry F.slot_enumerate_next hT F.entry_enumerate_next (?_:wpAny _ _ (field (.ref e) 2 >>= _) _ _ _) (F.args_enumerate_next_1 _))))
 obtain ⟨hp,g,d,tk,os⟩:=s
 refine wpAny_bind (wpAny_field he rfl (x:=.ref it) rfl (wpAny_bind (gB hi hq hx fun h1 hi1 s1 => ?_)))
 replace s1:Heap.SameBut it hp h1:=s1
 have e1:IsEnum h1 e it k old:=(s1.2 e hne).trans he
 refine (?_:wpAny _ _ (field (.ref e) 3 >>= _) _ _ ⟨h1,g,d,tk,os⟩)
 refine wpAny_bind (wpAny_field (s:=⟨h1,g,d,tk,os⟩) e1 rfl (x:=rawInt k) rfl (?_:wpAny _ _ (field (.ref e) 4 >>= _) _ _ ⟨h1,g,d,tk,os⟩))
 refine wpAny_bind (wpAny_field (s:=⟨h1,g,d,tk,os⟩) e1 rfl (x:=.none) rfl (?_:wpAny _ _ (mkInt k >>= _) _ _ ⟨h1,g,d,tk,os⟩))
 refine wpAny_bind (wpAny_mkInt (?_:wpAny _ _ (setField (.ref e) 3 (rawInt ((k:Int) + 1)) >>= _) _ _ ⟨h1,g,d,tk + 1,os⟩))
 refine wpAny_bind (wpAny_setField_rec (s:=⟨h1,g,d,tk + 1,os⟩) e1 (by simp) fun h2 e2 s2 => (?_:wpAny _ _ (setField (.ref e) 4 .none >>= _) _ _ ⟨h2,g,d,tk + 1,os⟩))
 replace s2:Heap.SameBut e h1 h2:=s2
 replace e2:IsEnum h2 e it ((k:Int) + 1) old:=e2
 refine wpAny_bind (wpAny_setField_rec (s:=⟨h2,g,d,tk + 1,os⟩) e2 (by simp) fun h3 e3 s3 => (?_:wpAny _ _ (newTuple [.int k tk,v] >>= _) _ _ ⟨h3,g,d,tk + 1,os⟩))
 replace s3:Heap.SameBut e h2 h3:=s3
 replace e3:IsEnum h3 e it ((k:Int) + 1) old:=e3
 refine wpAny_bind (wpAny_newTuple ?_)
 have hsz:h3.objs.size = hp.objs.size:=by rw [s3.1,s2.1,s1.1]
 have e4:IsEnum (h3.push { cls:=.type "tuple",data:=.seq #[.int k tk,v] }) e it ((k:Int) + 1) old:=Heap.get?_push_of_some _ e3
 have t4:IsPair (h3.push { cls:=.type "tuple",data:=.seq #[.int k tk,v] }) hp.objs.size (.int k tk) v:=by rw [<- hsz]; exact Heap.get?_push_size _ rfl
 have up4:∀ c o,c ≠ e -> h1.get? c = some o -> (h3.push { cls:=.type "tuple",data:=.seq #[.int k tk,v] }).get? c = some o:=fun c o hc x => Heap.get?_push_of_some _ (s3.extBut c o hc (s2.extBut c o hc x))
 refine (?_:wpAny _ _ (Builtin.SmallTypes.ownedTupleIsFree (.ref e) >>= _) _ _ ⟨h3.push { cls:=.type "tuple",data:=.seq #[.int k tk,v] },g,d,tk + 1,os⟩)
 rw [hsz]
 generalize h3.push { cls:=.type "tuple",data:=.seq #[.int k tk,v] } = h4 at e4 t4 up4
 refine wpAny_bind ?_
 unfold Builtin.SmallTypes.ownedTupleIsFree
 refine wpAny_bind (wpAny_field (s:=⟨h4,g,d,tk + 1,os⟩) e4 rfl (x:=.none) rfl (wpAny_pure ?_))
 simp only [if_true]
 refine wpAny_bind (wpAny_rule (wpAny_bind (wpAny_field (s:=⟨h4,g,d,tk + 1,os⟩) e4 rfl (x:=old) rfl ?_)))
 refine wpAny_bind (wpAny_setField_rec (s:=⟨h4,g,d,tk + 1,os⟩) e4 (by simp) fun h5 e5 s5 => (?_:wpAny _ _ (Builtin.SmallTypes.ownedTupleHandOut (.ref e) (.ref hp.objs.size) >>= _) _ _ ⟨h5,g,d,tk + 1,os⟩))
 replace s5:Heap.SameBut e h4 h5:=s5
 replace e5:IsEnum h5 e it ((k:Int) + 1) v:=e5
 refine wpAny_bind ?_
 unfold Builtin.SmallTypes.ownedTupleHandOut
 refine wpAny_bind (wpAny_setField_rec (s:=⟨h5,g,d,tk + 1,os⟩) e5 (by simp) fun h6 e6 s6 => ?_)
 replace s6:Heap.SameBut e h5 h6:=s6
 replace e6:IsEnumOut h6 e it ((k:Int) + 1) v hp.objs.size:=e6
 refine wpAny_setField_rec (s:=⟨h6,g,d,tk + 1,os⟩) e6 (by simp) fun h7 e7 s7 => ?_
 replace s7:Heap.SameBut e h6 h7:=s7
 replace e7:IsEnumOut h7 e it ((k:Int) + 1) v hp.objs.size:=e7
 have up:∀ c o,c ≠ e -> h1.get? c = some o -> h7.get? c = some o:=fun c o hc x => s7.extBut c o hc (s6.extBut c o hc (s5.extBut c o hc (up4 c o hc x)))
 have hel':hp.objs.size ≠ e:=Nat.ne_of_gt hel
 refine wpAny_bind (wpAny_letGo (wpAny_pure ⟨_,rfl,wpAny_pure (hQ h7 e7 (hi1.at fun o x => up _ _ hne.symm x) (hq.at fun o x => up _ _ hqe (s1.extBut _ _ hqi x)) (s7.extBut _ _ hel' (s6.extBut _ _ hel' (s5.extBut _ _ hel' t4))) fun c o c1 c2 x => up c o c1 (s1.extBut _ _ c2 x))⟩))
theorem yF {Q:Option Value -> Shared -> Prop} (hh:A.handled = none) (st:JL b e it q xs k s.heap) (hx:xs[k]? = none) (hQ:∀ h',(∀ c o,c ≠ it -> s.heap.get? c = some o -> h'.get? c = some o) -> Q none { s with heap:=h' }):wpAny (model prog w) A (pyNext (.ref e)) Q E s:= by
 obtain ⟨⟨old,he⟩,hi,hq⟩:=st
 have hT:s.TypeIs (.ref e) "enumerate":=⟨_,he,rfl⟩
 unfold pyNext
 refine wpAny_bind (wpAny_attempt (wpAny_callSpecial?_slot (name:=Str.ofString "__next__") hT F.slot_enumerate_next (wpAny_call_entry F.slot_enumerate_next hT F.entry_enumerate_next (?_:wpAny _ _ (field (.ref e) 2 >>= _) _ _ _) (F.args_enumerate_next_1 _))))
 refine wpAny_bind (wpAny_field he rfl (x:=.ref it) rfl (wpAny_bind (ml (by simpa using hh) hi hq hx fun h' x kp hx' => ?_)))
 obtain ⟨o,ho,hc⟩:=hx'
 exact wpAny_bind (wpAny_isInstance (T:="StopIteration") (b:=true) ⟨o,ho,hc⟩ isSubtype_stop (wpAny_pure (hQ _ kp)))
end
end Jt
namespace L2
open PySem PySem.Spec PyProof.Rows
abbrev Key:=Sum Int Str
def Dj:Key -> Value -> Bool
 | .inl k,v => Value.isInt k v
 | .inr x,v => Value.isStrOf x v
def JM (w:World):Key -> Int
 | .inl k => hashInt k
 | .inr x => hashStr w x
theorem cJ:∀ {k:Key} {v:Value},Dj k v = true -> (∃ i t,k = Sum.inl i ∧ v = Value.int i t) ∨ (∃ x t,k = Sum.inr x ∧ v = Value.str x t)
 | .inl i,v,h => by
  obtain ⟨t,e⟩:=Value.isInt_shape (k:=i) (v:=v) h
  exact .inl ⟨i,t,rfl,e⟩
 | .inr x,v,h => by
  obtain ⟨t,e⟩:=Value.isStrOf_shape (x:=x) (v:=v) h
  exact .inr ⟨x,t,rfl,e⟩
theorem Ej (a b:Int):decide ((Sum.inl a:Key) = Sum.inl b) = (a == b):= by
 by_cases e:a = b
 ·subst e; simp
 ·have h:¬ (Sum.inl a:Key) = Sum.inl b:=fun q => e (Sum.inl.inj q)
  rw [decide_eq_false h]
  exact (beq_eq_false_iff_ne.mpr e).symm
theorem FZ (a b:Str):decide ((Sum.inr a:Key) = Sum.inr b) = decide (a = b):= by
 by_cases e:a = b
 ·subst e; simp
 ·have h:¬ (Sum.inr a:Key) = Sum.inr b:=fun q => e (Sum.inr.inj q)
  rw [decide_eq_false h,decide_eq_false e]
theorem FA (a:Int) (b:Str):decide ((Sum.inl a:Key) = Sum.inr b) = false:=decide_eq_false (fun q => nomatch q)
theorem FC (a:Str) (b:Int):decide ((Sum.inr a:Key) = Sum.inl b) = false:=decide_eq_false (fun q => nomatch q)
def pQ (prog:Program) (w:World):PySem.KeyKind prog w Key where
 is:=Dj
 hash:=JM w
 inj:=fun v a b ha hb => by
  rcases cJ ha with ⟨i,t,rfl,rfl⟩ | ⟨x,t,rfl,rfl⟩
  ·rcases cJ hb with ⟨j,u,rfl,e⟩ | ⟨y,u,rfl,e⟩
   ·injection e with e1 _; rw [e1]
   ·exact nomatch e
  ·rcases cJ hb with ⟨j,u,rfl,e⟩ | ⟨y,u,rfl,e⟩
   ·exact nomatch e
   ·injection e with e1 _; rw [e1]
 byValue:=fun k v h => by
  rcases cJ h with ⟨i,t,rfl,rfl⟩ | ⟨x,t,rfl,rfl⟩ <;> rfl
 pyHash:=fun hv h => by
  rcases cJ hv with ⟨i,t,rfl,rfl⟩ | ⟨x,t,rfl,rfl⟩
  ·exact wpAny_pyHash_int h
  ·exact wpAny_pyHash_str h
 eqBool:=fun hu hv h => by
  rcases cJ hu with ⟨i,t,rfl,rfl⟩ | ⟨x,t,rfl,rfl⟩
  ·rcases cJ hv with ⟨j,u,rfl,rfl⟩ | ⟨y,u,rfl,rfl⟩
   ·rw [Ej] at h; exact wpAny_eqBool_int h
   ·rw [FA] at h; exact SeqAt.EqAt.int_str i t y u _ _ _ _ h
  ·rcases cJ hv with ⟨j,u,rfl,rfl⟩ | ⟨y,u,rfl,rfl⟩
   ·rw [FC] at h; exact SeqAt.EqAt.str_int x t j u _ _ _ _ h
   ·rw [FZ] at h; exact wpAny_eqBool_str h
 «strs»:=fun k x t v h => by
  rcases cJ h with ⟨i,u,rfl,e⟩ | ⟨y,u,rfl,e⟩
  ·exact nomatch e
  ·injection e with e1 _
   subst e1
   cases v <;> rfl
end L2
namespace L2
open PySem PySem.Spec PyProof.Rows
inductive V where
 | non | bl (b:Bool) | int (i:Int) | str (x:Str) | byt (b:Array UInt8) | flt (b:UInt64) | ref (a:Addr) | ty (n:String)
 deriving DecidableEq
def RelV:V -> Value -> Prop
 | .non,u => u = Value.none
 | .bl b,u => u = Value.bool b
 | .int i,u => ∃ t,u = Value.int i t
 | .str x,u => ∃ t,u = Value.str x t
 | .byt b,u => ∃ t,u = Value.bytes b t
 | .flt b,u => ∃ t,u = Value.float b t
 | .ref a,u => u = Value.ref a
 | .ty n,u => u = Value.type n
abbrev Vals:List V -> List Value -> Prop:=Paired RelV
theorem Vals.length {xs:List V} {us:List Value} (r:Vals xs us):xs.length = us.length:=Paired.length r
theorem Vals.get:∀ {xs:List V} {us:List Value} {i:Nat} {x:V},Vals xs us -> xs[i]? = some x -> ∃ u,us[i]? = some u ∧ RelV x u
 | _,_,_,_,.nil,e => by simp at e
 | _,_,0,_,.cons r _,e => by simp at e; subst e; exact ⟨_,rfl,r⟩
 | _,_,i + 1,x,.cons _ t,e => by
  obtain ⟨u,h1,h2⟩:=Vals.get (i:=i) (x:=x) t (by simpa using e)
  exact ⟨u,by simpa using h1,h2⟩
theorem Vals.set {x:V} {u:Value} (r:RelV x u):∀ {xs:List V} {us:List Value} (i:Nat),Vals xs us -> Vals (xs.set i x) (us.set i u)
 | _,_,_,.nil => .nil
 | _,_,0,.cons _ t => .cons r t
 | _,_,i + 1,.cons q t => .cons q (Vals.set r i t)
theorem Vals.append:∀ {xs ys:List V} {us ws:List Value},Vals xs us -> Vals ys ws -> Vals (xs ++ ys) (us ++ ws)
 | _,_,_,_,.nil,s => s
 | _,_,_,_,.cons r t,s => .cons r (Vals.append t s)
theorem Vals.take:∀ {xs:List V} {us:List Value} (n:Nat),Vals xs us -> Vals (xs.take n) (us.take n)
 | _,_,0,_ => .nil
 | _,_,_ + 1,.nil => .nil
 | _,_,n + 1,.cons r t => .cons r (Vals.take n t)
theorem Vals.drop:∀ {xs:List V} {us:List Value} (n:Nat),Vals xs us -> Vals (xs.drop n) (us.drop n)
 | _,_,0,r => r
 | _,_,_ + 1,.nil => .nil
 | _,_,n + 1,.cons _ t => Vals.drop n t
def G0:Option V -> Option Value -> Prop
 | some v,some u => RelV v u
 | none,none => True
 | _,_ => False
def KV {κ:Type}:List (κ × V) -> List (κ × Value) -> Prop:=Paired fun (p:κ × V) (q:κ × Value) => p.1 = q.1 ∧ RelV p.2 q.2
def kV:Key -> V
 | .inl i => .int i
 | .inr x => .str x
inductive HO where
  | lst (xs:List V)
  | tup (xs:List V)
  | dK (kvs:List (Key × V)) | dT (kvs:List (List Key × V))
  | set (S:Int -> Bool) (n:Nat)
  | ins (C dx:Addr) (fs:List (Str × V))
  | own (x:Addr)
  | xd (fs:List (Str × V))
  | met (f x:Addr)
  | rng (lo hi:Int)
  | frz (o:Obj) (u:HO)
  | tbl (ps:Array Value)
  | ext (φ:Heap -> Prop)
abbrev Hp:=Addr -> Option HO
def upd (H:Hp) (a:Addr) (o:HO):Hp:=fun b => if b = a then some o else H b
theorem aV {H:Hp} {a:Addr} {o:HO}:upd H a o a = some o:=by unfold upd; rw [if_pos rfl]
theorem aA {H:Hp} {a b:Addr} {o:HO} (h:b ≠ a):upd H a o b = H b:=by unfold upd; rw [if_neg h]
theorem Br {H:Hp} {a:Addr} {o u:HO}:upd (upd H a o) a u = upd H a u:= by
 funext b; unfold upd; split <;> rfl
theorem cw {H:Hp} {a b:Addr} {o:HO} (h:H a = some o) (h':H b = none):a ≠ b:= by
 intro e; subst e; rw [h] at h'; cases h'
section
variable (P:Program) (w:World)
def eD (H:Hp) (h:Heap) (a:Addr):HO -> Prop
 | .lst xs => xs.length ≤ sizeLine ∧ ∃ (its:List Value) (n:Nat),Vals xs its ∧ h.get? a = some { cls:=.type "list",data:=.seq its.toArray n }
 | .tup xs => xs.length ≤ sizeLine ∧ ∃ its:List Value,Vals xs its ∧ IsTup h a its.toArray
 | .dK kvs => kvs.length ≤ sizeLine ∧ (a == sysModules) = false ∧ ∃ vs,KV kvs vs ∧ h.DictOf (pQ P w) a vs
 | .dT kvs => kvs.length ≤ sizeLine ∧ (a == sysModules) = false ∧ ∃ xs:List (List Key × Addr × Value),
   Paired (fun (p:List Key × V) (q:List Key × Addr × Value) => p.1 = q.1 ∧ H q.2.1 = some (.tup (p.1.map kV)) ∧ RelV p.2 q.2.2) kvs xs ∧
   ∃ o es ep,h.get? a = some o ∧ o.ExactDict ∧ o.data = .dict es ep ∧ es.toList = xs.map (entryOfKey (tupleKind (pQ P w))) ∧ (xs.map (·.1)).Nodup
 | .set S n => h.SetOf (intKind P w) a S n
 | .ins C dx fs => H dx = some (.own a) ∧ fs.length ≤ 1000 ∧ dx ≠ a ∧ h.get? a = some (PySem.W.instObj C dx) ∧
   ∃ mA,h.Ns1 dx mA ∧ (∀ f,G0 (fs.lookup f) (mA f)) ∧ PySem.Within mA (fs.map (·.1))
 | .own _ => ∃ o,h.get? a = some o
 | .xd fs => ∃ mA,h.Ns1 a mA ∧ ∀ f,G0 (fs.lookup f) (mA f)
 | .rng lo hi => ∃ t u v,h.get? a = some { cls:=.type "range",data:=.fields #[.int lo t,.int hi u,.int 1 v] }
 | .frz o u => h.get? a = some o ∧ eD H h a u
 | .tbl ps => h.get? a = some { cls:=.none,data:=.fields ps }
 | .met f x => h.get? a = some (PySem.W.methodObj (.ref f) (.ref x))
 | .ext φ => φ h ∧ (∃ o,h.get? a = some o) ∧ ∀ h1 h2:Heap,φ h1 -> (∀ o,h1.get? a = some o -> h2.get? a = some o) -> φ h2
def mL (H:Hp) (h:Heap):Prop:=∀ a o,H a = some o -> eD P w H h a o
end
section
variable {P:Program} {w:World} {H H':Hp} {h h':Heap} {a:Addr} {o:HO}
theorem eD.lt (x:eD P w H h a o):a < h.objs.size:= by
 cases o with
 | lst xs => obtain ⟨_,_,_,_,e⟩:=x; exact Heap.lt_size e
 | tup xs => obtain ⟨_,_,_,p⟩:=x; exact p.lt
 | dK kvs => obtain ⟨_,_,_,_,o,_,_,e,_⟩:=x; exact Heap.lt_size e
 | dT kvs => obtain ⟨_,_,_,_,o,_,_,e,_⟩:=x; exact Heap.lt_size e
 | set S n => obtain ⟨o,_,_,_,e,_⟩:=x; exact Heap.lt_size e
 | ins C dx fs => obtain ⟨_,_,_,e,_⟩:=x; exact Heap.lt_size e
 | own y => obtain ⟨_,e⟩:=x; exact Heap.lt_size e
 | xd fs => obtain ⟨_,⟨_,_,_,e,_⟩,_⟩:=x; exact Heap.lt_size e
 | rng lo hi => obtain ⟨_,_,_,e⟩:=x; exact Heap.lt_size e
 | frz ob u => obtain ⟨e,_⟩:=x; exact Heap.lt_size e
 | tbl ps => exact Heap.lt_size (show h.get? a = some _ from x)
 | met f y => exact Heap.lt_size (show h.get? a = some _ from x)
 | ext φ => obtain ⟨_,⟨_,e⟩,_⟩:=x; exact Heap.lt_size e
theorem Paired.mapP {α β:Type} {F G:α -> β -> Prop}:∀ {l₁:List α} {l₂:List β},Paired F l₁ l₂ -> (∀ a b,F a b -> G a b) -> Paired G l₁ l₂
 | _,_,.nil,_ => .nil
 | _,_,.cons r t,f => .cons (f _ _ r) (Paired.mapP t f)
theorem eD.stay (x:eD P w H h a o) (k:∀ b u,(b = a ∨ H b = some (.own a)) -> h.get? b = some u -> h'.get? b = some u)
  (ho:∀ b,H b = some (.own a) -> H' b = some (.own a)) (ht:∀ b xs,H b = some (.tup xs) -> H' b = some (.tup xs)):eD P w H' h' a o:= by
 induction o with
 | lst xs => obtain ⟨z,its,n,r,e⟩:=x; exact ⟨z,its,n,r,k _ _ (.inl rfl) e⟩
 | tup xs => obtain ⟨z,its,r,ob,e,c⟩:=x; exact ⟨z,its,r,ob,k _ _ (.inl rfl) e,c⟩
 | dK kvs => obtain ⟨z,y,vs,r,ob,es,ep,e,c⟩:=x; exact ⟨z,y,vs,r,ob,es,ep,k _ _ (.inl rfl) e,c⟩
 | dT kvs =>
  obtain ⟨z,y,xs,r,ob,es,ep,e,c⟩:=x
  exact ⟨z,y,xs,Paired.mapP r fun p q z => ⟨z.1,ht _ _ z.2.1,z.2.2⟩,ob,es,ep,k _ _ (.inl rfl) e,c⟩
 | set S n => obtain ⟨ob,es,ep,t,e,c⟩:=x; exact ⟨ob,es,ep,t,k _ _ (.inl rfl) e,c⟩
 | ins C dx fs =>
  obtain ⟨d,z,ne,e,mA,⟨od,es,ep,e2,c⟩,r⟩:=x
  exact ⟨ho _ d,z,ne,k _ _ (.inl rfl) e,mA,⟨od,es,ep,k _ _ (.inr d) e2,c⟩,r⟩
 | own y => obtain ⟨ob,e⟩:=x; exact ⟨ob,k _ _ (.inl rfl) e⟩
 | xd fs => obtain ⟨mA,⟨od,es,ep,e,c⟩,r⟩:=x; exact ⟨mA,⟨od,es,ep,k _ _ (.inl rfl) e,c⟩,r⟩
 | rng lo hi => obtain ⟨t,u,v,e⟩:=x; exact ⟨t,u,v,k _ _ (.inl rfl) e⟩
 | frz ob u ih => obtain ⟨e,q⟩:=x; exact ⟨k _ _ (.inl rfl) e,ih q⟩
 | tbl ps =>
  have e:h.get? a = some { cls:=.none,data:=.fields ps }:=x
  show h'.get? a = some { cls:=.none,data:=.fields ps }
  exact k a _ (.inl rfl) e
 | met f y =>
  have e:h.get? a = some (PySem.W.methodObj (.ref f) (.ref y)):=x
  show h'.get? a = some (PySem.W.methodObj (.ref f) (.ref y))
  exact k a _ (.inl rfl) e
 | ext φ => obtain ⟨p,⟨o,e⟩,st⟩:=x; exact ⟨st _ _ p fun o q => k _ _ (.inl rfl) q,⟨o,k _ _ (.inl rfl) e⟩,st⟩
theorem mL.lt (x:mL P w H h) (e:H a = some o):a < h.objs.size:=(x a o e).lt
theorem mL.fresh (x:mL P w H h) (e:h.objs.size ≤ a):H a = none:= by
 cases q:H a with
 | none => rfl
 | some u => exact absurd (Nat.lt_of_lt_of_le (x.lt q) e) (Nat.lt_irrefl _)
theorem mL.kept (x:mL P w H h) (k:∀ b u,h.get? b = some u -> h'.get? b = some u):mL P w H h':=fun a o e =>
 (x a o e).stay (fun b u _ q => k b u q) (fun _ q => q) fun _ _ q => q
theorem mL.laid (x:mL P w H h) (k:∀ b u,h.get? b = some u -> h'.get? b = some u) (hp:h.objs.size ≤ a) (new:eD P w (upd H a o) h' a o):mL P w (upd H a o) h':=fun b u e => by
 have hn:=x.fresh hp
 by_cases hb:b = a
 ·subst hb; rw [aV] at e; cases e; exact new
 ·rw [aA hb] at e
  exact (x b u e).stay (fun c v _ q => k c v q) (fun c q => by rw [aA (cw q hn)]; exact q) fun c xs q => by rw [aA (cw q hn)]; exact q
end
def Rd (H:Hp) (a:Addr) (u:HO):Prop:=H a = some u ∨ ∃ o,H a = some (.frz o u)
theorem Rd.ok {P:Program} {w:World} {H:Hp} {h:Heap} {a:Addr} {u:HO} (r:Rd H a u) (x:mL P w H h):eD P w H h a u:= by
 rcases r with r | ⟨o,r⟩
 ·exact x a u r
 ·obtain ⟨_,q⟩:=x a _ r
  exact q
def IE:Option HO -> Prop
 | some (.lst _) => True
 | some (.dK _) => True
 | some (.dT _) => True
 | some (.set _ _) => True
 | some (.ins _ _ _) => True
 | some (.ext _) => True
 | _ => False
section
variable {P:Program} {w:World} {H:Hp} {h h':Heap} {x e:Addr} {o':HO}
theorem mL.write (ok:mL P w H h) (mu:IE (H x)) (he:e = x ∨ H e = some (.own x)) (k:∀ b u,b ≠ e -> h.get? b = some u -> h'.get? b = some u) (heo:∃ u,h'.get? e = some u)
  (new:eD P w (upd H x o') h' x o'):mL P w (upd H x o') h':=fun b u q => by
 have nown:∀ c y,H c = some (.own y) -> c ≠ x:=fun c y r z => by subst z; rw [r] at mu; exact mu
 have ntup:∀ c xs,H c = some (.tup xs) -> c ≠ x:=fun c xs r z => by subst z; rw [r] at mu; exact mu
 by_cases hb:b = x
 ·subst hb; rw [aV] at q; cases q; exact new
 ·rw [aA hb] at q
  by_cases hbe:b = e
  ·have q':H b = some (.own x):= by
    rcases he with z | z
    ·exact absurd (hbe.trans z) hb
    ·rw [hbe]; exact z
   rw [q] at q'; cases q'
   obtain ⟨v,hv⟩:=heo
   exact ⟨v,by rw [hbe]; exact hv⟩
  ·refine (ok b u q).stay (fun c v hc r => k c v ?_ r) (fun c r => by rw [aA (nown c b r)]; exact r) fun c xs r => by rw [aA (ntup c xs r)]; exact r
   rcases hc with rfl | hc
   ·exact hbe
   ·rintro rfl
    rcases he with z | z
    ·exact nown c b hc z
    ·rw [hc] at z; cases z; exact hb rfl
end
structure Un (fs ex:List Addr) (H H':Hp) (h h':Heap):Prop where
 keep:∀ b o,h.get? b = some o -> H b = none -> b ∉ fs -> b ∉ ex -> h'.get? b = some o
 slot:∀ b o,h.get? b = some o -> H b = none -> b ∈ fs -> b ∉ ex -> ∃ sl,h'.get? b = some { o with slots:=sl }
 free:∀ b o,h.get? b = some o -> H b = none -> b ∉ ex -> H' b = none
 there:∀ b o,h.get? b = some o -> b ∉ ex -> ∃ o',h'.get? b = some o'
 tups:∀ b xs,H b = some (.tup xs) -> H' b = some (.tup xs)
 frzs:∀ b o u,H b = some (.frz o u) -> H' b = some (.frz o u)
 tbls:∀ b ps,H b = some (.tbl ps) -> ∃ more,H' b = some (.tbl (ps ++ more))
section
variable {fs fs' ex ex':List Addr} {H H1 H2:Hp} {h h1 h2 h':Heap} {a x e:Addr} {o:HO}
theorem Un.any (u:Un fs ex H H1 h h1) {b:Addr} {ob:Obj} (q:h.get? b = some ob) (n:H b = none) (hx:b ∉ ex):∃ sl,h1.get? b = some { ob with slots:=sl }:= by
 by_cases hb:b ∈ fs
 ·exact u.slot b ob q n hb hx
 ·exact ⟨ob.slots,u.keep b ob q n hb hx⟩
theorem Un.kept (k:∀ b u,h.get? b = some u -> h'.get? b = some u):Un fs ex H H h h' :=
 ⟨fun b ob q _ _ _ => k b ob q,fun b ob q _ _ _ => ⟨ob.slots,k b ob q⟩,fun _ _ _ n _ => n,fun b ob q _ => ⟨ob,k b ob q⟩,fun _ _ q => q,fun _ _ _ q => q,fun _ ps q => ⟨#[],by rw [q]; simp⟩⟩
theorem Un.refl:Un fs ex H H h h:=Un.kept fun _ _ q => q
theorem Un.laid (k:∀ b u,h.get? b = some u -> h'.get? b = some u) (hp:h.objs.size ≤ a) (hn:H a = none):Un fs ex H (upd H a o) h h' where
 keep:=fun b u q _ _ _ => k b u q
 slot:=fun b u q _ _ _ => ⟨u.slots,k b u q⟩
 free:=fun b u q n _ => by rw [aA (Nat.ne_of_lt (Nat.lt_of_lt_of_le (Heap.lt_size q) hp))]; exact n
 there:=fun b u q _ => ⟨u,k b u q⟩
 tups:=fun b xs q => by rw [aA (cw q hn)]; exact q
 frzs:=fun b u xs q => by rw [aA (cw q hn)]; exact q
 tbls:=fun b ps q => ⟨#[],by rw [aA (cw q hn),q]; simp⟩
theorem Un.write (mu:IE (H x)) (he:e = x ∨ H e = some (.own x)) (k:∀ b u,b ≠ e -> h.get? b = some u -> h'.get? b = some u) (heo:∃ u,h'.get? e = some u):Un fs ex H (upd H x o) h h':= by
 have hx:∀ b,H b = none -> b ≠ x:=fun b n z => by subst z; rw [n] at mu; exact mu
 have hb:∀ b,H b = none -> b ≠ e:=fun b n z => by
  subst z
  rcases he with r | r
  ·exact hx b n r
  ·rw [n] at r; cases r
 have hm:∀ b u,H b = some u -> ¬ IE (some u) -> b ≠ x:=fun b u q nm z => by subst z; rw [q] at mu; exact nm mu
 refine ⟨fun b u q n _ _ => k b u (hb b n) q,fun b u q n _ _ => ⟨u.slots,k b u (hb b n) q⟩,fun b u q n _ => by rw [aA (hx b n)]; exact n,fun b u q _ => ?_,
  fun b xs q => by rw [aA (hm b _ q fun z => z)]; exact q,fun b u xs q => by rw [aA (hm b _ q fun z => z)]; exact q,fun b ps q => ⟨#[],by rw [aA (hm b _ q fun z => z),q]; simp⟩⟩
 by_cases hbe:b = e
 ·subst hbe; exact heo
 ·exact ⟨u,k b u hbe q⟩
end
def IG (h:Heap) (H:Hp):List Addr:=(List.range h.objs.size).filter fun a => (H a).isSome
def pS (h:Heap) (H:Hp):Heap:=PySem.W.hideAll h (IG h H)
theorem wd (h:Heap) (H:Hp):(pS h H).objs.size = h.objs.size:=PySem.W.hideAll_size _ _
theorem xT {h:Heap} {H:Hp} {b:Addr} {o:Obj} (e:h.get? b = some o) (n:H b = none):(pS h H).get? b = some o :=
 PySem.W.hideAll_get _ e fun hm => by
  have q:(H b).isSome = true:=(List.mem_filter.mp hm).2
  rw [n] at q; simp at q
theorem BL {h:Heap} {H:Hp} {b:Addr} {o:Obj} (e:(pS h H).get? b = some o):h.get? b = some o ∧ H b = none:= by
 have e':h.get? b = some o:=PySem.W.of_hideAll (IG h H) e
 refine ⟨e',?_⟩
 cases q:H b with
 | none => rfl
 | some x =>
  have hm:b ∈ IG h H:=List.mem_filter.mpr ⟨List.mem_range.mpr (Heap.lt_size e'),by simp [q]⟩
  have z:(pS h H).get? b = none:=PySem.W.hideAll_none (IG h H) hm
  rw [z] at e; cases e
def CC (g h:Heap) (L:Addr):List (Addr × Obj):=(List.range h.objs.size).filterMap fun a => if a = L ∨ (g.get? a).isSome = true then none else (h.get? a).map fun o => (a,o)
def rest (g h:Heap) (L d:Addr):List (Addr × Obj):=(CC g h L).filter fun p => decide (p.1 ≠ d)
end L2
namespace L2
open PySem PySem.Spec PyProof.Rows
structure Mod (K:PySem.W.Frag) (mg:Str -> Option Value) (base:Heap):Prop where
 kin:K.In base
 glob:base.Ns mainGlobals mg
 blt:∃ mb,base.Ns builtinsNs mb ∧ ∀ x:Str,x ≠ "__name__" -> mb x = bootBuiltins x
 nolimit:base.NoLimit
structure Cx where
 prog:Program
 w:World
 K:PySem.W.Frag
 mg:Str -> Option Value
 base:Heap
 A:Around
 N:List Str
 s₀:Shared
 H₀:Hp
 env:Env
 outer:List Env
 stack:List Env
 ex:List Addr
 fn:Str -> Bool
 calm:Bool
 pn:List (Addr × Obj)
 xe:Value -> Shared -> Prop
def wQ (l:List Env):List Addr:=l.filterMap (·.frame)
abbrev Cx.fs (X:Cx):List Addr:=wQ X.outer
def vd (sc:Scope) (x:Str):Prop:=sc.names.lookup x = some .local ∨ sc.names.lookup x = some .cell ∨ sc.names.lookup x = some .free
def Loc (sc:Scope) (x:Str):Prop:=sc.names.lookup x = some .local ∨ sc.names.lookup x = some .cell
def Look (env:Env) (h:Heap) (m:Str -> Option Value) (x:Str) (u:Value):Prop :=
 (env.kindOf x = some .local ∧ m x = some u) ∨ ((env.kindOf x = some .cell ∨ env.kindOf x = some .free) ∧ ∃ c,env.cells.lookup x = some c ∧ h.IsCell c (some u))
structure Cx.Ok (X:Cx):Prop where
 mod:Mod X.K X.mg X.base
 kind:X.env.scope.kind = .function
 glob:X.env.globals = mainGlobals
 blt:X.env.builtins = builtinsNs
 above:X.s₀.heap.objs.size ≤ X.env.locals
 inj:∀ x y c,X.env.cells.lookup x = some c -> X.env.cells.lookup y = some c -> x = y
 has:∀ x,(X.env.kindOf x = some .cell ∨ X.env.kindOf x = some .free) -> ∃ c,X.env.cells.lookup x = some c
 cab:∀ x c,X.fn x = true -> X.env.cells.lookup x = some c -> X.s₀.heap.objs.size ≤ c
 hd:X.calm = true -> X.A.handled = none
 frames:X.A.frames = some X.stack
 stk:X.stack = X.outer ∨ (X.stack = X.env :: X.outer ∧ X.env.frame = some X.env.locals)
 exf:∀ b ∈ X.ex,b ≠ X.env.locals ∧ ∀ x c,X.env.cells.lookup x = some c -> c ≠ b
 bs:∀ b o,X.base.get? b = some o -> X.s₀.heap.get? b = some o ∧ X.H₀ b = none
 bsz:X.base.objs.size ≤ X.s₀.heap.objs.size
 noex:∀ b o,X.base.get? b = some o -> b ∉ X.ex
 exfs:∀ b ∈ X.ex,b ∉ X.fs
 funs:X.s₀.heap.FunFrames X.base X.outer
 frf:∀ b ∈ X.fs,X.H₀ b = none
structure Inv (X:Cx) (pins:List (Addr × Obj)) (σ:List (Option V)) (H:Hp) (s:Shared):Prop where
 ok:X.Ok
 os:s.os = X.s₀.os
 bare:AllBare s.gens
 base:Un X.fs X.ex X.H₀ H X.s₀.heap s.heap
 loc:∃ m,s.heap.Ns X.env.locals m ∧ ∀ (i:Nat) (x:Str) (v:V),X.N[i]? = some x -> σ[i]? = some (some v) -> vd X.env.scope x -> ∃ u,RelV v u ∧ Look X.env s.heap m x u
 cell:∀ x c,X.env.cells.lookup x = some c -> ∃ v,s.heap.IsCell c v
 free:H X.env.locals = none
 freeC:∀ x c,X.env.cells.lookup x = some c -> H c = none
 pin:∀ p ∈ X.pn ++ pins,s.heap.get? p.1 = some p.2 ∧ H p.1 = none ∧ p.1 ≠ X.env.locals ∧ p.1 ∉ X.fs ∧ ∀ v,p.2.data ≠ .cell v
 hok:mL X.prog X.w H s.heap
 len:σ.length = X.N.length
section
variable {X:Cx} {pins:List (Addr × Obj)} {σ:List (Option V)} {H H':Hp} {s:Shared} {h':Heap}
theorem Cx.Ok.nofr (ok:X.Ok) {b:Addr} {o:Obj} (e:X.base.get? b = some o):b ∉ X.fs:=fun hb => by
 have:=(ok.funs.mem hb).1
 rw [e] at this; cases this
theorem Inv.bs (I:Inv X pins σ H s):∀ b o,X.base.get? b = some o -> s.heap.get? b = some o ∧ H b = none:=fun b o e =>
 ⟨I.base.keep b o (I.ok.bs b o e).1 (I.ok.bs b o e).2 (I.ok.nofr e) (I.ok.noex b o e),I.base.free b o (I.ok.bs b o e).1 (I.ok.bs b o e).2 (I.ok.noex b o e)⟩
theorem Inv.bk (I:Inv X pins σ H s):∀ b o,X.base.get? b = some o -> s.heap.get? b = some o:=fun b o e => (I.bs b o e).1
theorem Inv.mod (I:Inv X pins σ H s):Mod X.K X.mg X.base:=I.ok.mod
theorem Inv.kIn (I:Inv X pins σ H s):X.K.In s.heap:=I.ok.mod.kin.keeps I.bk
theorem Inv.fr (I:Inv X pins σ H s):∃ m,Fr X.base X.env.locals s.heap m :=
 let ⟨m,hn,_⟩:=I.loc
 ⟨m,hn,I.bk,Nat.le_trans I.ok.bsz I.ok.above⟩
theorem Inv.lt (I:Inv X pins σ H s):X.env.locals < s.heap.objs.size:=let ⟨_,hn,_⟩:=I.loc; hn.lt
theorem Inv.sz (I:Inv X pins σ H s):X.s₀.heap.objs.size ≤ s.heap.objs.size:=Nat.le_trans I.ok.above (Nat.le_of_lt I.lt)
theorem Inv.nofs (I:Inv X pins σ H s) {a:Addr} (h:s.heap.objs.size ≤ a):a ∉ X.fs:=fun hb => by
 obtain ⟨_,o,ho,_⟩:=I.ok.funs.mem hb
 exact absurd (Nat.lt_of_lt_of_le (Heap.lt_size ho) (Nat.le_trans I.sz h)) (Nat.lt_irrefl _)
theorem Inv.cne (I:Inv X pins σ H s):∀ x c,X.env.cells.lookup x = some c -> c ≠ X.env.locals:=fun x c e z => by
 obtain ⟨v,o,ho,hd⟩:=I.cell x c e
 obtain ⟨m,⟨o',es,ep,ho',hd',_⟩,_⟩:=I.loc
 rw [z,ho'] at ho; cases ho; rw [hd'] at hd; cases hd
theorem Inv.funs (I:Inv X pins σ H s):s.heap.FunFrames X.base X.outer:= by
 have all:∀ (l:List Env),(∀ b ∈ wQ l,b ∈ X.fs) -> X.s₀.heap.FunFrames X.base l -> s.heap.FunFrames X.base l:= by
  intro l
  induction l with
  | nil => intro _ _; trivial
  | cons env r ih =>
   intro hs hl
   obtain ⟨hk,⟨L,o,hf,hn,ho,hd⟩,hr⟩:=hl
   have hL:L ∈ X.fs:=hs L (by unfold wQ; rw [List.filterMap_cons,hf]; exact List.mem_cons_self)
   obtain ⟨sl,e⟩:=I.base.slot L o ho (I.ok.frf L hL) hL fun z => I.ok.exfs L z hL
   exact ⟨hk,⟨L,_,hf,hn,e,hd⟩,ih (fun b hb => hs b (by unfold wQ; rw [List.filterMap_cons,hf]; exact List.mem_cons_of_mem _ hb)) hr⟩
 exact all X.outer (fun _ hb => hb) I.ok.funs
theorem Inv.stack (I:Inv X pins σ H s):s.heap.FunFrames X.base X.stack:= by
 rcases I.ok.stk with e | ⟨e,hf⟩
 ·rw [e]; exact I.funs
 ·rw [e]
  obtain ⟨m,hn,_⟩:=I.loc
  refine .cons (by rw [I.ok.kind]; decide) hf hn ?_ I.funs
  exact Heap.get?_none_of_le (Nat.le_trans I.ok.bsz I.ok.above)
theorem Inv.stkSub (I:Inv X pins σ H s):∀ b ∈ wQ X.stack,b ∈ X.env.locals :: X.fs:=fun b hb => by
 rcases I.ok.stk with e | ⟨e,hf⟩
 ·rw [e] at hb; exact List.mem_cons_of_mem _ hb
 ·rw [e] at hb
  unfold wQ at hb
  rw [List.filterMap_cons,hf] at hb
  exact hb
theorem Inv.stkFree (I:Inv X pins σ H s):∀ b ∈ wQ X.stack,H b = none:=fun b hb => by
 rcases List.mem_cons.mp (I.stkSub b hb) with e | hb
 ·rw [e]; exact I.free
 ·obtain ⟨_,o,ho,_⟩:=I.ok.funs.mem hb
  exact I.base.free b o ho (I.ok.frf b hb) fun z => I.ok.exfs b z hb
theorem Inv.step {g':Array GenState} {t':Nat} {d':Drawn} {ch:List Addr} (I:Inv X pins σ H s)
  (hch:∀ b ∈ ch,(b ∈ X.ex ∨ X.s₀.heap.objs.size ≤ b) ∧ b ≠ X.env.locals ∧ (∀ x c,X.env.cells.lookup x = some c -> c ≠ b) ∧ ∀ p ∈ X.pn ++ pins,p.1 ≠ b)
  (keep:∀ b o,b ≠ X.env.locals -> b ∉ X.fs -> b ∉ ch -> s.heap.get? b = some o -> H b = none -> h'.get? b = some o)
  (slot:∀ b o,b ≠ X.env.locals -> b ∈ X.fs -> b ∉ ch -> s.heap.get? b = some o -> H b = none -> ∃ sl,h'.get? b = some { o with slots:=sl }) (free:∀ b o,b ∉ ch -> s.heap.get? b = some o -> H b = none -> H' b = none)
  (there:∀ b o,b ∉ ch -> s.heap.get? b = some o -> ∃ o',h'.get? b = some o')
  (tups:∀ b xs,H b = some (.tup xs) -> H' b = some (.tup xs)) (frzs:∀ b o u,H b = some (.frz o u) -> H' b = some (.frz o u)) (tbls:∀ b ps,H b = some (.tbl ps) -> ∃ more,H' b = some (.tbl (ps ++ more)))
  (ns:∀ m,s.heap.Ns X.env.locals m -> h'.Ns X.env.locals m) (hok:mL X.prog X.w H' h') (hg:AllBare g') :
  Inv X pins σ H' { s with heap:=h',gens:=g',drawn:=d',toks:=t' }:= by
 have neL:∀ b o,X.s₀.heap.get? b = some o -> b ≠ X.env.locals:=fun b o e => Nat.ne_of_lt (Nat.lt_of_lt_of_le (Heap.lt_size e) I.ok.above)
 have neC:∀ b o,X.s₀.heap.get? b = some o -> b ∉ X.ex -> b ∉ ch:=fun b o e hx hb => by
  rcases (hch b hb).1 with z | z
  ·exact hx z
  ·exact absurd (Nat.lt_of_lt_of_le (Heap.lt_size e) z) (Nat.lt_irrefl _)
 have cellK:∀ x c,X.env.cells.lookup x = some c -> ∀ v,s.heap.IsCell c v -> h'.IsCell c v:=fun x c e v ⟨o,ho,hd⟩ => by
  have nch:c ∉ ch:=fun z => (hch c z).2.2.1 x c e rfl
  by_cases hc:c ∈ X.fs
  ·obtain ⟨sl,q⟩:=slot c o (I.cne x c e) hc nch ho (I.freeC x c e)
   exact ⟨_,q,hd⟩
  ·exact ⟨o,keep c o (I.cne x c e) hc nch ho (I.freeC x c e),hd⟩
 refine ⟨I.ok,I.os,hg,⟨fun b o e n hb hx => ?_,fun b o e n hb hx => ?_,fun b o e n hx => ?_,fun b o e hx => ?_,fun b xs e => tups b xs (I.base.tups b xs e),fun b o xs e => frzs b o xs (I.base.frzs b o xs e),fun b ps e => ?_⟩,?_,fun x c e => ?_,?_,fun x c e => ?_,fun p hp => ?_,hok,I.len⟩
 ·exact keep b o (neL b o e) hb (neC b o e hx) (I.base.keep b o e n hb hx) (I.base.free b o e n hx)
 ·obtain ⟨sl,e1⟩:=I.base.slot b o e n hb hx
  obtain ⟨sl',e2⟩:=slot b _ (neL b o e) hb (neC b o e hx) e1 (I.base.free b o e n hx)
  exact ⟨sl',e2⟩
 ·obtain ⟨o',e1⟩:=I.base.there b o e hx
  exact free b o' (neC b o e hx) e1 (I.base.free b o e n hx)
 ·obtain ⟨o',e1⟩:=I.base.there b o e hx
  exact there b o' (neC b o e hx) e1
 ·obtain ⟨m1,e1⟩:=I.base.tbls b ps e
  obtain ⟨m2,e2⟩:=tbls b _ e1
  exact ⟨m1 ++ m2,by rw [e2,Array.append_assoc]⟩
 ·obtain ⟨m,hn,hl⟩:=I.loc
  refine ⟨m,ns m hn,fun i x v e1 e2 e3 => ?_⟩
  obtain ⟨u,r,l⟩:=hl i x v e1 e2 e3
  refine ⟨u,r,?_⟩
  rcases l with l | ⟨k,c,e,z⟩
  ·exact .inl l
  ·exact .inr ⟨k,c,e,cellK x c e _ z⟩
 ·obtain ⟨v,z⟩:=I.cell x c e
  exact ⟨v,cellK x c e v z⟩
 ·obtain ⟨m,⟨o,_,_,ho,_⟩,_⟩:=I.loc
  exact free _ o (fun z => (hch _ z).2.1 rfl) ho I.free
 ·obtain ⟨v,o,ho,hd⟩:=I.cell x c e
  exact free c o (fun z => (hch c z).2.2.1 x c e rfl) ho (I.freeC x c e)
 ·obtain ⟨e,n,ne,nf,d⟩:=I.pin p hp
  have nch:p.1 ∉ ch:=fun z => (hch p.1 z).2.2.2 p hp rfl
  exact ⟨keep p.1 p.2 ne nf nch e n,free p.1 p.2 nch e n,ne,nf,d⟩
theorem Inv.un {t':Nat} (I:Inv X pins σ H s) (u:Un X.fs [] H H' s.heap h') (hok:mL X.prog X.w H' h'):Inv X pins σ H' { s with heap:=h',toks:=t' }:= by
 obtain ⟨m,⟨o,es,ep,ho,r⟩,_⟩:=id I.loc
 obtain ⟨sl,hL⟩:=u.any ho I.free (by simp)
 exact I.step (g':=s.gens) (d':=s.drawn) (ch:=[]) (fun _ z => nomatch z) (fun b o _ hb _ e n => u.keep b o e n hb (by simp)) (fun b o _ hb _ e n => u.slot b o e n hb (by simp)) (fun b o _ e n => u.free b o e n (by simp)) (fun b o _ e => u.there b o e (by simp)) u.tups u.frzs u.tbls (fun m' hm => by
  obtain ⟨o',es',ep',ho',r'⟩:=hm
  rw [ho] at ho'; cases ho'
  exact ⟨_,es',ep',hL,r'⟩) hok I.bare
theorem Inv.call {g':Array GenState} {t':Nat} {d':Drawn} {ch:List Addr} (I:Inv X pins σ H s) (u:Un (wQ X.stack) ch H H' s.heap h') (hok:mL X.prog X.w H' h') (hg:AllBare g')
  (hch:∀ b ∈ ch,(b ∈ X.ex ∨ X.s₀.heap.objs.size ≤ b) ∧ b ≠ X.env.locals ∧ (∀ x c,X.env.cells.lookup x = some c -> c ≠ b) ∧ ∀ p ∈ X.pn ++ pins,p.1 ≠ b) :
  Inv X pins σ H' { s with heap:=h',gens:=g',drawn:=d',toks:=t' }:= by
 obtain ⟨m,⟨o,es,ep,ho,r⟩,_⟩:=id I.loc
 obtain ⟨sl,hL⟩:=u.any ho I.free fun z => (hch _ z).2.1 rfl
 exact I.step (ch:=ch) hch (fun b o hL hb hc e n => u.keep b o e n (fun z => (List.mem_cons.mp (I.stkSub b z)).elim hL hb) hc) (fun b o _ _ hc e n => u.any e n hc) (fun b o hc e n => u.free b o e n hc) (fun b o hc e => u.there b o e hc) u.tups u.frzs u.tbls (fun m' hm => by
  obtain ⟨o',es',ep',ho',r'⟩:=hm
  rw [ho] at ho'; cases ho'
  exact ⟨_,es',ep',hL,r'⟩) hok hg
theorem Inv.turned {t':Nat} {it:Addr} (I:Inv X pins σ H s) (k:∀ b o,b ≠ it -> s.heap.get? b = some o -> h'.get? b = some o) (hn:H it = none) (hL:it ≠ X.env.locals)
  (h1:it ∈ X.ex ∨ X.s₀.heap.objs.size ≤ it) (h2:∀ x c,X.env.cells.lookup x = some c -> c ≠ it) (h3:∀ p ∈ X.pn ++ pins,p.1 ≠ it):Inv X pins σ H { s with heap:=h',toks:=t' }:= by
 have nit:∀ b u,H b = some u -> b ≠ it:=fun b u e z => by rw [z,hn] at e; cases e
 refine I.step (g':=s.gens) (d':=s.drawn) (ch:=[it]) (fun b hb => ?_) (fun b o _ _ hc e _ => k b o (fun z => hc (by simp [z])) e) (fun b o _ _ hc e _ => ⟨o.slots,k b o (fun z => hc (by simp [z])) e⟩) (fun _ _ _ _ n => n)
  (fun b o hc e => ⟨o,k b o (fun z => hc (by simp [z])) e⟩) (fun _ _ e => e) (fun _ _ _ e => e) (fun b ps e => ⟨#[],by rw [e]; simp⟩) (fun m hm => ?_) (fun b u e => ?_) I.bare
 ·have e:b = it:=by simpa using hb
  subst e
  exact ⟨h1,hL,h2,h3⟩
 ·obtain ⟨o,es,ep,ho,r⟩:=hm
  exact ⟨o,es,ep,k _ o (Ne.symm hL) ho,r⟩
 ·refine (I.hok b u e).stay (fun c v hc q => k c v ?_ q) (fun _ q => q) fun _ _ q => q
  rcases hc with z | z
  ·rw [z]; exact nit b u e
  ·exact nit c _ z
theorem Inv.tok (I:Inv X pins σ H s) (t:Nat):Inv X pins σ H { s with toks:=t }:=I.un (h':=s.heap) (t':=t) Un.refl I.hok
theorem Inv.kept {t':Nat} (I:Inv X pins σ H s) (k:∀ b u,s.heap.get? b = some u -> h'.get? b = some u):Inv X pins σ H { s with heap:=h',toks:=t' }:=I.un (Un.kept k) (I.hok.kept k)
theorem Inv.laid {a:Addr} {o:HO} {t':Nat} (I:Inv X pins σ H s) (k:∀ b u,s.heap.get? b = some u -> h'.get? b = some u) (hp:s.heap.objs.size ≤ a) (new:eD X.prog X.w (upd H a o) h' a o) :
  Inv X pins σ (upd H a o) { s with heap:=h',toks:=t' }:=I.un (Un.laid k hp (I.hok.fresh hp)) (I.hok.laid k hp new)
theorem Inv.write {x e:Addr} {o:HO} {t':Nat} (I:Inv X pins σ H s) (mu:IE (H x)) (he:e = x ∨ H e = some (.own x)) (k:∀ b u,b ≠ e -> s.heap.get? b = some u -> h'.get? b = some u) (heo:∃ u,h'.get? e = some u)
  (new:eD X.prog X.w (upd H x o) h' x o):Inv X pins σ (upd H x o) { s with heap:=h',toks:=t' }:=I.un (Un.write mu he k heo) (I.hok.write mu he k heo new)
theorem Inv.weak {σ':List (Option V)} (I:Inv X pins σ H s) (hl:σ'.length = σ.length) (w:∀ (i:Nat) v,σ'[i]? = some (some v) -> σ[i]? = some (some v)):Inv X pins σ' H s :=
 ⟨I.ok,I.os,I.bare,I.base,let ⟨m,hn,hl'⟩:=I.loc; ⟨m,hn,fun i x v e1 e2 e3 => hl' i x v e1 (w i v e2) e3⟩,I.cell,I.free,I.freeC,I.pin,I.hok,hl.trans I.len⟩
theorem Inv.pins_of {pins':List (Addr × Obj)} (I:Inv X pins σ H s) (h:∀ p ∈ pins',s.heap.get? p.1 = some p.2 ∧ H p.1 = none ∧ p.1 ≠ X.env.locals ∧ p.1 ∉ X.fs ∧ ∀ v,p.2.data ≠ .cell v):Inv X pins' σ H s :=
 ⟨I.ok,I.os,I.bare,I.base,I.loc,I.cell,I.free,I.freeC,fun p hp => (List.mem_append.mp hp).elim (fun z => I.pin p (List.mem_append_left _ z)) (h p),I.hok,I.len⟩
theorem rV {N:List Str} (hN:N.Nodup) {i j:Nat} {x:Str} (a:N[i]? = some x) (b:N[j]? = some x):i = j:= by
 obtain ⟨h1,e1⟩:=List.getElem?_eq_some_iff.mp a
 obtain ⟨h2,e2⟩:=List.getElem?_eq_some_iff.mp b
 exact (List.getElem_inj hN).mp (e1.trans e2.symm)
theorem n_ {M:Model} {A:Around} {E:Value -> Shared -> Prop} {i:Nat} {x:Str} {v:V} {u:Value} {Q:Unit -> Shared -> Prop} (I:Inv X pins σ H s) (hN:X.N.Nodup) (hi:X.N[i]? = some x) (hx:Loc X.env.scope x) (r:RelV v u)
  (h:∀ s',Inv X pins (σ.set i (some v)) H s' -> (∃ a,Heap.SameBut a s.heap s'.heap ∧ (a = X.env.locals ∨ X.env.cells.lookup x = some a)) -> Q () s') (hf:X.fn x = true ∨ X.env.scope.names.lookup x = some .local:=by first | exact .inl rfl | exact .inr rfl | assumption):wpAny M A (storeName X.env x u) Q E s:= by
 obtain ⟨m,hn,hl⟩:=id I.loc
 have hcls:(X.env.scope.kind == .class || (X.env.scope.kind == .module && X.env.locals != X.env.globals)) = false:=by rw [I.ok.kind]; rfl
 have hiσ:i < σ.length:=by rw [I.len]; exact (List.getElem?_eq_some_iff.mp hi).1
 have cne:=I.cne
 have tracked:∀ {a:Addr} {h':Heap},(∃ o,s.heap.get? a = some o ∧ H a = none) -> Heap.SameBut a s.heap h' -> mL X.prog X.w H h':=fun {a h'} ha hs b ob e => by
  obtain ⟨_,_,hfree⟩:=ha
  refine (I.hok b ob e).stay (fun c w' hc q => (hs.2 c ?_).trans q) (fun _ q => q) fun _ _ q => q
  rintro rfl
  rcases hc with rfl | hc
  ·rw [hfree] at e; cases e
  ·rw [hfree] at hc; cases hc
 rcases hx with hk | hk
 ·refine wpAny_storeName_local hk hn (fun h' hn' hs => ?_) hcls
  obtain ⟨oL,_,_,hoL,_⟩:=id hn
  refine h _ ⟨I.ok,I.os,I.bare,⟨fun b o e n hb hx => ?_,fun b o e n hb hx => ?_,I.base.free,fun b o e hx => ?_,I.base.tups,I.base.frzs,I.base.tbls⟩,⟨_,hn',fun j y v' e1 e2 e3 => ?_⟩,fun y c e => ?_,I.free,I.freeC,fun p hp => ?_,tracked ⟨oL,hoL,I.free⟩ hs,by simpa using I.len⟩ ⟨_,hs,.inl rfl⟩
  ·exact (hs.2 b (Nat.ne_of_lt (Nat.lt_of_lt_of_le (Heap.lt_size e) I.ok.above))).trans (I.base.keep b o e n hb hx)
  ·obtain ⟨sl,e1⟩:=I.base.slot b o e n hb hx
   exact ⟨sl,(hs.2 b (Nat.ne_of_lt (Nat.lt_of_lt_of_le (Heap.lt_size e) I.ok.above))).trans e1⟩
  ·obtain ⟨o',e1⟩:=I.base.there b o e hx
   exact ⟨o',(hs.2 b (Nat.ne_of_lt (Nat.lt_of_lt_of_le (Heap.lt_size e) I.ok.above))).trans e1⟩
  ·by_cases hj:j = i
   ·subst hj
    rw [hi] at e1; cases e1
    rw [List.getElem?_set_self hiσ] at e2
    cases e2
    exact ⟨u,r,.inl ⟨hk,by simp⟩⟩
   ·rw [List.getElem?_set_ne (Ne.symm hj)] at e2
    obtain ⟨u',r',q⟩:=hl j y v' e1 e2 e3
    refine ⟨u',r',?_⟩
    rcases q with ⟨k,e⟩ | ⟨k,c,e,z⟩
    ·refine .inl ⟨k,?_⟩
     have:y ≠ x:=fun e => hj (rV hN e1 (e ▸ hi))
     simp [this,e]
    ·exact .inr ⟨k,c,e,z.sameBut hs (cne y c e)⟩
  ·obtain ⟨w',z⟩:=I.cell y c e
   exact ⟨w',z.sameBut hs (cne y c e)⟩
  ·obtain ⟨e,n,ne,nf,d⟩:=I.pin p hp
   exact ⟨(hs.2 p.1 ne).trans e,n,ne,nf,d⟩
 ·have hfn:X.fn x = true:= by
   rcases hf with z | z
   ·exact z
   ·rw [z] at hk; cases hk
  obtain ⟨c,hc⟩:=I.ok.has x (.inl hk)
  obtain ⟨w',z⟩:=I.cell x c hc
  refine wpAny_storeName_cell I.ok.kind hk hc z (fun h' hc' hs => ?_)
  obtain ⟨oc,hoc,hocd⟩:=id z
  refine h { s with heap:=h' } ⟨I.ok,I.os,I.bare,⟨fun b o e n hb hx => ?_,fun b o e n hb hx => ?_,I.base.free,fun b o e hx => ?_,I.base.tups,I.base.frzs,I.base.tbls⟩,⟨m,hn.sameBut hs (Ne.symm (cne x c hc)),fun j y v' e1 e2 e3 => ?_⟩,fun y c' e => ?_,I.free,I.freeC,fun p hp => ?_,tracked ⟨oc,hoc,I.freeC x c hc⟩ hs,by simpa using I.len⟩ ⟨c,hs,.inr hc⟩
  ·exact (hs.2 b (Nat.ne_of_lt (Nat.lt_of_lt_of_le (Heap.lt_size e) (I.ok.cab x c hfn hc)))).trans (I.base.keep b o e n hb hx)
  ·obtain ⟨sl,e1⟩:=I.base.slot b o e n hb hx
   exact ⟨sl,(hs.2 b (Nat.ne_of_lt (Nat.lt_of_lt_of_le (Heap.lt_size e) (I.ok.cab x c hfn hc)))).trans e1⟩
  ·obtain ⟨o',e1⟩:=I.base.there b o e hx
   exact ⟨o',(hs.2 b (Nat.ne_of_lt (Nat.lt_of_lt_of_le (Heap.lt_size e) (I.ok.cab x c hfn hc)))).trans e1⟩
  ·by_cases hj:j = i
   ·subst hj
    rw [hi] at e1; cases e1
    rw [List.getElem?_set_self hiσ] at e2
    cases e2
    exact ⟨u,r,.inr ⟨.inl hk,c,hc,hc'⟩⟩
   ·rw [List.getElem?_set_ne (Ne.symm hj)] at e2
    obtain ⟨u',r',q⟩:=hl j y v' e1 e2 e3
    refine ⟨u',r',?_⟩
    rcases q with q | ⟨k,c',e,z'⟩
    ·exact .inl q
    ·refine .inr ⟨k,c',e,z'.sameBut hs ?_⟩
     rintro rfl
     exact hj (rV hN e1 (I.ok.inj _ _ _ e hc ▸ hi))
  ·by_cases hcc:c' = c
   ·subst hcc; exact ⟨_,hc'⟩
   ·obtain ⟨w2,z2⟩:=I.cell y c' e
    exact ⟨w2,z2.sameBut hs hcc⟩
  ·obtain ⟨e,n,ne,nf,d⟩:=I.pin p hp
   refine ⟨(hs.2 p.1 ?_).trans e,n,ne,nf,d⟩
   intro q
   rw [q,hoc] at e
   have q':oc = p.2:=Option.some.inj e
   exact d w' (by rw [<- q']; exact hocd)
theorem qV {M:Model} {A:Around} {E:Value -> Shared -> Prop} {i:Nat} {x:Str} {v:V} {u:Value} {Q:Unit -> Shared -> Prop} (I:Inv X pins σ H s) (hN:X.N.Nodup) (hi:X.N[i]? = some x) (hx:Loc X.env.scope x) (r:RelV v u)
  (h:∀ s',Inv X pins (σ.set i (some v)) H s' -> Q () s') (hf:X.fn x = true ∨ X.env.scope.names.lookup x = some .local:=by first | exact .inl rfl | exact .inr rfl | assumption):wpAny M A (storeName X.env x u) Q E s :=
 n_ I hN hi hx r (fun s' I' _ => h s' I') hf
theorem Inv.call' {s':Shared} {ch:List Addr} (I:Inv X pins σ H s) (ho:s'.os = s.os) (u:Un (wQ X.stack) ch H H' s.heap s'.heap) (hok:mL X.prog X.w H' s'.heap) (hg:AllBare s'.gens)
  (hch:∀ b ∈ ch,(b ∈ X.ex ∨ X.s₀.heap.objs.size ≤ b) ∧ b ≠ X.env.locals ∧ (∀ x c,X.env.cells.lookup x = some c -> c ≠ b) ∧ ∀ p ∈ X.pn ++ pins,p.1 ≠ b):Inv X pins σ H' s':= by
 obtain ⟨h',g',d',t',o'⟩:=s'
 have e:o' = s.os:=ho
 subst e
 exact I.call (g':=g') (t':=t') (d':=d') u hok hg hch
end
abbrev XK:=Value -> Option Addr -> Hp -> Prop
abbrev St:=List (Option V)
abbrev VK:=V -> Hp -> Prop
abbrev TE:=St -> Hp -> VK -> Prop
abbrev TT:=St -> Hp -> (Bool -> Hp -> Prop) -> Prop
abbrev TA:=St -> Hp -> (List V -> Hp -> Prop) -> Prop
structure Ends where
 nx:St -> Hp -> Prop
 rt:VK
 bk:St -> Hp -> Prop:=fun _ _ => False
 ct:St -> Hp -> Prop:=fun _ _ => False
abbrev TS:=Ends -> St -> Hp -> Prop
def EP (X:Cx) (pins:List (Addr × Obj)) (σ:St) (Q:VK) (u:Value) (s':Shared):Prop:=∃ v H',Inv X pins σ H' s' ∧ RelV v u ∧ Q v H'
def TP (X:Cx) (pins:List (Addr × Obj)) (σ:St) (Q:Bool -> Hp -> Prop) (b:Bool) (s':Shared):Prop:=∃ H',Inv X pins σ H' s' ∧ Q b H'
def AP (X:Cx) (pins:List (Addr × Obj)) (σ:St) (Q:List V -> Hp -> Prop) (us:List Value) (s':Shared):Prop:=∃ vs H',Inv X pins σ H' s' ∧ Vals vs us ∧ Q vs H'
def SP (X:Cx) (pins:List (Addr × Obj)) (D:Ends) (f:Flow) (s':Shared):Prop :=
 match f with
 | .next => ∃ σ' H',Inv X pins σ' H' s' ∧ D.nx σ' H'
 | .brk => ∃ σ' H',Inv X pins σ' H' s' ∧ D.bk σ' H'
 | .cont => ∃ σ' H',Inv X pins σ' H' s' ∧ D.ct σ' H'
 | .ret u => ∃ v σ' H',Inv X pins σ' H' s' ∧ RelV v u ∧ D.rt v H'
def PE (X:Cx) (e:Expr) (t:TE):Prop :=
 ∀ (pins:List (Addr × Obj)) (s:Shared) (σ:St) (H:Hp) (Q:VK),Inv X pins σ H s -> t σ H Q -> wpAny (model X.prog X.w) X.A (eval e X.env) (EP X pins σ Q) X.xe s
def PT (X:Cx) (e:Expr) (t:TT):Prop :=
 ∀ (pins:List (Addr × Obj)) (s:Shared) (σ:St) (H:Hp) (Q:Bool -> Hp -> Prop),Inv X pins σ H s -> t σ H Q -> wpAny (model X.prog X.w) X.A (isTrue e X.env (eval e X.env)) (TP X pins σ Q) X.xe s
def PW (X:Cx) (e:Expr) (t:TT):Prop :=
 ∀ (whole:Sem Value) (pins:List (Addr × Obj)) (s:Shared) (σ:St) (H:Hp) (Q:Bool -> Hp -> Prop),Inv X pins σ H s -> t σ H Q -> wpAny (model X.prog X.w) X.A (isTrue e X.env whole) (TP X pins σ Q) X.xe s
theorem PW.pt {X:Cx} {e:Expr} {t:TT} (h:PW X e t):PT X e t:=h _
def PA (X:Cx) (es:List Expr) (t:TA):Prop :=
 ∀ (pos:Pos) (pins:List (Addr × Obj)) (s:Shared) (σ:St) (H:Hp) (Q:List V -> Hp -> Prop),Inv X pins σ H s -> t σ H Q -> wpAny (model X.prog X.w) X.A (spliced (backTo pos (starEach es X.env))) (AP X pins σ Q) X.xe s
def PS (X:Cx) (st:Stmt) (t:TS):Prop :=
 ∀ (pins:List (Addr × Obj)) (s:Shared) (σ:St) (H:Hp) (D:Ends),Inv X pins σ H s -> t D σ H -> wpAny (model X.prog X.w) X.A (exec st X.env) (SP X pins D) X.xe s
def sA (X:Cx) (st:List Stmt) (t:TS):Prop :=
 ∀ (pins:List (Addr × Obj)) (s:Shared) (σ:St) (H:Hp) (D:Ends),Inv X pins σ H s -> t D σ H -> wpAny (model X.prog X.w) X.A (execs st X.env) (SP X pins D) X.xe s
theorem cW {α:Type} {t:Sem α} {Q Q':α -> Shared -> Prop} {M:Model} {A:Around} {E:Value -> Shared -> Prop} {s:Shared} (h:wpAny M A t Q E s) (hQ:∀ a s,Q a s -> Q' a s):wpAny M A t Q' E s:=wpAny_mono h hQ fun _ _ x => x
end L2
namespace L2
open PySem PySem.Spec PyProof.Rows
section
variable {X:Cx}
theorem bin {a b:Expr} {ta tb:TE} (ha:PE X a ta) (hb:PE X b tb) {pins:List (Addr × Obj)} {s:Shared} {σ:St} {H:Hp} {R:V -> V -> Hp -> Prop} (I:Inv X pins σ H s) (h:ta σ H fun x H1 => tb σ H1 fun y H2 => R x y H2)
  {α:Type} {Q:α -> Shared -> Prop} {f:Value -> Value -> Sem α}
  (hf:∀ v u s2 x y H2,Inv X pins σ H2 s2 -> RelV x v -> RelV y u -> R x y H2 -> wpAny (model X.prog X.w) X.A (f v u) Q X.xe s2) :
  wpAny (model X.prog X.w) X.A (eval a X.env) (fun v s₁ => wpAny (model X.prog X.w) X.A (eval b X.env) (fun u s₂ => wpAny (model X.prog X.w) X.A (f v u) Q X.xe s₂) X.xe s₁) X.xe s:= by
 refine cW (ha pins s σ H _ I h) fun v s1 ⟨x,H1,I1,r1,q1⟩ => ?_
 refine cW (hb pins s1 σ H1 _ I1 q1) fun u s2 ⟨y,H2,I2,r2,q2⟩ => ?_
 exact hf v u s2 x y H2 I2 r1 r2 q2
def Jm (i:Nat):TE:=fun σ H Q => ∃ v,σ[i]? = some (some v) ∧ Q v H
def tC (v:V):TE:=fun _ H Q => Q v H
theorem eU {i:Nat} {x:Str} {pos:Pos} (hN:X.N[i]? = some x) (hv:vd X.env.scope x) (hd:(x == ("__debug__":Str)) = false:=by decide) (hcd:(x == ("__classdict__":Str)) = false:=by decide):PE X (.Name x pos) (Jm i):= by
 intro pins s σ H Q I h
 obtain ⟨v,e,h⟩:=h
 obtain ⟨m,hn,hl⟩:=I.loc
 obtain ⟨u,r,l⟩:=hl i x v hN e hv
 have fin:EP X pins σ Q u s:=⟨v,H,I,r,h⟩
 rcases l with ⟨hk,hm⟩ | ⟨hk,c,hc,hcell⟩
 ·exact wpAny_Name (wpAny_loadName_local I.ok.kind hk hn hm fin) hd
 ·rcases hk with hk | hk
  ·exact wpAny_Name (wpAny_loadName_cell I.ok.kind hk hc hcell fin) hd
  ·exact wpAny_Name (wpAny_loadName_free I.ok.kind hk hc hcell fin hcd) hd
theorem tS {i j pos}:PE X (.Constant (.int i) j pos) (tC (.int i)):=fun _ _ _ H _ I h => wpAny_Constant_int ⟨.int i,H,I.tok _,⟨_,rfl⟩,h⟩
theorem GJ {b j pos}:PE X (.Constant (.bool b) j pos) (tC (.bl b)):=fun _ _ _ H _ I h => Constant_bool ⟨.bl b,H,I,rfl,h⟩
theorem D4 {j pos}:PE X (.Constant .none j pos) (tC .non):=fun _ _ _ H _ I h => Constant_none ⟨.non,H,I,rfl,h⟩
theorem E3 {x j pos}:PE X (.Constant (.str x) j pos) (tC (.str x)):=fun _ _ _ H _ I h => Calls.Constant_str ⟨.str x,H,I.tok _,⟨_,rfl⟩,h⟩
def Gl (X:Cx) (x:Str):Prop:=X.env.kindOf x = some .globalImplicit
theorem uw {E:Value -> Shared -> Prop} {pins:List (Addr × Obj)} {s:Shared} {σ:St} {H:Hp} {x:Str} {u:Value} {pos:Pos} {Q:Value -> Shared -> Prop} (I:Inv X pins σ H s) (hg:Gl X x) (hm:X.mg x = some u) (h:Q u s)
  (hd:(x == ("__debug__":Str)) = false:=by decide):wpAny (model X.prog X.w) X.A (eval (.Name x pos) X.env) Q E s :=
 Calls.Name_function_global I.ok.kind hg (Calls.loadGlobal_global (by rw [I.ok.glob]; exact I.mod.glob.keeps I.bk) hm h) hd
theorem fO {E:Value -> Shared -> Prop} {pins:List (Addr × Obj)} {s:Shared} {σ:St} {H:Hp} {x:Str} {u:Value} {pos:Pos} {Q:Value -> Shared -> Prop} (I:Inv X pins σ H s) (hg:Gl X x) (hm:X.mg x = none) (hv:bootBuiltins x = some u) (h:Q u s)
  (hn:x ≠ "__name__":=by decide) (hd:(x == ("__debug__":Str)) = false:=by decide):wpAny (model X.prog X.w) X.A (eval (.Name x pos) X.env) Q E s:= by
 obtain ⟨mb,h1,h2⟩:=I.mod.blt
 exact Calls.Name_function_global I.ok.kind hg (Calls.loadGlobal_builtin (by rw [I.ok.glob]; exact I.mod.glob.keeps I.bk) hm (by rw [I.ok.blt]; exact h1.keeps I.bk) ((h2 x hn).trans hv) h) hd
theorem BK {x:Str} {v:V} {u:Value} {pos:Pos} (hg:Gl X x) (hm:X.mg x = some u) (r:RelV v u) (hd:(x == ("__debug__":Str)) = false:=by decide):PE X (.Name x pos) (tC v) :=
 fun _ _ _ H _ I h => uw I hg hm ⟨v,H,I,r,h⟩ hd
theorem B3 {x:Str} {v:V} {u:Value} {pos:Pos} (hg:Gl X x) (hm:X.mg x = none) (hv:bootBuiltins x = some u) (r:RelV v u) (hn:x ≠ "__name__":=by decide) (hd:(x == ("__debug__":Str)) = false:=by decide):PE X (.Name x pos) (tC v) :=
 fun _ _ _ H _ I h => fO I hg hm hv ⟨v,H,I,r,h⟩ hn hd
variable {a b:Expr} {ta tb:TE} {pos:Pos}
variable {tA tB':TT} {rest:List Expr}
def JG (t u:TT):TT:=fun σ H Q => t σ H fun c H1 => if c = true then u σ H1 Q else Q false H1
def J5 (t u:TT):TT:=fun σ H Q => t σ H fun c H1 => if c = true then Q true H1 else u σ H1 Q
def Jh (t:TT):TT:=fun σ H Q => t σ H fun c H1 => Q (!c) H1
theorem CZ (ha:PT X a tA):PW X (.BoolOp .And [a] pos) tA:= by
 intro wh pins s σ H Q I h
 refine isTrue_and (cW (ha pins s σ H Q I h) fun c s1 e => ?_)
 cases c with
 | true => exact isTrue_and_nil e
 | false => exact e
theorem F6 (ha:PT X a tA):PW X (.BoolOp .Or [a] pos) tA:= by
 intro wh pins s σ H Q I h
 refine isTrue_or (cW (ha pins s σ H Q I h) fun c s1 e => ?_)
 cases c with
 | false => exact isTrue_or_nil e
 | true => exact e
theorem Gk (ha:PT X a tA) (hb:PW X (.BoolOp .And (b :: rest) pos) tB'):PW X (.BoolOp .And (a :: b :: rest) pos) (JG tA tB'):= by
 intro wh pins s σ H Q I h
 refine isTrue_and (cW (ha pins s σ H _ I h) fun c s1 ⟨H1,I1,q1⟩ => ?_)
 cases c with
 | true => exact hb wh pins s1 σ H1 Q I1 q1
 | false => exact ⟨H1,I1,q1⟩
theorem H_ (ha:PT X a tA) (hb:PW X (.BoolOp .Or (b :: rest) pos) tB'):PW X (.BoolOp .Or (a :: b :: rest) pos) (J5 tA tB'):= by
 intro wh pins s σ H Q I h
 refine isTrue_or (cW (ha pins s σ H _ I h) fun c s1 ⟨H1,I1,q1⟩ => ?_)
 cases c with
 | true => exact ⟨H1,I1,q1⟩
 | false => exact hb wh pins s1 σ H1 Q I1 q1
theorem D3 (ha:PT X a tA):PT X (.UnaryOp .Not a pos) (Jh tA):= by
 intro pins s σ H Q I h
 exact isTrue_not (ha pins s σ H (fun c H1 => Q (!c) H1) I h)
def Hj (ta tb:TE):TE:=fun σ H Q => ta σ H fun x H1 => ∃ c,x = .bl c ∧ if c = true then tb σ H1 Q else Q (.bl false) H1
def G9 (ta:TE):TE:=fun σ H Q => ta σ H fun x H1 => ∃ c,x = .bl c ∧ Q (.bl (!c)) H1
theorem ER {op} {t:TE} (h:PE X a t):PE X (.BoolOp op [a] pos) t:=fun pins s σ H Q I hw => BoolOp_one (h pins s σ H Q I hw)
theorem EA (ha:PE X a ta) (hb:PE X (.BoolOp .And (b :: rest) pos) tb):PE X (.BoolOp .And (a :: b :: rest) pos) (Hj ta tb):= by
 intro pins s σ H Q I h
 refine BoolOp_and (cW (ha pins s σ H _ I h) fun v s1 ⟨x,H1,I1,r1,q1⟩ => ?_)
 obtain ⟨c,rfl,q1⟩:=q1
 cases r1
 refine wpAny_truthy_bool ?_
 cases c with
 | true => exact hb pins s1 σ H1 Q I1 q1
 | false => exact ⟨.bl false,H1,I1,rfl,q1⟩
theorem Gh (ha:PE X a ta):PE X (.UnaryOp .Not a pos) (G9 ta):= by
 intro pins s σ H Q I h
 refine UnaryOp_ (cW (ha pins s σ H _ I h) fun v s1 ⟨x,H1,I1,r1,q1⟩ => ?_)
 obtain ⟨c,rfl,q1⟩:=q1
 cases r1
 exact not_of (wpAny_truthy_bool ⟨.bl (!c),H1,I1,rfl,q1⟩)
end
end L2
namespace L2
open PySem PySem.Spec PyProof.Rows
def iY (K:PySem.W.Frag) (H:Hp) (a:Addr) (xs:List V):Prop :=
 Rd H a (.lst xs) ∨
  ∃ (o:Obj) (its:Array Value) (n:Nat),K.lookup a = some o ∧ o.cls = .type "list" ∧ o.dict = none ∧ o.data = .seq its n ∧ its.size ≤ sizeLine ∧ Vals xs its.toList
def i4 (K:PySem.W.Frag) (H:Hp) (a:Addr) (xs:List V):Prop :=
 Rd H a (.tup xs) ∨
  ∃ (o:Obj) (its:Array Value) (n:Nat),K.lookup a = some o ∧ o.cls = .type "tuple" ∧ o.data = .seq its n ∧ its.size ≤ sizeLine ∧ Vals xs its.toList
def Ja:Value -> Option V
 | .none => some .non
 | .bool b => some (.bl b)
 | .int i _ => some (.int i)
 | .str x _ => some (.str x)
 | .bytes b _ => some (.byt b)
 | .float b _ => some (.flt b)
 | .ref a => some (.ref a)
 | .type n => some (.ty n)
 | _ => none
theorem RelV.abs {x:V} {u:Value} (r:RelV x u):Ja u = some x:= by
 cases x with
 | non => cases r; rfl
 | bl _ => cases r; rfl
 | int _ => obtain ⟨t,rfl⟩:=r; rfl
 | str _ => obtain ⟨t,rfl⟩:=r; rfl
 | byt _ => obtain ⟨t,rfl⟩:=r; rfl
 | flt _ => obtain ⟨t,rfl⟩:=r; rfl
 | ref _ => cases r; rfl
 | ty _ => cases r; rfl
theorem RelV.inj {x y:V} {u:Value} (r:RelV x u) (q:RelV y u):x = y:=Option.some.inj (r.abs.symm.trans q.abs)
theorem Vals.inj:∀ {xs ys:List V} {us:List Value},Vals xs us -> Vals ys us -> xs = ys
 | _,_,_,.nil,.nil => rfl
 | _,_,_,.cons r t,.cons r' t' => by rw [r.inj r',Vals.inj t t']
section
variable {X:Cx} {pins:List (Addr × Obj)} {σ:St} {H:Hp} {s:Shared} {a:Addr} {xs ys:List V}
theorem iY.of {K:PySem.W.Frag} (h:H a = some (.lst xs)):iY K H a xs:=.inl (.inl h)
theorem i4.of {K:PySem.W.Frag} (h:H a = some (.tup xs)):i4 K H a xs:=.inl (.inl h)
theorem Inv.list (I:Inv X pins σ H s) (h:iY X.K H a xs):∃ its:List Value,Vals xs its ∧ PlainL s.heap a its.toArray ∧ xs.length ≤ sizeLine:= by
 rcases h with h | ⟨o,its,n,hk,hc,hd,hs,hz,r⟩
 ·obtain ⟨z,its,n,r,e⟩:=h.ok I.hok
  exact ⟨its,r,⟨_,n,e,rfl,rfl,rfl⟩,z⟩
 ·refine ⟨its.toList,r,⟨o,n,I.kIn a o hk,hc,hd,by simpa using hs⟩,?_⟩
  have e:=r.length
  simp only [Array.length_toList] at e
  omega
theorem Inv.tuple (I:Inv X pins σ H s) (h:i4 X.K H a xs):∃ its:List Value,Vals xs its ∧ IsTup s.heap a its.toArray ∧ xs.length ≤ sizeLine:= by
 rcases h with h | ⟨o,its,n,hk,hc,hs,hz,r⟩
 ·obtain ⟨z,its,r,p⟩:=h.ok I.hok
  exact ⟨its,r,p,z⟩
 ·refine ⟨its.toList,r,⟨o,I.kIn a o hk,hc,n,by simpa using hs⟩,?_⟩
  have e:=r.length
  simp only [Array.length_toList] at e
  omega
theorem Inv.list_inj (I:Inv X pins σ H s) (h:iY X.K H a xs) (h':iY X.K H a ys):xs = ys:= by
 obtain ⟨its,r,⟨o,n,e,_,_,d⟩,_⟩:=I.list h
 obtain ⟨its',r',⟨o',n',e',_,_,d'⟩,_⟩:=I.list h'
 rw [e] at e'; cases e'
 rw [d] at d'
 injection d' with d1 _
 have:its = its':=by simpa using congrArg Array.toList d1
 subst this
 exact r.inj r'
theorem Inv.tuple_inj (I:Inv X pins σ H s) (h:i4 X.K H a xs) (h':i4 X.K H a ys):xs = ys:= by
 obtain ⟨its,r,⟨o,e,_,n,d⟩,_⟩:=I.tuple h
 obtain ⟨its',r',⟨o',e',_,n',d'⟩,_⟩:=I.tuple h'
 rw [e] at e'; cases e'
 rw [d] at d'
 injection d' with d1 _
 have:its = its':=by simpa using congrArg Array.toList d1
 subst this
 exact r.inj r'
end
abbrev Cx.wish (X:Cx) (E:Value -> Shared -> Prop):Cx:={ X with xe:=E }
abbrev Cx.nox (X:Cx):Cx:=X.wish fun _ _ => False
theorem Cx.Ok.wish {X:Cx} (ok:X.Ok) (E:Value -> Shared -> Prop):(X.wish E).Ok :=
 ⟨ok.mod,ok.kind,ok.glob,ok.blt,ok.above,ok.inj,ok.has,ok.cab,ok.hd,ok.frames,ok.stk,ok.exf,ok.bs,ok.bsz,ok.noex,ok.exfs,ok.funs,ok.frf⟩
theorem Cx.Ok.unwish {X:Cx} {E:Value -> Shared -> Prop} (ok:(X.wish E).Ok):X.Ok :=
 ⟨ok.mod,ok.kind,ok.glob,ok.blt,ok.above,ok.inj,ok.has,ok.cab,ok.hd,ok.frames,ok.stk,ok.exf,ok.bs,ok.bsz,ok.noex,ok.exfs,ok.funs,ok.frf⟩
section
variable {X:Cx} {pins:List (Addr × Obj)} {σ:St} {H:Hp} {s:Shared} {E:Value -> Shared -> Prop}
theorem Inv.wish (I:Inv X pins σ H s) (E:Value -> Shared -> Prop):Inv (X.wish E) pins σ H s:=⟨I.ok.wish E,I.os,I.bare,I.base,I.loc,I.cell,I.free,I.freeC,I.pin,I.hok,I.len⟩
theorem Inv.unwish (I:Inv (X.wish E) pins σ H s):Inv X pins σ H s:=⟨I.ok.unwish,I.os,I.bare,I.base,I.loc,I.cell,I.free,I.freeC,I.pin,I.hok,I.len⟩
theorem SP.unwish {D:Ends} {f:Flow} {s':Shared} (h:SP (X.wish E) pins D f s'):SP X pins D f s':= by
 cases f with
 | next => obtain ⟨σ',H',I,q⟩:=h; exact ⟨σ',H',I.unwish,q⟩
 | brk => obtain ⟨σ',H',I,q⟩:=h; exact ⟨σ',H',I.unwish,q⟩
 | cont => obtain ⟨σ',H',I,q⟩:=h; exact ⟨σ',H',I.unwish,q⟩
 | ret u => obtain ⟨v,σ',H',I,r,q⟩:=h; exact ⟨v,σ',H',I.unwish,r,q⟩
theorem sA.nox {st:List Stmt} {t:TS} (h:sA X.nox st t):sA X st t:=fun pins s σ H D I hw =>
 wpAny_mono (h pins s σ H D (I.wish _) hw) (fun _ _ q => q.unwish) fun _ _ z => False.elim z
end
section
variable {X:Cx} {st:Stmt} {rest:List Stmt} {t u:TS} {e:Expr} {te:TE} {pos:Pos}
def GR:TS:=fun D σ H => D.nx σ H
def Jg (t u:TS):TS:=fun D σ H => t { D with nx:=u D } σ H
theorem Bc:sA X [] GR:=fun _ _ σ H _ I h => wpAny_execs_nil ⟨σ,H,I,h⟩
theorem yr (h1:PS X st t) (h2:sA X rest u):sA X (st :: rest) (Jg t u):= by
 intro pins s σ H D I h
 refine wpAny_execs_cons (cW (h1 pins s σ H { D with nx:=u D } I h) fun f s1 q => ?_)
 cases f with
 | next =>
  obtain ⟨σ',H',I',q⟩:=q
  exact h2 pins s1 σ' H' D I' q
 | ret v => exact q
 | brk => exact q
 | cont => exact q
theorem C2 (h1:PS X st t):sA X [st] t:= by
 intro pins s σ H D I h
 refine wpAny_execs_cons (cW (h1 pins s σ H D I h) fun f s1 q => ?_)
 cases f with
 | next => exact wpAny_execs_nil q
 | ret v => exact q
 | brk => exact q
 | cont => exact q
theorem Inv.quiet {pins:List (Addr × Obj)} {σ:St} {H:Hp} {s:Shared} (I:Inv X pins σ H s):interactive X.env = false:=by simp [interactive,I.ok.kind]
def Hs (te:TE):TS:=fun D σ H => te σ H fun _ H1 => D.nx σ H1
theorem uJ (he:PE X e te) (hs:swapsWith e none pos.line X.env = pure false:=by rfl):PS X (.Expr e pos) (Hs te):= by
 intro pins s σ H D I h
 exact wpAny_Expr_any (cW (he pins s σ H _ I h) fun v s1 ⟨x,H1,I1,r1,q1⟩ => ⟨σ,H1,I1,q1⟩) I.quiet hs
def JK (te:TE):TS:=fun D σ H => te σ H D.rt
theorem xR (he:PE X e te):PS X (.Return (some e) pos) (JK te):= by
 intro pins s σ H D I h
 exact wpAny_Return_some (cW (he pins s σ H _ I h) fun v s1 ⟨x,H1,I1,r1,q1⟩ => ⟨x,σ,H1,I1,r1,q1⟩)
def JO (c:TT) (t u:TS):TS:=fun D σ H => c σ H fun b H1 => if b = true then t D σ H1 else u D σ H1
theorem GZ {c:Expr} {a b:List Stmt} {tc:TT} (hc:PT X c tc) (ha:sA X a t) (hb:sA X b u):PS X (.If c a b pos) (JO tc t u):= by
 intro pins s σ H D I h
 refine wpAny_If (cW (hc pins s σ H _ I h) fun d s1 ⟨H1,I1,q1⟩ => ?_)
 cases d with
 | true => exact ha pins s1 σ H1 D I1 q1
 | false => exact hb pins s1 σ H1 D I1 q1
end
abbrev TG:=V -> St -> Hp -> (St -> Hp -> Prop) -> Prop
abbrev Dg:=List V -> St -> Hp -> (St -> Hp -> Prop) -> Prop
def PG (X:Cx) (target:Expr) (t:TG):Prop :=
 ∀ (pins:List (Addr × Obj)) (s:Shared) (σ:St) (H:Hp) (v:V) (u:Value) (Q:St -> Hp -> Prop),Inv X pins σ H s -> RelV v u -> t v σ H Q ->
  wpAny (model X.prog X.w) X.A (assign target X.env u) (fun _ s' => ∃ σ' H',Inv X pins σ' H' s' ∧ Q σ' H') X.xe s
def Eg (X:Cx) (ts:List Expr) (t:Dg):Prop :=
 ∀ (pins:List (Addr × Obj)) (s:Shared) (σ:St) (H:Hp) (vs:List V) (us:List Value) (Q:St -> Hp -> Prop),Inv X pins σ H s -> Vals vs us -> t vs σ H Q ->
  wpAny (model X.prog X.w) X.A (assignInOrder ((assignEach ts X.env).map (·.2)) us) (fun _ s' => ∃ σ' H',Inv X pins σ' H' s' ∧ Q σ' H') X.xe s
abbrev D5:=V -> V -> V -> Hp -> (Hp -> Prop) -> Prop
def GI (X:Cx) (t:D5):Prop :=
 ∀ (pins:List (Addr × Obj)) (s:Shared) (σ:St) (H:Hp) (o i v:V) (ov iv u:Value) (Q:Hp -> Prop),Inv X pins σ H s -> RelV o ov -> RelV i iv -> RelV v u -> t o i v H Q ->
  wpAny (model X.prog X.w) X.A (setItem ov iv u) (fun _ s' => ∃ H',Inv X pins σ H' s' ∧ Q H') X.xe s
section
variable {X:Cx} {pos:Pos}
def qZ (i:Nat):TG:=fun v σ H Q => Q (σ.set i (some v)) H
theorem AW {i:Nat} {x:Str} (hN:X.N.Nodup) (hi:X.N[i]? = some x) (hx:Loc X.env.scope x) (hf:X.fn x = true ∨ X.env.scope.names.lookup x = some .local:=by first | exact .inl rfl | exact .inr rfl | assumption):PG X (.Name x pos) (qZ i):= by
 intro pins s σ H v u Q I r h
 exact wpAny_assign_Name (qV I hN hi hx r (fun s' I' => ⟨_,H,I',h⟩) hf)
def Ji:Dg:=fun vs σ H Q => vs = [] ∧ Q σ H
def GS (t:TG) (u:Dg):Dg:=fun vs σ H Q => ∃ v r,vs = v :: r ∧ t v σ H fun σ' H' => u r σ' H' Q
theorem C0:Eg X [] Ji:= by
 intro pins s σ H vs us Q I r h
 obtain ⟨e,h⟩:=h
 subst e
 cases r
 exact assignInOrder_nil ⟨σ,H,I,h⟩
theorem Ar {e:Expr} {es:List Expr} {t:TG} {u:Dg} (h1:PG X e t) (h2:Eg X es u)
  (hs:(assignEach (e :: es) X.env).map (·.2) = assign e X.env :: (assignEach es X.env).map (·.2):=by rfl):Eg X (e :: es) (GS t u):= by
 intro pins s σ H vs us Q I r h
 obtain ⟨v,vr,e1,h⟩:=h
 subst e1
 cases r with
 | cons r rr =>
  rw [hs]
  refine assignInOrder_cons (cW (h1 pins s σ H _ _ _ I r h) fun _ s1 ⟨σ1,H1,I1,q1⟩ => ?_)
  exact h2 pins s1 σ1 H1 _ _ Q I1 rr q1
def JC (K:PySem.W.Frag) (n:Nat) (t:Dg):TG:=fun v σ H Q => ∃ a xs,v = .ref a ∧ i4 K H a xs ∧ xs.length = n ∧ t xs σ H Q
theorem EB {es:List Expr} {k:Nat} {t:Dg} {n:Nat} (hc:X.calm = true) (h:Eg X es t)
  (hn:(assignEach es X.env).length = n:=by rfl) (hst:(assignEach es X.env).findIdx? (·.1) = none:=by rfl):PG X (.Tuple es k pos) (JC X.K n t):= by
 intro pins s σ H v u Q I r hw
 obtain ⟨a,xs,e1,hq,hl,hw⟩:=hw
 subst e1
 cases r
 obtain ⟨its,rv,ht,hz⟩:=I.tuple hq
 refine assign_Tuple_tuple (I.ok.hd hc) ht (by simp [hn,<- hl,rv.length]) hst fun h' hx => ?_
 have I1:Inv X pins σ H { s with heap:=h' }:=I.kept (t':=s.toks) fun b o e => hx b o (Nat.ne_of_lt (Heap.lt_size e)) e
 exact h pins _ σ H xs _ Q I1 (by simpa using rv) hw
def Jl (to ti:TE) (t:D5):TG:=fun v σ H Q => to σ H fun o H1 => ti σ H1 fun i H2 => t o i v H2 fun H3 => Q σ H3
theorem ET {o i:Expr} {to ti:TE} {t:D5} (ho:PE X o to) (hi:PE X i ti) (hs:GI X t)
  (ha:∀ v,assign (.Subscript o i pos) X.env v = (do
   let ov <- holding [v] (eval o X.env)
   let iv <- holding [v,ov] (eval i X.env)
   standAt pos
   holding [v,ov,iv] (setItem ov iv v)
   release [v,ov,iv] []):=by intro _; rfl):PG X (.Subscript o i pos) (Jl to ti t):= by
 intro pins s σ H v u Q I r h
 rw [ha]
 refine wpAny_bind (wpAny_holding (cW (ho pins s σ H _ I h) fun ov s1 ⟨x,H1,I1,r1,q1⟩ => ?_))
 refine wpAny_bind (wpAny_holding (cW (hi pins s1 σ H1 _ I1 q1) fun iv s2 ⟨y,H2,I2,r2,q2⟩ => ?_))
 refine wpAny_bind (wpAny_standAt (wpAny_bind (wpAny_holding (cW (hs pins s2 σ H2 x y v ov iv u _ I2 r1 r2 r q2) fun _ s3 ⟨H3,I3,q3⟩ => ?_))))
 exact wpAny_release ⟨σ,H3,I3,q3⟩
def w_ (te:TE) (g:TG):TS:=fun D σ H => te σ H fun x H1 => g x σ H1 D.nx
theorem yo {tg e:Expr} {te:TE} {g:TG} (he:PE X e te) (hg:PG X tg g) (hs:swapsWithSole [tg] e pos.line X.env = pure false:=by rfl) (hw:swappedStores [tg] e X.env = pure none:=by rfl)
  (h1:(assignEach [tg] X.env).map (·.2) = [assign tg X.env]:=by rfl):PS X (.Assign [tg] e pos) (w_ te g):= by
 intro pins s σ H D I h
 refine wpAny_Assign_stores (cW (he pins s σ H _ I h) fun v s1 ⟨x,H1,I1,r1,q1⟩ => ?_) hs hw
 rw [h1]
 exact cW (hg pins s1 σ H1 x v _ I1 r1 q1) fun _ s2 q => q
theorem xw {i:Nat} {x:Str} {e:Expr} {te:TE} {pos':Pos} (hN:X.N.Nodup) (hi:X.N[i]? = some x) (hx:Loc X.env.scope x) (he:PE X e te) (hs:swapsWith e (some (.Name x pos')) pos.line X.env = pure false:=by rfl) (hf:X.fn x = true ∨ X.env.scope.names.lookup x = some .local:=by first | exact .inl rfl | exact .inr rfl | assumption) :
  PS X (.Assign [.Name x pos'] e pos) (w_ te (qZ i)):= by
 intro pins s σ H D I h
 refine wpAny_Assign_Name (cW (he pins s σ H _ I h) fun v s1 ⟨y,H1,I1,r1,q1⟩ => ?_) hs
 exact qV I1 hN hi hx r1 (fun s2 I2 => ⟨_,H1,I2,q1⟩) hf
end
section
variable {X:Cx} {pos:Pos}
def Eh (c:TT) (tb:TS):TS:=fun D σ H => ∃ W:Nat -> St -> Hp -> Prop,(∃ m,W m σ H) ∧ ∀ m σ H,W m σ H ->
 c σ H fun b H1 => if b = true then ∃ N:St -> Hp -> Prop,(∀ σ' H',N σ' H' -> ∃ m',m' < m ∧ W m' σ' H') ∧ tb { D with nx:=N,ct:=N,bk:=D.nx } σ H1 else D.nx σ H1
theorem w8 {c:Expr} {body:List Stmt} {tc:TT} {tb:TS} (hp:PassesOwn (model X.prog X.w) X.A X.env X.xe) (hc:PT X c tc) (hb:sA X body tb):PS X (.While c body [] pos) (Eh tc tb):= by
 intro pins s σ H D I h
 obtain ⟨W,⟨m0,w0⟩,turn⟩:=h
 refine wpAny_While (codeAny_whileLoop (fun n s' => ∃ σ' H',Inv X pins σ' H' s' ∧ W n σ' H') ?_ m0 ⟨σ,H,I,w0⟩)
 rintro n s1 ⟨σ1,H1,I1,w1⟩
 refine wpAny_passesOwn hp (cW (hc pins s1 σ1 H1 _ I1 (turn n σ1 H1 w1)) fun b s2 ⟨H2,I2,q2⟩ => ?_)
 cases b with
 | true =>
  obtain ⟨N,hN,q2⟩:=q2
  rw [if_pos rfl]
  refine wpAny_passesOwn hp (cW (hb pins s2 σ1 H2 _ I2 q2) fun f s3 q3 => ?_)
  cases f with
  | next =>
   obtain ⟨σ3,H3,I3,n3⟩:=q3
   obtain ⟨m',hm,w3⟩:=hN σ3 H3 n3
   exact ⟨m',hm,σ3,H3,I3,w3⟩
  | cont =>
   obtain ⟨σ3,H3,I3,n3⟩:=q3
   obtain ⟨m',hm,w3⟩:=hN σ3 H3 n3
   exact ⟨m',hm,σ3,H3,I3,w3⟩
  | brk => exact q3
  | ret v => exact q3
 | false =>
  rw [if_neg Bool.false_ne_true]
  exact wpAny_execs_nil ⟨σ1,H2,I2,q2⟩
end
structure It where
 go:Nat -> Hp -> Prop
 yld:Nat -> Hp -> V -> Hp -> Prop
 stop:Nat -> Hp -> Prop
def jt (X:Cx) (pins:List (Addr × Obj)) (H:Hp) (b:Addr):Prop :=
 H b = none ∧ b ≠ X.env.locals ∧ b ∉ X.fs ∧ (b ∈ X.ex ∨ X.s₀.heap.objs.size ≤ b) ∧ (∀ x c,X.env.cells.lookup x = some c -> c ≠ b) ∧ ∀ p ∈ X.pn ++ pins,p.1 ≠ b
theorem Inv.fpOk {X:Cx} {pins:List (Addr × Obj)} {σ:St} {H H':Hp} {s:Shared} {b:Addr} (I:Inv X pins σ H s) (hb:s.heap.objs.size ≤ b) (hn:H' b = none):jt X pins H' b:= by
 refine ⟨hn,Nat.ne_of_gt (Nat.lt_of_lt_of_le I.lt hb),I.nofs hb,.inr (Nat.le_trans I.sz hb),fun x c e z => ?_,fun p hp z => ?_⟩
 ·obtain ⟨v,q⟩:=I.cell x c e
  exact absurd (Nat.lt_of_lt_of_le q.lt (by rw [z]; exact hb)) (Nat.lt_irrefl _)
 ·exact absurd (Nat.lt_of_lt_of_le (Heap.lt_size (I.pin p hp).1) (by rw [z]; exact hb)) (Nat.lt_irrefl _)
structure Turn (P:Program) (w:World) (K:PySem.W.Frag) (tg:Expr) (J:It) (fp:List Addr) (it:Addr) (tn:Nat -> Heap -> Prop):Prop where
 mem:it ∈ fp
 obj:∀ i h,tn i h -> ∀ b ∈ fp,∃ o,h.get? b = some o ∧ ∀ v,o.data ≠ .cell v
 keep:∀ i h h',tn i h -> (∀ b ∈ fp,∀ o,h.get? b = some o -> h'.get? b = some o) -> tn i h'
 item:∀ (X:Cx),X.prog = P -> X.w = w -> X.K = K -> X.calm = true -> ∀ (i:Nat) (pins:List (Addr × Obj)) (s:Shared) (σ:St) (H:Hp) (E:Value -> Shared -> Prop),Inv X pins σ H s -> (∀ b ∈ fp,jt X pins H b) -> tn i s.heap -> J.go i H ->
  wpAny (model P w) X.A (pyNext (.ref it)) (fun r s1 => ∃ u,r = some u ∧
   wpAny (model P w) X.A (letOwnedTupleGo tg (.ref it) u) (fun _ s2 => ∃ x H',Inv X pins σ H' s2 ∧ RelV x u ∧ J.yld i H x H' ∧ tn (i + 1) s2.heap ∧ ∀ b ∈ fp,H' b = none) E s1) E s
 done:∀ (X:Cx),X.prog = P -> X.w = w -> X.K = K -> X.calm = true -> ∀ (i:Nat) (pins:List (Addr × Obj)) (s:Shared) (σ:St) (H:Hp) (E:Value -> Shared -> Prop),Inv X pins σ H s -> (∀ b ∈ fp,jt X pins H b) -> tn i s.heap -> J.stop i H ->
  wpAny (model P w) X.A (pyNext (.ref it)) (fun r s1 => r = none ∧ Inv X pins σ H s1) E s
 self:∀ (A:Around) (i:Nat) (s:Shared) (Q:Value -> Shared -> Prop) (E:Value -> Shared -> Prop),tn i s.heap -> Q (.ref it) s -> wpAny (model P w) A (pyIter (.ref it)) Q E s
abbrev TI:=St -> Hp -> (It -> Hp -> Prop) -> Prop
def JY (X:Cx) (pins:List (Addr × Obj)) (σ:St) (tg:Expr) (R:It -> Hp -> Prop) (itv:Value) (s2:Shared):Prop :=
 ∃ (it:Addr) (fp:List Addr) (tn:Nat -> Heap -> Prop) (J:It) (H':Hp),itv = .ref it ∧ Inv X pins σ H' s2 ∧ Turn X.prog X.w X.K tg J fp it tn ∧ tn 0 s2.heap ∧ (∀ b ∈ fp,jt X pins H' b) ∧ R J H'
def PI (X:Cx) (tg iter:Expr) (wi:TI):Prop :=
 ∀ (pins:List (Addr × Obj)) (s:Shared) (σ:St) (H:Hp) (R:It -> Hp -> Prop),Inv X pins σ H s -> wi σ H R ->
  wpAny (model X.prog X.w) X.A (eval iter X.env) (fun v s1 => wpAny (model X.prog X.w) X.A (pyIter v) (JY X pins σ tg R) X.xe s1) X.xe s
theorem y_ {M:Model} {A:Around} {E:Value -> Shared -> Prop} {s:Shared} {tg:Expr} {it:Addr} {u:Value} {o:Obj} {n:String} {vs:Array Value} {Q:Unit -> Shared -> Prop} (ho:s.heap.get? it = some o) (hc:o.cls = .type n) (hd:o.data = .fields vs)
  (hn:["enumerate","zip","dict_itemiterator","dict_reverseitemiterator","odict_iterator","itertools.zip_longest","itertools.pairwise"].contains n = false) (hQ:Q () s):wpAny M A (letOwnedTupleGo tg (.ref it) u) Q E s:= by
 unfold letOwnedTupleGo
 cases tg <;> first
  | exact wpAny_pure hQ
  | (cases u <;> first
    | exact wpAny_pure hQ
    | (refine wpAny_bind (wpAny_load ho ?_)
       rw [hc,hd]
       show wpAny M A (if (["enumerate","zip","dict_itemiterator","dict_reverseitemiterator","odict_iterator","itertools.zip_longest","itertools.pairwise"].contains n && vs[0]? == some (rawInt _)) = true then _ else _) Q E s
       rw [if_neg (by intro h; rw [hn,Bool.false_and] at h; cases h)]
       exact wpAny_pure hQ))
def IV (K:PySem.W.Frag) (a:Addr):It :=
 ⟨fun i H => ∃ xs x,iY K H a xs ∧ xs[i]? = some x,fun i H x H' => H' = H ∧ ∀ xs,iY K H a xs -> xs[i]? = some x,fun i H => ∃ xs,iY K H a xs ∧ xs.length ≤ i⟩
def Jc (K:PySem.W.Frag) (a:Addr):It :=
 ⟨fun i H => ∃ xs x,i4 K H a xs ∧ xs[i]? = some x,fun i H x H' => H' = H ∧ ∀ xs,i4 K H a xs -> xs[i]? = some x,fun i H => ∃ xs,i4 K H a xs ∧ xs.length ≤ i⟩
def HB (lo:Int) (n:Nat):It:=⟨fun i _ => i < n,fun i H x H' => H' = H ∧ x = .int (lo + i),fun i _ => n ≤ i⟩
theorem om {P:Program} {w:World} {K:PySem.W.Frag} {tg:Expr} (a it:Addr):Turn P w K tg (IV K a) [it] it (fun i h => h.IsListIter it a i) where
 mem:=by simp
 obj:=fun i h st b hb => by
  have e:b = it:=by simpa using hb
  subst e
  obtain ⟨o,e,c,d⟩:=st
  exact ⟨o,e,fun v z => by rw [d] at z; cases z⟩
 keep:=fun i h h' st k => st.at fun o e => k it (by simp) o e
 item:= by
  intro X hP hw hK hc i pins s σ H E I hf st hg
  subst hP hw hK
  obtain ⟨xs,x,hq,hx⟩:=hg
  obtain ⟨its,rv,p,hz⟩:=I.list hq
  obtain ⟨u,hu,ru⟩:=rv.get hx
  obtain ⟨f0,f1,f2,f3,f4,f5⟩:=hf it (by simp)
  refine wpAny_pyNext_list_item st p.isList (x:=u) (by simpa using hu) fun h' st' sb => ?_
  have I1:Inv X pins σ H { s with heap:=h' }:=I.turned (t':=s.toks) (fun b o hb e => (sb.2 b hb).trans e) f0 f1 f3 f4 f5
  obtain ⟨o,e,c,d⟩:=id st'
  exact ⟨u,rfl,y_ (s:={ s with heap:=h' }) e c d (by decide) ⟨x,H,I1,ru,⟨rfl,fun ys hy => by rw [I.list_inj hy hq]; exact hx⟩,st',fun b hb => (hf b hb).1⟩⟩
 done:= by
  intro X hP hw hK hc i pins s σ H E I hf st hg
  subst hP hw hK
  obtain ⟨xs,hq,hx⟩:=hg
  obtain ⟨its,rv,p,hz⟩:=I.list hq
  obtain ⟨f0,f1,f2,f3,f4,f5⟩:=hf it (by simp)
  have hl:=rv.length
  exact wpAny_pyNext_list_end (I.ok.hd hc) st p.isList (by simp; omega) fun h' eb => ⟨rfl,I.turned (t':=s.toks) (fun b o hb e => eb b o hb e) f0 f1 f3 f4 f5⟩
 self:=fun _ _ _ _ _ st h => wpAny_pyIter_listiter st h
theorem sU {P:Program} {w:World} {K:PySem.W.Frag} {tg:Expr} (a it:Addr):Turn P w K tg (Jc K a) [it] it (fun i h => h.IsTupleIter it a i) where
 mem:=by simp
 obj:=fun i h st b hb => by
  have e:b = it:=by simpa using hb
  subst e
  obtain ⟨o,e,c,d⟩:=st
  exact ⟨o,e,fun v z => by rw [d] at z; cases z⟩
 keep:=fun i h h' st k => st.at fun o e => k it (by simp) o e
 item:= by
  intro X hP hw hK hc i pins s σ H E I hf st hg
  subst hP hw hK
  obtain ⟨xs,x,hq,hx⟩:=hg
  obtain ⟨its,rv,p,hz⟩:=I.tuple hq
  obtain ⟨u,hu,ru⟩:=rv.get hx
  obtain ⟨f0,f1,f2,f3,f4,f5⟩:=hf it (by simp)
  refine wpAny_pyNext_tuple_item st (show s.heap.IsTuple a its.toArray from p) (x:=u) (by simpa using hu) fun h' st' sb => ?_
  have I1:Inv X pins σ H { s with heap:=h' }:=I.turned (t':=s.toks) (fun b o hb e => (sb.2 b hb).trans e) f0 f1 f3 f4 f5
  obtain ⟨o,e,c,d⟩:=id st'
  exact ⟨u,rfl,y_ (s:={ s with heap:=h' }) e c d (by decide) ⟨x,H,I1,ru,⟨rfl,fun ys hy => by rw [I.tuple_inj hy hq]; exact hx⟩,st',fun b hb => (hf b hb).1⟩⟩
 done:= by
  intro X hP hw hK hc i pins s σ H E I hf st hg
  subst hP hw hK
  obtain ⟨xs,hq,hx⟩:=hg
  obtain ⟨its,rv,p,hz⟩:=I.tuple hq
  obtain ⟨f0,f1,f2,f3,f4,f5⟩:=hf it (by simp)
  have hl:=rv.length
  exact wpAny_pyNext_tuple_end (I.ok.hd hc) st (show s.heap.IsTuple a its.toArray from p) (by simp; omega) fun h' eb => ⟨rfl,I.turned (t':=s.toks) (fun b o hb e => eb b o hb e) f0 f1 f3 f4 f5⟩
 self:=fun _ _ _ _ _ st h => wpAny_pyIter_tupleiter st h
theorem tq {P:Program} {w:World} {K:PySem.W.Frag} {tg:Expr} (it:Addr) (lo:Int) (n:Nat):Turn P w K tg (HB lo n) [it] it (fun i h => IsRangeIter h it (lo + (i:Nat) * 1) ((n:Int) - (i:Nat)) 1) where
 mem:=by simp
 obj:=fun i h st b hb => by
  have e:b = it:=by simpa using hb
  subst e
  exact ⟨_,st,fun v z => by
   have z':Data.fields _ = Data.cell v:=z
   cases z'⟩
 keep:=fun i h h' st k => k it (by simp) _ st
 item:= by
  intro X hP hw hK hc i pins s σ H E I hf st hg
  subst hP hw hK
  obtain ⟨f0,f1,f2,f3,f4,f5⟩:=hf it (by simp)
  have W:=Walks.range (prog:=X.prog) (w:=X.w) (I.ok.hd hc) it lo 1 n
  refine W.item i s _ _ hg st fun v h' tk hv st' kk => ?_
  obtain ⟨t,rfl⟩:=hv
  have I1:Inv X pins σ H { s with heap:=h',toks:=tk }:=I.turned (fun b o hb e => kk b o (by simpa using hb) e) f0 f1 f3 f4 f5
  refine ⟨_,rfl,y_ (s:={ s with heap:=h',toks:=tk }) (n:="range_iterator") st' rfl rfl (by decide) ⟨.int (lo + i),H,I1,⟨t,?_⟩,⟨rfl,rfl⟩,st',fun b hb => (hf b hb).1⟩⟩
  rw [Int.mul_one]
 done:= by
  intro X hP hw hK hc i pins s σ H E I hf st hg
  subst hP hw hK
  obtain ⟨f0,f1,f2,f3,f4,f5⟩:=hf it (by simp)
  exact wpAny_pyNext_range_end (I.ok.hd hc) st (by have:n ≤ i:=hg; omega) fun h' eb => ⟨rfl,I.turned (t':=s.toks) (fun b o hb e => eb b o hb e) f0 f1 f3 f4 f5⟩
 self:=fun _ _ _ _ _ st h => wpAny_pyIter_rangeiter st h
end L2
namespace L2
open PySem PySem.Spec PyProof.Rows
section
variable {X:Cx} {tg:Expr}
def GB (K:PySem.W.Frag) (tl:TE):TI:=fun σ H R => tl σ H fun x H1 => ∃ a,x = .ref a ∧ (∃ xs,iY K H1 a xs) ∧ R (IV K a) H1
theorem Bk {l:Expr} {tl:TE} (hl:PE X l tl):PI X tg l (GB X.K tl):= by
 intro pins s σ H R I h
 refine cW (hl pins s σ H _ I h) fun v s1 ⟨x,H1,I1,r1,q1⟩ => ?_
 obtain ⟨a,e,⟨xs,hq⟩,q⟩:=q1
 subst e
 cases r1
 obtain ⟨its,rv,p,hz⟩:=I1.list hq
 refine wpAny_pyIter_list p.isList ?_
 refine ⟨s1.heap.objs.size,[s1.heap.objs.size],_,_,H1,rfl,I1.kept (t':=s1.toks) fun b o e => Heap.get?_push_of_some _ e,om a _,⟨_,Heap.get?_push_size _ rfl,rfl,rfl⟩,fun b hb => ?_,q⟩
 have e:b = s1.heap.objs.size:=by simpa using hb
 subst e
 exact I1.fpOk (Nat.le_refl _) (I1.hok.fresh (Nat.le_refl _))
theorem rD {pins:List (Addr × Obj)} {σ:St} {H:Hp} {s:Shared} {R:It -> Hp -> Prop} {E:Value -> Shared -> Prop} {lo hi:Int} {t u v:Tok} {tk:Nat} (I:Inv X pins σ H s) (h1:-(2 ^ 62) ≤ lo) (h2:lo < 2 ^ 62) (h3:-(2 ^ 62) ≤ hi) (h4:hi < 2 ^ 62)
  (q:R (HB lo (hi - lo).toNat) H):wpAny (model X.prog X.w) X.A (pyIter (.ref s.heap.objs.size)) (JY X pins σ tg R) E { s with heap:=s.heap.push { cls:=.type "range",data:=.fields #[.int lo t,.int hi u,.int 1 v] },toks:=tk }:= by
 refine wpAny_pyIter_range (IsRange.new ..) (small_one h1 h2 h3 h4) ?_
 have I1:Inv X pins σ H { s with heap:=s.heap.push { cls:=.type "range",data:=.fields #[.int lo t,.int hi u,.int 1 v] },toks:=tk }:=I.kept fun b o e => Heap.get?_push_of_some _ e
 refine ⟨(s.heap.push { cls:=.type "range",data:=.fields #[.int lo t,.int hi u,.int 1 v] }).objs.size,[(s.heap.push { cls:=.type "range",data:=.fields #[.int lo t,.int hi u,.int 1 v] }).objs.size],_,_,H,rfl,
  I1.kept (t':=tk) fun b o e => Heap.get?_push_of_some _ e,tq _ lo (hi - lo).toNat,?_,fun b hb => ?_,q⟩
 ·have e1:lo + ((0:Nat):Int) * 1 = lo:=by simp
  have e2:(((hi - lo).toNat:Nat):Int) - ((0:Nat):Int) = Builtin.Range.rangeSize lo hi 1:=by rw [rangeSize_one]; split <;> omega
  show IsRangeIter _ _ (lo + ((0:Nat):Int) * 1) ((((hi - lo).toNat:Nat):Int) - ((0:Nat):Int)) 1
  rw [e1,e2]
  exact Heap.get?_push_size _ rfl
 ·have e:b = (s.heap.push { cls:=.type "range",data:=.fields #[.int lo t,.int hi u,.int 1 v] }).objs.size:=by simpa using hb
  subst e
  exact I1.fpOk (Nat.le_refl _) (I1.hok.fresh (Nat.le_refl _))
def HQ (ta:TA):TI:=fun σ H R => ta σ H fun vs H1 => ∃ j:Int,vs = [.int j] ∧ -(2 ^ 62) ≤ j ∧ j < 2 ^ 62 ∧ R (HB 0 j.toNat) H1
def HX (ta:TA):TI:=fun σ H R => ta σ H fun vs H1 => ∃ i j:Int,vs = [.int i,.int j] ∧ (-(2 ^ 62) ≤ i ∧ i < 2 ^ 62 ∧ -(2 ^ 62) ≤ j ∧ j < 2 ^ 62) ∧ R (HB i (j - i).toNat) H1
theorem wH {a:Expr} {ta:TA} {p pos:Pos} (hg:Gl X "range") (hm:X.mg "range" = none) (ha:PA X [a] ta) (hs:starEach [a] X.env = [(false,eval a X.env)]:=by rfl):PI X tg (.Call (.Name "range" p) [a] [] pos) (HQ ta):= by
 intro pins s σ H R I h
 refine Call_ (fO I hg hm boot_range (PyProof.Rows.callWith_type1 (cW (ha pos pins s σ H _ I h) fun us s1 ⟨vs,H1,I1,r1,q1⟩ => ?_) hs rfl))
 obtain ⟨j,e,q1,q2,q⟩:=q1
 subst e
 cases r1 with
 | cons r rr =>
  cases rr
  obtain ⟨t,rfl⟩:=r
  exact call_range_1 (rD I1 (by omega) (by omega) q1 q2 (by simpa using q))
theorem vU {a b:Expr} {ta:TA} {p pos:Pos} (hg:Gl X "range") (hm:X.mg "range" = none) (ha:PA X [a,b] ta) (hs:starEach [a,b] X.env = [(false,eval a X.env),(false,eval b X.env)]:=by rfl) (hs2:starEach [b] X.env = [(false,eval b X.env)]:=by rfl) :
  PI X tg (.Call (.Name "range" p) [a,b] [] pos) (HX ta):= by
 intro pins s σ H R I h
 refine Call_ (fO I hg hm boot_range (PyProof.Rows.callWith_type1 (cW (ha pos pins s σ H _ I h) fun us s1 ⟨vs,H1,I1,r1,q1⟩ => ?_) (by rw [hs,hs2]) (by rw [hs2]; rfl)))
 obtain ⟨i,j,e,⟨q1,q2,q3,q4⟩,q⟩:=q1
 subst e
 cases r1 with
 | cons r rr =>
  cases rr with
  | cons r' rr =>
   cases rr
   obtain ⟨t,rfl⟩:=r
   obtain ⟨t',rfl⟩:=r'
   exact call_range_2 (rD I1 q1 q2 q3 q4 q)
def Jr (wi:TI) (g:TG) (tb:TS):TS:=fun D σ H => wi σ H fun J H1 => ∃ W:Nat -> Nat -> St -> Hp -> Prop,(∃ m,W 0 m σ H1) ∧ ∀ i m σ H,W i m σ H ->
 (J.stop i H ∧ D.nx σ H) ∨ (J.go i H ∧ ∃ N:St -> Hp -> Prop,(∀ σ' H',N σ' H' -> ∃ m',m' < m ∧ W (i + 1) m' σ' H') ∧ ∀ x H',J.yld i H x H' -> g x σ H' fun σ2 H2 => tb { D with nx:=N,ct:=N,bk:=D.nx } σ2 H2)
def l7 (fp:List Addr) (h:Heap):List (Addr × Obj):=fp.filterMap fun b => (h.get? b).map fun o => (b,o)
theorem gK {fp:List Addr} {h:Heap} {b:Addr} {o:Obj} (hb:b ∈ fp) (e:h.get? b = some o):(b,o) ∈ l7 fp h:=List.mem_filterMap.mpr ⟨b,hb,by rw [e]; rfl⟩
theorem wG {fp:List Addr} {h:Heap} {p:Addr × Obj} (hp:p ∈ l7 fp h):p.1 ∈ fp ∧ h.get? p.1 = some p.2:= by
 obtain ⟨b,hb,e⟩:=List.mem_filterMap.mp hp
 cases q:h.get? b with
 | none => rw [q] at e; cases e
 | some o =>
  rw [q] at e
  have e':(b,o) = p:=Option.some.inj e
  subst e'
  exact ⟨hb,q⟩
theorem Inv.pinned {pins:List (Addr × Obj)} {σ:St} {H:Hp} {s:Shared} {fp:List Addr} (I:Inv X pins σ H s) (hf:∀ b ∈ fp,jt X pins H b) (ho:∀ b ∈ fp,∃ o,s.heap.get? b = some o ∧ ∀ v,o.data ≠ .cell v):Inv X (pins ++ l7 fp s.heap) σ H s :=
 I.pins_of fun p hp => (List.mem_append.mp hp).elim (fun z => I.pin p (List.mem_append_right _ z)) fun z => by
  obtain ⟨hb,e⟩:=wG z
  obtain ⟨f0,f1,f2,_⟩:=hf p.1 hb
  obtain ⟨o,e',d⟩:=ho p.1 hb
  rw [e] at e'; cases e'
  exact ⟨e,f0,f1,f2,d⟩
theorem Inv.unpinned {pins pl:List (Addr × Obj)} {σ:St} {H:Hp} {s:Shared} (I:Inv X (pins ++ pl) σ H s):Inv X pins σ H s:=I.pins_of fun p hp => I.pin p (List.mem_append_right _ (List.mem_append_left _ hp))
theorem D7 {iter:Expr} {body:List Stmt} {wi:TI} {g:TG} {tb:TS} {pos:Pos} (hp:PassesOwn (model X.prog X.w) X.A X.env X.xe) (hc:X.calm = true) (hi:PI X tg iter wi) (hg:PG X tg g) (hb:sA X body tb)
  (hs:∀ x,foldedSetIterable iter X.env x = pure x:=by intro _; rfl):PS X (.For tg iter body [] pos) (Jr wi g tb):= by
 intro pins s σ H D I h
 refine wpAny_For (cW (hi pins s σ H _ I h) fun v s1 h1 => cW h1 fun itv s2 h2 => ?_) hs
 obtain ⟨it,fp,tn,J,H2,e,I2,T,st2,f2,W,⟨m0,w0⟩,turn⟩:=h2
 subst e
 have stat:∀ {H':Hp},(∀ b ∈ fp,H' b = none) -> ∀ b ∈ fp,jt X pins H' b:=fun hn b hb => ⟨hn b hb,(f2 b hb).2⟩
 refine codeAny_forLoop_any (fun n s' => ∃ i σ' H',Inv X pins σ' H' s' ∧ tn i s'.heap ∧ (∀ b ∈ fp,H' b = none) ∧ W i n σ' H') ?_ m0 ⟨0,σ,H2,I2,st2,fun b hb => (f2 b hb).1,w0⟩
 rintro n s3 ⟨i,σ3,H3,I3,st3,fr3,w3⟩
 rcases turn i n σ3 H3 w3 with ⟨stop,qn⟩ | ⟨go,N,hN,step⟩
 ·refine wpAny_passesOwn hp (cW (T.done X rfl rfl rfl hc i pins s3 σ3 H3 X.xe I3 (stat fr3) st3 stop) fun r s4 ⟨hr,I4⟩ => ?_)
  subst hr
  exact wpAny_execs_nil ⟨σ3,H3,I4,qn⟩
 ·refine wpAny_passesOwn hp (cW (T.item X rfl rfl rfl hc i pins s3 σ3 H3 X.xe I3 (stat fr3) st3 go) fun r s4 ⟨u,hr,h4⟩ => ?_)
  subst hr
  refine wpAny_passesOwn hp (cW h4 fun _ s5 ⟨x,H5,I5,r5,y5,st5,fr5⟩ => ?_)
  have I5':=I5.pinned (stat fr5) (T.obj _ _ st5)
  refine wpAny_passesOwn hp (cW (hg _ s5 σ3 H5 x u _ I5' r5 (step x H5 y5)) fun _ s6 ⟨σ6,H6,I6,q6⟩ => ?_)
  refine wpAny_passesOwn hp (cW (hb _ s6 σ6 H6 _ I6 q6) fun f s7 q7 => ?_)
  have again:∀ {σ7:St} {H7:Hp},Inv X (pins ++ l7 fp s5.heap) σ7 H7 s7 -> N σ7 H7 -> ∃ m,m < n ∧ ∃ i σ' H',Inv X pins σ' H' s7 ∧ tn i s7.heap ∧ (∀ b ∈ fp,H' b = none) ∧ W i m σ' H':=fun {σ7 H7} I7 n7 => by
   obtain ⟨m',hm,w7⟩:=hN σ7 H7 n7
   refine ⟨m',hm,i + 1,σ7,H7,I7.unpinned,T.keep _ _ _ st5 fun b hb o e => (I7.pin (b,o) (List.mem_append_right _ (List.mem_append_right _ (gK hb e)))).1,fun b hb => ?_,w7⟩
   obtain ⟨o,e,d⟩:=T.obj _ _ st5 b hb
   exact (I7.pin (b,o) (List.mem_append_right _ (List.mem_append_right _ (gK hb e)))).2.1
  cases f with
  | next => obtain ⟨σ7,H7,I7,n7⟩:=q7; exact again I7 n7
  | cont => obtain ⟨σ7,H7,I7,n7⟩:=q7; exact again I7 n7
  | brk => obtain ⟨σ7,H7,I7,q7⟩:=q7; exact ⟨σ7,H7,I7.unpinned,q7⟩
  | ret v => obtain ⟨x7,σ7,H7,I7,r7,q7⟩:=q7; exact ⟨x7,σ7,H7,I7.unpinned,r7,q7⟩
end
end L2
namespace L2
open PySem PySem.Spec PyProof.Rows
abbrev R2:=V -> V -> Hp -> VK -> Prop
def gf (X:Cx) (f:Value -> Value -> Sem Value) (r:R2):Prop :=
 ∀ (pins:List (Addr × Obj)) (s:Shared) (σ:St) (H:Hp) (x y:V) (v u:Value) (Q:VK),Inv X pins σ H s -> RelV x v -> RelV y u -> r x y H Q ->
  wpAny (model X.prog X.w) X.A (f v u) (EP X pins σ Q) X.xe s
def Jn (X:Cx) (f:Value -> Sem Value) (r:V -> Hp -> VK -> Prop):Prop :=
 ∀ (pins:List (Addr × Obj)) (s:Shared) (σ:St) (H:Hp) (x:V) (v:Value) (Q:VK),Inv X pins σ H s -> RelV x v -> r x H Q ->
  wpAny (model X.prog X.w) X.A (f v) (EP X pins σ Q) X.xe s
def d4 (X:Cx) (f:Value) (r:List V -> Hp -> VK -> Prop):Prop :=
 ∀ (pins:List (Addr × Obj)) (s:Shared) (σ:St) (H:Hp) (xs:List V) (us:List Value) (Q:VK),Inv X pins σ H s -> Vals xs us -> r xs H Q ->
  wpAny (model X.prog X.w) X.A (call f us) (EP X pins σ Q) X.xe s
def Jo (X:Cx) (r:V -> Hp -> (Bool -> Hp -> Prop) -> Prop):Prop :=
 ∀ (pins:List (Addr × Obj)) (s:Shared) (σ:St) (H:Hp) (x:V) (v:Value) (Q:Bool -> Hp -> Prop),Inv X pins σ H s -> RelV x v -> r x H Q ->
  wpAny (model X.prog X.w) X.A (truthy v) (TP X pins σ Q) X.xe s
def DK (r:R2) (ta tb:TE):TE:=fun σ H Q => ta σ H fun x H1 => tb σ H1 fun y H2 => r x y H2 Q
def Kg (r:V -> Hp -> VK -> Prop) (ta:TE):TE:=fun σ H Q => ta σ H fun x H1 => r x H1 Q
def rI (C:Int -> Int -> Prop) (g:Int -> Int -> V):R2:=fun x y H Q => ∃ i j,x = .int i ∧ y = .int j ∧ C i j ∧ Q (g i j) H
def ud (g:Int -> Int -> V):R2:=fun x y H Q => ∃ i j,x = .int i ∧ y = .int j ∧ Q (g i j) H
def rU (g:Int -> V):V -> Hp -> VK -> Prop:=fun x H Q => ∃ i,x = .int i ∧ Q (g i) H
section
variable {X:Cx} {a b c:Expr} {ta tb tc:TE} {pos:Pos}
theorem EK (ha:PE X a ta) (hb:PE X b tb) {pins:List (Addr × Obj)} {s:Shared} {σ:St} {H:Hp} {R:V -> V -> Hp -> Prop} (I:Inv X pins σ H s)
  (h:ta σ H fun x H1 => tb σ H1 fun y H2 => R x y H2) {Q:Value -> Shared -> Prop} {f:Value -> Value -> Sem Value}
  (hf:∀ v u s2 x y H2,Inv X pins σ H2 s2 -> RelV x v -> RelV y u -> R x y H2 -> wpAny (model X.prog X.w) X.A (f v u) Q X.xe s2) :
  wpAny (model X.prog X.w) X.A (eval a X.env) (fun v s₁ => wpAny (model X.prog X.w) X.A (eval b X.env) (fun u s₂ => wpAny (model X.prog X.w) X.A (f v u) Q X.xe s₂) X.xe s₁) X.xe s:= by
 refine cW (ha pins s σ H _ I h) fun v s1 ⟨x,H1,I1,r1,q1⟩ => ?_
 refine cW (hb pins s1 σ H1 _ I1 q1) fun u s2 ⟨y,H2,I2,r2,q2⟩ => ?_
 exact hf v u s2 x y H2 I2 r1 r2 q2
theorem DU {op:Operator} {r:R2} (ho:gf X (binaryOp op) r) (ha:PE X a ta) (hb:PE X b tb):PE X (.BinOp a op b pos) (DK r ta tb):= by
 intro pins s σ H Q I h
 exact wpAny_BinOp (EK ha hb I h fun v u s2 x y H2 I2 rx ry q => ho pins s2 σ H2 x y v u Q I2 rx ry q)
theorem Dk {op:UnaryOp} {r:V -> Hp -> VK -> Prop} (ho:Jn X (unaryOp op) r) (ha:PE X a ta):PE X (.UnaryOp op a pos) (Kg r ta):= by
 intro pins s σ H Q I h
 exact UnaryOp_ (cW (ha pins s σ H _ I h) fun v s1 ⟨x,H1,I1,r1,q1⟩ => ho pins s1 σ H1 x v Q I1 r1 q1)
theorem HI {f:Value -> Value -> Sem Value} {C:Int -> Int -> Prop} {g:Int -> Int -> Int}
  (rule:∀ (i j:Int) (t u:Tok) (s:Shared) (Q:Value -> Shared -> Prop) (E:Value -> Shared -> Prop),C i j -> Q (.int (g i j) s.toks) { s with toks:=s.toks + 1 } -> wpAny (model X.prog X.w) X.A (f (.int i t) (.int j u)) Q E s) :
  gf X f (rI C fun i j => .int (g i j)):= by
 intro pins s σ H x y v u Q I rx ry h
 obtain ⟨i,j,rfl,rfl,hc,q⟩:=h
 obtain ⟨t,rfl⟩:=rx
 obtain ⟨t',rfl⟩:=ry
 exact rule i j t t' s _ _ hc ⟨.int (g i j),H,I.tok _,⟨_,rfl⟩,q⟩
theorem GY {f:Value -> Value -> Sem Value} {g:Int -> Int -> Int}
  (rule:∀ (i j:Int) (t u:Tok) (s:Shared) (Q:Value -> Shared -> Prop) (E:Value -> Shared -> Prop),Q (.int (g i j) s.toks) { s with toks:=s.toks + 1 } -> wpAny (model X.prog X.w) X.A (f (.int i t) (.int j u)) Q E s) :
  gf X f (ud fun i j => .int (g i j)):= by
 intro pins s σ H x y v u Q I rx ry h
 obtain ⟨i,j,rfl,rfl,q⟩:=h
 obtain ⟨t,rfl⟩:=rx
 obtain ⟨t',rfl⟩:=ry
 exact rule i j t t' s _ _ ⟨.int (g i j),H,I.tok _,⟨_,rfl⟩,q⟩
theorem AO {f:Value -> Value -> Sem Value} {g:Int -> Int -> Bool}
  (rule:∀ (i j:Int) (t u:Tok) (s:Shared) (Q:Value -> Shared -> Prop) (E:Value -> Shared -> Prop),Q (.bool (g i j)) s -> wpAny (model X.prog X.w) X.A (f (.int i t) (.int j u)) Q E s) :
  gf X f (ud fun i j => .bl (g i j)):= by
 intro pins s σ H x y v u Q I rx ry h
 obtain ⟨i,j,rfl,rfl,q⟩:=h
 obtain ⟨t,rfl⟩:=rx
 obtain ⟨t',rfl⟩:=ry
 exact rule i j t t' s _ _ ⟨.bl (g i j),H,I,rfl,q⟩
def Ff (i j:Int):Prop:=0 < j ∧ j < 1073741824
def JJ (i j:Int):Prop:=0 ≤ j ∧ j ≤ 1000000 ∧ i.natAbs < 2 ^ 64
def F_ (i j:Int):Prop:=(-(2 ^ 64) < i ∧ i < 2 ^ 64) ∨ (-(2 ^ 64) < j ∧ j < 2 ^ 64)
theorem F_.ok {i j:Int} (h:F_ i j):IntMulOk i j:= by
 rcases h with ⟨h1,h2⟩ | ⟨h1,h2⟩
 ·exact .of_left (intBits_le_64 h1 h2)
 ·exact .of_right (intBits_le_64 h1 h2)
theorem F7:gf X (binaryOp .Add) (ud fun i j => .int (i + j)):=GY fun _ _ _ _ _ _ _ q => add_int q
theorem FK:gf X (binaryOp .Sub) (ud fun i j => .int (i - j)):=GY fun _ _ _ _ _ _ _ q => sub_int q
theorem EE:gf X (binaryOp .Mult) (rI F_ fun i j => .int (i * j)):=HI fun _ _ _ _ _ _ _ hc q => mul_int q hc.ok
theorem B_:gf X (binaryOp .FloorDiv) (rI Ff fun i j => .int (i / j)):=HI fun i j _ _ _ _ _ hc q => by
 have h1:(0:Int) < j:=hc.1
 have h2:j < 1073741824:=hc.2
 exact floordiv_int (by omega) (by rw [Int.fdiv_eq_ediv_of_nonneg i (by omega)]; exact q) (.inl (PyProof.noPylong_small (by omega)))
theorem F5:gf X (binaryOp .Mod) (rI (fun _ j => 0 < j) fun i j => .int (i % j)):=HI fun i j _ _ _ _ _ hc q => by
 have h1:(0:Int) < j:=hc
 exact mod_int' (by omega) (by rw [Int.fmod_eq_emod_of_nonneg i (by omega)]; exact q)
theorem EW:gf X (binaryOp .Pow) (rI JJ fun i j => .int (i ^ j.toNat)):=HI fun _ _ _ _ _ _ _ hc q => pow_int_small hc.1 hc.2.1 hc.2.2 q
theorem Kd {f:Value -> Sem Value} {g:Int -> Int}
  (rule:∀ (i:Int) (t:Tok) (s:Shared) (Q:Value -> Shared -> Prop) (E:Value -> Shared -> Prop),Q (.int (g i) s.toks) { s with toks:=s.toks + 1 } -> wpAny (model X.prog X.w) X.A (f (.int i t)) Q E s) :
  Jn X f (rU fun i => .int (g i)):= by
 intro pins s σ H x v Q I rx h
 obtain ⟨i,rfl,q⟩:=h
 obtain ⟨t,rfl⟩:=rx
 exact rule i t s _ _ ⟨.int (g i),H,I.tok _,⟨_,rfl⟩,q⟩
theorem yV:Jn X (unaryOp .USub) (rU fun i => .int (-i)):=Kd fun _ _ _ _ _ q => neg_int q
end
def q0:V -> V -> Bool
 | .non,.non => true | .non,.int _ => true | .int _,.non => true | .non,.bl _ => true | .bl _,.non => true | .non,.str _ => true | .str _,.non => true
 | .int _,.int _ => true | .bl _,.bl _ => true | .str _,.str _ => true | .byt _,.byt _ => true
 | .int _,.str _ => true | .str _,.int _ => true | .bl _,.str _ => true | .str _,.bl _ => true
 | _,_ => false
def JE:R2:=fun x y H Q => q0 x y = true ∧ Q (.bl (decide (x = y))) H
def JQ:R2:=fun x y H Q => q0 x y = true ∧ Q (.bl (!decide (x = y))) H
theorem vm {i j:Int}:decide (V.int i = V.int j) = (i == j):= by
 rw [Bool.eq_iff_iff]
 simp
theorem ym {i j:Bool}:decide (V.bl i = V.bl j) = (i == j):= by
 rw [Bool.eq_iff_iff]
 simp
theorem uU {i j:Str}:decide (V.str i = V.str j) = (i == j):= by
 rw [Bool.eq_iff_iff]
 simp
theorem vy {i j:Array UInt8}:decide (V.byt i = V.byt j) = (i.toList == j.toList):= by
 rw [Bool.eq_iff_iff]
 cases i
 cases j
 simp
section
variable {X:Cx} {a b c:Expr} {ta tb tc:TE} {pos:Pos}
theorem bC {pins:List (Addr × Obj)} {σ:St} {H:Hp} {s:Shared} {Q:VK} {k k':Bool} (I:Inv X pins σ H s) (q:Q (.bl k) H) (e:k = k'):EP X pins σ Q (.bool k') s:= by
 subst e
 exact ⟨.bl k,H,I,rfl,q⟩
theorem zM:gf X (compareOp .Eq) JE:= by
 intro pins s σ H x y v u Q I rx ry h
 obtain ⟨hs,q⟩:=h
 cases x with
 | non =>
  cases rx
  cases y with
  | non => cases ry; exact PySem.EqNone.eq_none_none (bC I q (by simp))
  | bl j => cases ry; exact PySem.EqNone.eq_none_bool (bC I q (by simp))
  | int j => obtain ⟨t',rfl⟩:=ry; exact PySem.EqNone.eq_none_int (bC I q (by simp))
  | str j => obtain ⟨t',rfl⟩:=ry; exact PySem.EqNone.eq_none_str (bC I q (by simp))
  | _ => exact absurd (show false = true from hs) Bool.false_ne_true
 | bl i =>
  cases rx
  cases y with
  | non => cases ry; exact PySem.EqNone.eq_bool_none (bC I q (by simp))
  | bl j => cases ry; exact eq_bool (bC I q ym)
  | str j => obtain ⟨t',rfl⟩:=ry; exact PySem.EqMixed.eq_bool_str (bC I q (by simp))
  | _ => exact absurd (show false = true from hs) Bool.false_ne_true
 | int i =>
  obtain ⟨t,rfl⟩:=rx
  cases y with
  | non => cases ry; exact PySem.EqNone.eq_int_none (bC I q (by simp))
  | int j => obtain ⟨t',rfl⟩:=ry; exact eq_int (bC I q vm)
  | str j => obtain ⟨t',rfl⟩:=ry; exact PySem.EqMixed.eq_int_str (bC I q (by simp))
  | _ => exact absurd (show false = true from hs) Bool.false_ne_true
 | str i =>
  obtain ⟨t,rfl⟩:=rx
  cases y with
  | non => cases ry; exact PySem.EqNone.eq_str_none (bC I q (by simp))
  | bl j => cases ry; exact PySem.EqMixed.eq_str_bool (bC I q (by simp))
  | int j => obtain ⟨t',rfl⟩:=ry; exact PySem.EqMixed.eq_str_int (bC I q (by simp))
  | str j => obtain ⟨t',rfl⟩:=ry; exact eq_str (bC I q uU)
  | _ => exact absurd (show false = true from hs) Bool.false_ne_true
 | byt i =>
  obtain ⟨t,rfl⟩:=rx
  cases y with
  | byt j => obtain ⟨t',rfl⟩:=ry; exact PySem.W.eq_bytes (bC I q vy)
  | _ => exact absurd (show false = true from hs) Bool.false_ne_true
 | _ => cases y <;> exact absurd (show false = true from hs) Bool.false_ne_true
theorem Dp:gf X (compareOp .NotEq) JQ:= by
 intro pins s σ H x y v u Q I rx ry h
 obtain ⟨hs,q⟩:=h
 cases x with
 | non =>
  cases rx
  cases y with
  | non => cases ry; exact PySem.EqNone.ne_none_none (bC I q (by simp))
  | bl j => cases ry; exact PySem.EqNone.ne_none_bool (bC I q (by simp))
  | int j => obtain ⟨t',rfl⟩:=ry; exact PySem.EqNone.ne_none_int (bC I q (by simp))
  | str j => obtain ⟨t',rfl⟩:=ry; exact PySem.EqNone.ne_none_str (bC I q (by simp))
  | _ => exact absurd (show false = true from hs) Bool.false_ne_true
 | bl i =>
  cases rx
  cases y with
  | non => cases ry; exact PySem.EqNone.ne_bool_none (bC I q (by simp))
  | bl j => cases ry; exact ne_bool (bC I q (congrArg not ym))
  | str j => obtain ⟨t',rfl⟩:=ry; exact PySem.EqMixed.ne_bool_str (bC I q (by simp))
  | _ => exact absurd (show false = true from hs) Bool.false_ne_true
 | int i =>
  obtain ⟨t,rfl⟩:=rx
  cases y with
  | non => cases ry; exact PySem.EqNone.ne_int_none (bC I q (by simp))
  | int j => obtain ⟨t',rfl⟩:=ry; exact ne_int (bC I q (congrArg not vm))
  | str j => obtain ⟨t',rfl⟩:=ry; exact PySem.EqMixed.ne_int_str (bC I q (by simp))
  | _ => exact absurd (show false = true from hs) Bool.false_ne_true
 | str i =>
  obtain ⟨t,rfl⟩:=rx
  cases y with
  | non => cases ry; exact PySem.EqNone.ne_str_none (bC I q (by simp))
  | bl j => cases ry; exact PySem.EqMixed.ne_str_bool (bC I q (by simp))
  | int j => obtain ⟨t',rfl⟩:=ry; exact PySem.EqMixed.ne_str_int (bC I q (by simp))
  | str j => obtain ⟨t',rfl⟩:=ry; exact ne_str (bC I q (congrArg not uU))
  | _ => exact absurd (show false = true from hs) Bool.false_ne_true
 | byt i =>
  obtain ⟨t,rfl⟩:=rx
  cases y with
  | byt j => obtain ⟨t',rfl⟩:=ry; exact PySem.W.ne_bytes (bC I q (congrArg not vy))
  | _ => exact absurd (show false = true from hs) Bool.false_ne_true
 | _ => cases y <;> exact absurd (show false = true from hs) Bool.false_ne_true
theorem Ah:gf X (compareOp .Lt) (ud fun i j => .bl (decide (i < j))):=AO fun _ _ _ _ _ _ _ q => lt_int q
theorem Dr:gf X (compareOp .LtE) (ud fun i j => .bl (decide (i ≤ j))):=AO fun _ _ _ _ _ _ _ q => le_int q
theorem Dm:gf X (compareOp .Gt) (ud fun i j => .bl (decide (j < i))):=AO fun _ _ _ _ _ _ _ q => gt_int q
theorem HH:gf X (compareOp .GtE) (ud fun i j => .bl (decide (j ≤ i))):=AO fun _ _ _ _ _ _ _ q => ge_int q
theorem Fg:gf X (compareOp .Is) (fun x y H Q => y = .non ∧ Q (.bl (decide (x = .non))) H):= by
 intro pins s σ H x y v u Q I rx ry h
 obtain ⟨rfl,q⟩:=h
 cases ry
 refine is_none_gen (bC I q ?_)
 cases x <;> first
  | (cases rx; rfl)
  | (obtain ⟨t,rfl⟩:=rx; rfl)
theorem Bb:gf X (compareOp .IsNot) (fun x y H Q => y = .non ∧ Q (.bl (!decide (x = .non))) H):= by
 intro pins s σ H x y v u Q I rx ry h
 obtain ⟨rfl,q⟩:=h
 cases ry
 refine isnot_none_gen (bC I q ?_)
 cases x <;> first
  | (cases rx; rfl)
  | (obtain ⟨t,rfl⟩:=rx; rfl)
theorem kF (b:Expr) {op:CmpOp} (h:op ≠ .In:=by decide) (h2:op ≠ .NotIn:=by decide):behindInMarks op b = false:= by
 have e1:(op == CmpOp.In) = false:=by cases op <;> first | rfl | exact absurd rfl h
 have e2:(op == CmpOp.NotIn) = false:=by cases op <;> first | rfl | exact absurd rfl h2
 cases b <;> simp [behindInMarks,e1,e2]
theorem ll {op:CmpOp} {r:R2} (ho:gf X (compareOp op) r) (ha:PE X a ta) (hb:PE X b tb) (hm:behindInMarks op b = false):PE X (.Compare a [op] [b] pos) (DK r ta tb):= by
 intro pins s σ H Q I h
 exact wpAny_Compare1 (EK ha hb I h fun v u s2 x y H2 I2 rx ry q => ho pins s2 σ H2 x y v u Q I2 rx ry q) hm
def y6 (t:TE):TT:=fun σ H Q => t σ H fun x H' => ∃ k,x = .bl k ∧ Q k H'
theorem lu {op:CmpOp} {r:R2} (ho:gf X (compareOp op) r) (ha:PE X a ta) (hb:PE X b tb) (hm:behindInMarks op b = false):PT X (.Compare a [op] [b] pos) (y6 (DK r ta tb)):= by
 intro pins s σ H Q I h
 refine wpAny_isTrue_Compare1 (cW (ha pins s σ H _ I h) fun v s1 ⟨x,H1,I1,r1,q1⟩ => cW (hb pins s1 σ H1 _ I1 q1) fun u s2 ⟨y,H2,I2,r2,q2⟩ =>
  cW (ho pins s2 σ H2 x y v u _ I2 r1 r2 q2) fun c s3 ⟨z,H3,I3,r3,k,e,q3⟩ => ?_) hm
 subst e
 cases r3
 exact wpAny_truthy_bool ⟨H3,I3,q3⟩
def ua (r r':R2) (ta tb tc:TE):TE:=fun σ H Q => ta σ H fun x H1 => tb σ H1 fun y H2 => r x y H2 fun z H3 => ∃ k,z = .bl k ∧
 (if k = true then tc σ H3 fun w' H4 => r' y w' H4 Q else Q (.bl false) H3)
theorem yJ {op op':CmpOp} {r r':R2} (ho:gf X (compareOp op) r) (ho':gf X (compareOp op') r') (ha:PE X a ta) (hb:PE X b tb) (hc:PE X c tc)
  (hm:lastMarks [op,op'] [b,c] = false:=by with_unfolding_all rfl):PE X (.Compare a [op,op'] [b,c] pos) (ua r r' ta tb tc):= by
 intro pins s σ H Q I h
 refine Compare_chain (cW (ha pins s σ H _ I h) fun v s1 ⟨x,H1,I1,r1,q1⟩ => chain_link (cW (hb pins s1 σ H1 _ I1 q1) fun u s2 ⟨y,H2,I2,r2,q2⟩ =>
  cW (ho pins s2 σ H2 x y v u _ I2 r1 r2 q2) fun d s3 ⟨z,H3,I3,r3,k,e,q3⟩ => ?_)) hm
 subst e
 cases r3
 refine wpAny_truthy_bool ?_
 cases k with
 | false => exact ite_ff ⟨.bl false,H3,I3,rfl,q3⟩
 | true => exact ite_tt (chain_last (cW (hc pins s3 σ H3 _ I3 q3) fun w' s4 ⟨z',H4,I4,r4,q4⟩ => ho' pins s4 σ H4 y z' u w' Q I4 r2 r4 q4))
theorem yf {op op':CmpOp} {r r':R2} (ho:gf X (compareOp op) r) (ho':gf X (compareOp op') r') (ha:PE X a ta) (hb:PE X b tb) (hc:PE X c tc)
  (hm:lastMarks [op,op'] [b,c] = false:=by with_unfolding_all rfl):PT X (.Compare a [op,op'] [b,c] pos) (y6 (ua r r' ta tb tc)):= by
 intro pins s σ H Q I h
 refine isTrue_chain (cW (ha pins s σ H _ I h) fun v s1 ⟨x,H1,I1,r1,q1⟩ => test_link (cW (hb pins s1 σ H1 _ I1 q1) fun u s2 ⟨y,H2,I2,r2,q2⟩ =>
  cW (ho pins s2 σ H2 x y v u _ I2 r1 r2 q2) fun d s3 ⟨z,H3,I3,r3,k,e,q3⟩ => ?_)) hm
 subst e
 cases r3
 refine wpAny_truthy_bool ?_
 cases k with
 | false =>
  obtain ⟨k',e',q'⟩:=q3
  cases e'
  exact ite_ff ⟨H3,I3,q'⟩
 | true =>
  refine ite_tt (test_last (cW (hc pins s3 σ H3 _ I3 q3) fun w' s4 ⟨z',H4,I4,r4,q4⟩ => cW (ho' pins s4 σ H4 y z' u w' _ I4 r2 r4 q4) fun d' s5 ⟨z2,H5,I5,r5,k2,e2,q5⟩ => ?_))
  subst e2
  cases r5
  exact wpAny_truthy_bool ⟨H5,I5,q5⟩
def Er (K:PySem.W.Frag) (x:V) (H:Hp) (k:Bool):Prop :=
 match x with
 | .non => k = false
 | .bl b => k = b
 | .int i => k = (i != 0)
 | .str y => y.length ≤ sizeLine ∧ k = ((y.length:Int) != 0)
 | .byt y => y.size ≤ sizeLine ∧ k = ((y.size:Int) != 0)
 | .ref p => (∃ xs,iY K H p xs ∧ k = !xs.isEmpty) ∨ (∃ xs,i4 K H p xs ∧ k = !xs.isEmpty) ∨ ∃ kvs,H p = some (.dK kvs) ∧ k = !kvs.isEmpty
 | _ => False
theorem sL {κ:Type} {kvs:List (κ × V)} {vs:List (κ × Value)} (r:KV kvs vs):(!vs.isEmpty) = !kvs.isEmpty:= by
 cases r <;> rfl
theorem l9 {xs:List V} {its:List Value} (r:Vals xs its):(!its.toArray.isEmpty) = !xs.isEmpty:= by
 cases r <;> simp
theorem kg:(sizeLine:Nat) < 2 ^ 63:=by rw [sizeLine_eq]; decide
theorem zo:Jo X (fun x H Q => ∃ k,Er X.K x H k ∧ Q k H):= by
 intro pins s σ H x v Q I rx h
 obtain ⟨k,e,q⟩:=h
 have hl:=kg
 have hs:sizeLine = 16777216:=sizeLine_eq
 cases x with
 | non =>
  cases rx
  have e':k = false:=e
  subst e'
  exact truthy_none ⟨H,I,q⟩
 | bl b =>
  cases rx
  have e':k = b:=e
  subst e'
  exact wpAny_truthy_bool ⟨H,I,q⟩
 | int i =>
  obtain ⟨t,rfl⟩:=rx
  have e':k = (i != 0):=e
  subst e'
  exact PySem.P.truthy_int ⟨H,I,q⟩
 | str y =>
  obtain ⟨t,rfl⟩:=rx
  obtain ⟨hy,e'⟩:y.length ≤ sizeLine ∧ k = ((y.length:Int) != 0):=e
  subst e'
  exact PySem.P.truthy_str (by omega) ⟨H,I.tok _,q⟩
 | byt y =>
  obtain ⟨t,rfl⟩:=rx
  obtain ⟨hy,e'⟩:y.size ≤ sizeLine ∧ k = ((y.size:Int) != 0):=e
  subst e'
  exact PySem.W.truthy_bytes (by omega) ⟨H,I.tok _,q⟩
 | ref p =>
  cases rx
  have e':(∃ xs,iY X.K H p xs ∧ k = !xs.isEmpty) ∨ (∃ xs,i4 X.K H p xs ∧ k = !xs.isEmpty) ∨ ∃ kvs,H p = some (.dK kvs) ∧ k = !kvs.isEmpty:=e
  rcases e' with ⟨xs,hx,e'⟩ | ⟨xs,hx,e'⟩ | ⟨kvs,hx,e'⟩
  ·subst e'
   obtain ⟨its,r,pl,hz⟩:=I.list hx
   have hlen:=r.length
   exact wpAny_truthy_list pl.isList (by simp only [List.size_toArray]; omega) ⟨H,I.tok _,by rw [l9 r]; exact q⟩
  ·subst e'
   obtain ⟨its,r,pl,hz⟩:=I.tuple hx
   have hlen:=r.length
   exact truthy_tuple pl (by simp only [List.size_toArray]; omega) ⟨H,I.tok _,by rw [l9 r]; exact q⟩
  ·subst e'
   obtain ⟨hz,hS,vs,r,m⟩:kvs.length ≤ sizeLine ∧ (p == sysModules) = false ∧ ∃ vs,KV kvs vs ∧ s.heap.DictOf (pQ X.prog X.w) p vs:=I.hok p _ hx
   have hlen:kvs.length = vs.length:=Paired.length r
   exact wpAny_truthy_dict hS m (by omega) ⟨H,I.tok _,by rw [sL r]; exact q⟩
 | _ => exact (show False from e).elim
theorem zP (ha:PE X a ta) (he:∀ whole,isTrue a X.env whole = (do let v <- whole; standAt a.pos; holding [v] (truthy v))) :
  PT X a (fun σ H Q => ta σ H fun x H' => ∃ k,Er X.K x H' k ∧ Q k H'):= by
 intro pins s σ H Q I h
 exact isTrue_plain (cW (ha pins s σ H _ I h) fun v s1 ⟨x,H1,I1,r1,q1⟩ => zo pins s1 σ H1 x v Q I1 r1 q1) (he _)
theorem vals1 {x:V} {us:List Value} (r:Vals [x] us):∃ u,us = [u] ∧ RelV x u:= by
 cases r with
 | cons r1 r2 => cases r2; exact ⟨_,rfl,r1⟩
theorem vals2 {x y:V} {us:List Value} (r:Vals [x,y] us):∃ u w',us = [u,w'] ∧ RelV x u ∧ RelV y w':= by
 cases r with
 | cons r1 r2 =>
  cases r2 with
  | cons r3 r4 => cases r4; exact ⟨_,_,rfl,r1,r3⟩
theorem vV (hc:X.calm = true):d4 X (.builtin "max") (fun xs H Q => ∃ i j,xs = [.int i,.int j] ∧ Q (.int (if j > i then j else i)) H):= by
 intro pins s σ H xs us Q I r h
 obtain ⟨i,j,rfl,q⟩:=h
 obtain ⟨u,w',rfl,⟨t,rfl⟩,⟨t',rfl⟩⟩:=vals2 r
 refine max_two_ints (I.ok.hd hc) fun h' tk k => ⟨_,H,I.kept k,?_,q⟩
 by_cases hj:j > i
 ·rw [if_pos hj,if_pos hj]; exact ⟨_,rfl⟩
 ·rw [if_neg hj,if_neg hj]; exact ⟨_,rfl⟩
theorem vN (hc:X.calm = true):d4 X (.builtin "min") (fun xs H Q => ∃ i j,xs = [.int i,.int j] ∧ Q (.int (if j < i then j else i)) H):= by
 intro pins s σ H xs us Q I r h
 obtain ⟨i,j,rfl,q⟩:=h
 obtain ⟨u,w',rfl,⟨t,rfl⟩,⟨t',rfl⟩⟩:=vals2 r
 refine min_two_ints (I.ok.hd hc) fun h' tk k => ⟨_,H,I.kept k,?_,q⟩
 by_cases hj:j < i
 ·rw [if_pos hj,if_pos hj]; exact ⟨_,rfl⟩
 ·rw [if_neg hj,if_neg hj]; exact ⟨_,rfl⟩
theorem vW:d4 X (.type "int") (fun xs H Q => (∃ i,xs = [.int i] ∧ Q (.int i) H) ∨ ∃ k,xs = [.bl k] ∧ Q (.int (if k then 1 else 0)) H):= by
 intro pins s σ H xs us Q I r h
 rcases h with ⟨i,rfl,q⟩ | ⟨k,rfl,q⟩
 ·obtain ⟨u,rfl,t,rfl⟩:=vals1 r
  exact call_int_int ⟨.int i,H,I,⟨_,rfl⟩,q⟩
 ·obtain ⟨u,rfl,r1⟩:=vals1 r
  cases r1
  exact call_int_bool ⟨.int (if k then 1 else 0),H,I.tok _,⟨_,rfl⟩,q⟩
theorem q_:d4 X (.builtin "divmod") (fun xs H Q => ∃ i j,xs = [.int i,.int j] ∧ Ff i j ∧ ∀ p,H p = none -> Q (.ref p) (upd H p (.tup [.int (i / j),.int (i % j)]))):= by
 intro pins s σ H xs us Q I r h
 obtain ⟨i,j,rfl,⟨h1,h2⟩,q⟩:=h
 obtain ⟨u,w',rfl,⟨t,rfl⟩,⟨t',rfl⟩⟩:=vals2 r
 refine divmod_int (by omega) ?_ (.inl (PyProof.noPylong_small (by omega)))
 rw [Int.fdiv_eq_ediv_of_nonneg i (by omega),Int.fmod_eq_emod_of_nonneg i (by omega)]
 have hn:H s.heap.objs.size = none:=I.hok.fresh (Nat.le_refl _)
 refine ⟨.ref s.heap.objs.size,_,?_,rfl,q _ hn⟩
 refine I.laid (fun b o e => Heap.get?_push_of_some _ e) (Nat.le_refl _) ⟨by simp only [List.length_cons,List.length_nil]; rw [sizeLine_eq]; decide,[.int (i / j) s.toks,.int (i % j) (s.toks + 1)],.cons ⟨_,rfl⟩ (.cons ⟨_,rfl⟩ .nil),?_⟩
 exact ⟨_,Heap.get?_push_size s.heap rfl,rfl,0,rfl⟩
end
end L2
namespace L2
open PySem PySem.Spec PyProof.Rows
section
variable {prog:Program} {w:World} {A:Around} {E:Value -> Shared -> Prop} {s:Shared} {K:PySem.W.Frag} {x dx C f:Addr} {mA:Str -> Option Value} {name:Str} {v:Value}
end
section
variable {P:Program} {w:World} {H H':Hp} {h h':Heap} {a C dx:Addr} {fs fs':List (Str × V)}
end
section
variable {X:Cx} {pins:List (Addr × Obj)} {σ:St} {H:Hp} {s:Shared} {a C dx:Addr} {fs:List (Str × V)} {f:Str} {v:V} {A:Around} {E:Value -> Shared -> Prop}
end
section
variable {X:Cx} {o e value:Expr} {f:Str} {pos pos' tpos:Pos} {ta tv:TE}
end
section
variable {X:Cx} {pins:List (Addr × Obj)} {σ:St} {H:Hp} {s:Shared} {A:Around} {E:Value -> Shared -> Prop} {Q:Value -> Shared -> Prop} {c:Value} {b:Bool}
end
end L2
namespace L2
open PySem PySem.Spec PyProof.Rows
structure c5 (k:Nat) (A:Around):Prop where
 hd:A.handled = none
 dp:A.depth + 3 * k + 5 < recursionLimit
 un:A.units + 16 * k + 200 < cLine
 gd:A.guards = some []
theorem c5.mono {j k:Nat} {A:Around} (r:c5 k A) (h:j ≤ k):c5 j A:=⟨r.hd,by have:=r.dp; omega,by have:=r.un; omega,r.gd⟩
theorem c5.deeper {k:Nat} {A:Around} (r:c5 (k + 1) A) (env:Env):c5 k (A.deeper env) :=
 ⟨r.hd,by have:=r.dp; show A.depth + 1 + 3 * k + 5 < _; omega,by have:=r.un; show A.units + 3 + 16 * k + 200 < _; omega,r.gd⟩
theorem c5.depth {k:Nat} {A:Around} (r:c5 k A):A.depth < recursionLimit:=by have:=r.dp; omega
def Jj:TA:=fun _ H Q => Q [] H
def GU (ta:TE) (tr:TA):TA:=fun σ H Q => ta σ H fun x H1 => tr σ H1 fun xs H2 => Q (x :: xs) H2
section
variable {X:Cx} {e:Expr} {es:List Expr} {te:TE} {t:TA} {pos:Pos}
theorem ir:PA X [] Jj:=fun _ _ _ _ H Q I h => Calls.spliced_nil ⟨[],H,I,.nil,h⟩
theorem er (ha:PE X e te) (hr:PA X es t) (hs:starEach (e :: es) X.env = (false,eval e X.env) :: starEach es X.env:=by rfl):PA X (e :: es) (GU te t):= by
 intro pos pins s σ H Q I h
 rw [hs]
 show wpAny _ _ (spliced ((false,eval e X.env) :: backTo pos (starEach es X.env))) _ _ s
 refine Calls.spliced_cons (cW (ha pins s σ H _ I h) fun u s1 ⟨x,H1,I1,r1,q1⟩ => ?_)
 exact cW (hr pos pins s1 σ H1 _ I1 q1) fun us s2 ⟨xs,H2,I2,r2,q2⟩ => ⟨x :: xs,H2,I2,.cons r1 r2,q2⟩
def JH (t:TA):TE:=fun σ H Q => t σ H fun xs H1 => xs.length ≤ sizeLine ∧ ∀ p,H1 p = none -> Q (.ref p) (upd H1 p (.tup xs))
def JB (t:TA):TE:=fun σ H Q => t σ H fun xs H1 => xs.length ≤ sizeLine ∧ ∀ p,H1 p = none -> Q (.ref p) (upd H1 p (.lst xs))
theorem Eb {x1} (h:PA X es t):PE X (.Tuple es x1 pos) (JH t):= by
 intro pins s σ H Q I hq
 refine wpAny_Tuple_spliced (cW (h pos pins s σ H _ I hq) fun us s1 ⟨xs,H1,I1,r,z,q⟩ => ⟨by rw [<- r.length]; exact z,?_⟩)
 have hf:H1 s1.heap.objs.size = none:=I1.hok.fresh (Nat.le_refl _)
 refine ⟨.ref s1.heap.objs.size,upd H1 s1.heap.objs.size (.tup xs),I1.laid (t':=s1.toks) (fun b u e => Heap.get?_push_of_some _ e) (Nat.le_refl _) ?_,rfl,q _ hf⟩
 exact ⟨z,us,r,⟨_,Heap.get?_push_size _ rfl,rfl,_,rfl⟩⟩
theorem DY (h:PA X es t):PE X (.List es pos) (JB t):= by
 intro pins s σ H Q I hq
 refine wpAny_List_spliced (cW (h pos pins s σ H _ I hq) fun us s1 ⟨xs,H1,I1,r,z,q⟩ => ⟨by rw [<- r.length]; exact z,?_⟩)
 have hf:H1 s1.heap.objs.size = none:=I1.hok.fresh (Nat.le_refl _)
 refine ⟨.ref s1.heap.objs.size,upd H1 s1.heap.objs.size (.lst xs),I1.laid (t':=s1.toks) (fun b u e => Heap.get?_push_of_some _ e) (Nat.le_refl _) ?_,rfl,q _ hf⟩
 exact ⟨z,us,0,r,Heap.get?_push_size _ rfl⟩
end
abbrev Sp:=List V -> Hp -> VK -> XK -> Prop
abbrev sv:=List Env -> Hp -> Shared -> XK -> Value -> Shared -> Prop
structure Bz (P:Program) (w:World) (K:PySem.W.Frag) (mg:Str -> Option Value) (base:Heap) (A:Around) (outer:List Env) (s:Shared) (H:Hp):Prop where
 frames:A.frames = some outer
 mod:Mod K mg base
 bs:∀ b o,base.get? b = some o -> s.heap.get? b = some o ∧ H b = none
 bsz:base.objs.size ≤ s.heap.objs.size
 funs:s.heap.FunFrames base outer
 frf:∀ b ∈ wQ outer,H b = none
 hok:mL P w H s.heap
 bare:AllBare s.gens
def CE (outer:List Env) (P:Program) (w:World) (H:Hp) (s:Shared) (Q:VK) (u:Value) (s':Shared):Prop :=
 ∃ v H',s'.os = s.os ∧ AllBare s'.gens ∧ Un (wQ outer) [] H H' s.heap s'.heap ∧ mL P w H' s'.heap ∧ RelV v u ∧ Q v H'
def CR (CX:sv) (outer:List Env) (P:Program) (w:World) (H:Hp) (s:Shared) (Q:VK) (E:XK) (r:Result) (s':Shared):Prop :=
 match r with
 | .ok (.ret u) => CE outer P w H s Q u s'
 | .ok _ => False
 | .error e => CX outer H s E e s'
structure d7 (P:Program) (w:World) (K:PySem.W.Frag) (mg:Str -> Option Value) (base:Heap) (CX:sv) (k:Nat) (f:Addr) (fd:FuncData) (ps:List Str) (sp:Sp):Prop where
 len:∀ vs H Q E,sp vs H Q E -> vs.length = ps.length
 run:∀ (A:Around) (outer:List Env) (s:Shared) (H:Hp) (args:Args) (us:List Value) (vs:List V) (Q:VK) (E:XK),c5 k A -> Bz P w K mg base A outer s H -> BindsTo s fd args (ps.zip us) -> Vals vs us -> sp vs H Q E ->
  codeAny (model P w) A (.call (.ref f) args) (CR CX outer P w H s Q E) s
theorem d7.mono {P:Program} {w:World} {K:PySem.W.Frag} {mg:Str -> Option Value} {base:Heap} {CX:sv} {j k:Nat} {f:Addr} {fd:FuncData} {ps:List Str} {sp:Sp} (F:d7 P w K mg base CX j f fd ps sp) (h:j ≤ k) :
  d7 P w K mg base CX k f fd ps sp:=⟨F.len,fun A outer s H args us vs Q E hr => F.run A outer s H args us vs Q E (hr.mono h)⟩
theorem d7.imp {P:Program} {w:World} {K:PySem.W.Frag} {mg:Str -> Option Value} {base:Heap} {CX:sv} {k:Nat} {f:Addr} {fd:FuncData} {ps:List Str} {sp sp':Sp} (F:d7 P w K mg base CX k f fd ps sp)
  (h:∀ vs H Q E,sp' vs H Q E -> sp vs H Q E):d7 P w K mg base CX k f fd ps sp' :=
 ⟨fun vs H Q E q => F.len vs H Q E (h _ _ _ _ q),fun A outer s H args us vs Q E hr he hb hv hs => F.run A outer s H args us vs Q E hr he hb hv (h _ _ _ _ hs)⟩
section
variable {X:Cx} {pins:List (Addr × Obj)} {σ:St} {H:Hp} {s s':Shared}
theorem Inv.env0 (I:Inv X pins σ H s):Bz X.prog X.w X.K X.mg X.base X.A X.stack s H :=
 ⟨I.ok.frames,I.ok.mod,I.bs,Nat.le_trans I.ok.bsz I.sz,I.stack,I.stkFree,I.hok,I.bare⟩
theorem Inv.after {Q:VK} {u:Value} (I:Inv X pins σ H s) (h:CE X.stack X.prog X.w H s Q u s'):EP X pins σ Q u s':= by
 obtain ⟨v,H',os,bare,un,hok,r,q⟩:=h
 obtain ⟨hh,g,d,t,os'⟩:=s'
 obtain rfl:os' = s.os:=os
 exact ⟨v,H',I.call (h':=hh) (g':=g) (d':=d) (t':=t) (ch:=[]) un hok bare (fun b z => absurd z (by simp)),r,q⟩
end
def Hr (sp:Sp) (dvs:List V) (E:XK) (t:TA):TE:=fun σ H Q => t σ H fun vs H1 => sp (vs ++ dvs) H1 Q E
def Binds (K:PySem.W.Frag) (fd:FuncData) (ps:List Str) (ds:List Value):Prop :=
 ∀ (s:Shared) (us:List Value),K.In s.heap -> (us ++ ds).length = ps.length -> BindsTo s fd ⟨us,[]⟩ (ps.zip (us ++ ds))
theorem Binds.all {K:PySem.W.Frag} {fd:FuncData} {ps:List Str} (h:∀ us:List Value,us.length = ps.length -> bindArgs fd ⟨us,[]⟩ = pure (ps.zip us)):Binds K fd ps []:=fun s us _ hl => by
 rw [List.append_nil] at hl ⊢
 exact .of_eq (h us hl)
def Passes (CX:sv) (X:Cx) (E:XK):Prop:=∀ (pins:List (Addr × Obj)) (σ:St) (H:Hp) (s:Shared) (e:Value) (s':Shared),Inv X pins σ H s -> CX X.stack H s E e s' -> X.xe e s'
section
variable {X:Cx} {CX:sv} {k:Nat} {f C:Addr} {fd:FuncData} {ps:List Str} {sp:Sp} {dvs:List V} {ds:List Value} {E:XK} {x m:Str} {p pos apos:Pos} {e o:Expr} {es:List Expr} {ta:TE} {t:TA}
theorem ES {pins:List (Addr × Obj)} {σ:St} {H:Hp} {s:Shared} {Q:VK} {us:List Value} {vs:List V} (F:d7 X.prog X.w X.K X.mg X.base CX k f fd ps sp) (hr:c5 k X.A) (hb:Binds X.K fd ps ds) (hd:Vals dvs ds) (hx:Passes CX X E)
  (I:Inv X pins σ H s) (r:Vals vs us) (h:sp (vs ++ dvs) H Q E):wpAny (model X.prog X.w) X.A (call (.ref f) us) (EP X pins σ Q) X.xe s:= by
 have r2:Vals (vs ++ dvs) (us ++ ds):=r.append hd
 have hl:(us ++ ds).length = ps.length:=by rw [<- r2.length]; exact F.len _ _ _ _ h
 refine wpAny_call (codeAny_mono (F.run X.A X.stack s H ⟨us,[]⟩ (us ++ ds) (vs ++ dvs) Q E hr I.env0 (hb s us I.kIn hl) r2 h) fun r s' hq => ?_)
 cases r with
 | error e => exact hx pins σ H s e s' I hq
 | ok fl =>
  cases fl with
  | ret u => exact I.after hq
  | next => exact False.elim hq
  | brk => exact False.elim hq
  | cont => exact False.elim hq
theorem pF (F:d7 X.prog X.w X.K X.mg X.base CX k f fd ps sp) (hr:c5 k X.A) (hg:Gl X x) (hm:X.mg x = some (.ref f)) (hk:PySem.W.keepIn X.K (.ref f) = true) (hb:Binds X.K fd ps ds) (hd:Vals dvs ds) (hx:Passes CX X E)
  (ha:PA X (e :: es) t) (hdb:(x == ("__debug__":Str)) = false:=by decide) (he:starEach (e :: es) X.env = (false,eval e X.env) :: starEach es X.env:=by rfl) (hpl:(backTo pos (starEach es X.env)).any (·.1) = false:=by rfl) :
  PE X (.Call (.Name x p) (e :: es) [] pos) (Hr sp dvs E t):= by
 intro pins s σ H Q I h
 refine wpAny_Call_Name_kw (uw I hg hm ?_ hdb)
 refine PySem.W.callWith_K (h₀:=X.base) I.ok.mod.kin hk (cW (ha pos pins s σ H _ I h) fun us s1 ⟨vs,H1,I1,r,q⟩ => ⟨I1.kIn,?_⟩) he hpl
 exact ES F hr hb hd hx I1 r q
structure Mk (K:PySem.W.Frag) (C f:Addr):Prop where
 makes:PySem.W.makesIn K C = true
 init:PySem.W.findIn K (.ref C) "__init__" = some (some (.ref f))
 fn:PySem.W.isFn K (.ref f) = true
 kp:PySem.W.keepIn K (.ref C) = true
end
section
variable {X:Cx} {CX:sv} {k:Nat} {f C:Addr} {fd:FuncData} {ps ks:List Str} {sp:Sp} {E:XK} {x m:Str} {p pos apos kpos:Pos} {e o:Expr} {es:List Expr} {kws:List Keyword} {te ta:TE} {t tk:TA} {nm:Option Str}
variable {g:List Value -> List Value -> List Value} {gV:List V -> List V -> List V}
end
structure aH (N P:List Str) (sc:Scope):Prop where
 kind:sc.kind = .function
 co:sc.isCoroutine = false
 gen:sc.isGenerator = false
 nd:N.Nodup
 pre:N.take P.length = P
 par:∀ x ∈ P,sc.names.lookup x = some .local ∨ sc.names.lookup x = some .cell
 nofree:∀ y ∈ sc.names,y.2 ≠ .free
theorem oI {kindOf:Str -> Option NameKind} {x:Str}:∀ {binds:List (Str × Value)} {m:Str -> Option Value},(∀ v,(x,v) ∉ binds) -> bindL kindOf binds m x = m x
 | [],_,_ => rfl
 | (n,v) :: r,m,h => by
  unfold bindL
  rw [oI fun w hw => h w (List.mem_cons_of_mem _ hw)]
  split
  ·have:x ≠ n:=by rintro rfl; exact h v List.mem_cons_self
   simp [this]
  ·rfl
theorem oz {kindOf:Str -> Option NameKind} {x:Str}:∀ {binds:List (Str × Value)} {m:Str -> Option Value},(∀ v,(x,v) ∉ binds) -> bindC kindOf binds m x = m x
 | [],_,_ => rfl
 | (n,v) :: r,m,h => by
  unfold bindC
  rw [oz fun w hw => h w (List.mem_cons_of_mem _ hw)]
  split
  ·rfl
  ·have:x ≠ n:=by rintro rfl; exact h v List.mem_cons_self
   simp [this]
theorem ox {kindOf:Str -> Option NameKind} {x:Str} {v:Value}:∀ {P:List Str} {vs:List Value} {i:Nat} {m:Str -> Option Value},P.Nodup -> P[i]? = some x -> vs[i]? = some v -> kindOf x = some .local ->
  bindL kindOf (P.zip vs) m x = some v
 | [],_,_,_,_,h,_,_ => by simp at h
 | _ :: _,[],_,_,_,_,h,_ => by simp at h
 | p :: P,w :: vs,0,m,nd,h1,h2,hk => by
  simp at h1 h2; subst h1; subst h2
  show bindL kindOf ((p,w) :: P.zip vs) m p = _
  unfold bindL
  rw [oI fun v hv => (List.nodup_cons.mp nd).1 (List.of_mem_zip hv).1,if_pos hk]
  simp
 | p :: P,w :: vs,i + 1,m,nd,h1,h2,hk => by
  show bindL kindOf ((p,w) :: P.zip vs) m x = _
  unfold bindL
  exact ox (i:=i) (List.nodup_cons.mp nd).2 (by simpa using h1) (by simpa using h2) hk
theorem oB {kindOf:Str -> Option NameKind} {x:Str} {v:Value}:∀ {P:List Str} {vs:List Value} {i:Nat} {m:Str -> Option Value},P.Nodup -> P[i]? = some x -> vs[i]? = some v -> kindOf x ≠ some .local ->
  bindC kindOf (P.zip vs) m x = some v
 | [],_,_,_,_,h,_,_ => by simp at h
 | _ :: _,[],_,_,_,_,h,_ => by simp at h
 | p :: P,w :: vs,0,m,nd,h1,h2,hk => by
  simp at h1 h2; subst h1; subst h2
  show bindC kindOf ((p,w) :: P.zip vs) m p = _
  unfold bindC
  rw [oz fun v hv => (List.nodup_cons.mp nd).1 (List.of_mem_zip hv).1,if_neg hk]
  simp
 | p :: P,w :: vs,i + 1,m,nd,h1,h2,hk => by
  show bindC kindOf ((p,w) :: P.zip vs) m x = _
  unfold bindC
  exact oB (i:=i) (List.nodup_cons.mp nd).2 (by simpa using h1) (by simpa using h2) hk
def start (N:List Str) (vs:List V):St:=vs.map some ++ List.replicate (N.length - vs.length) none
def jW (CX:sv) (P:Program) (w:World) (K:PySem.W.Frag) (mg:Str -> Option Value) (base:Heap) (N:List Str) (qual:Str) (scope:Scope) (f:Addr) (cd:Value) (A:Around) (outer:List Env) (s:Shared) (H:Hp) (E:XK):Cx where
 prog:=P
 w:=w
 K:=K
 mg:=mg
 base:=base
 A:=A.deeper (envOfC qual scope s.heap.objs.size f cd)
 N:=N
 s₀:=s
 H₀:=H
 env:=envOfC qual scope s.heap.objs.size f cd
 outer:=outer
 stack:=envOfC qual scope s.heap.objs.size f cd :: outer
 ex:=[]
 calm:=true
 fn:=fun _ => true
 pn:=[]
 xe:=fun e s' => wpAny (model P w) (A.deeper (envOfC qual scope s.heap.objs.size f cd)) (leaving (envOfC qual scope s.heap.objs.size f cd) e) (fun _ s'' => CX outer H s E e s'') (fun e' s'' => CX outer H s E e' s'') s'
theorem r6 {sc:Scope} {n:Nat} {x:Str} (h:sc.names.lookup x = some .cell):∃ c,(cellsFrom n sc.names []).lookup x = some c:= by
 have q:=PySem.W.cellsFrom_some sc.names n [] (.inl h)
 exact Option.isSome_iff_exists.mp q
theorem vE {CX:sv} {P:Program} {w:World} {K:PySem.W.Frag} {mg:Str -> Option Value} {base:Heap} {N ps:List Str} {qual:Str} {scope:Scope} {f:Addr} {cd:Value} {A:Around} {outer:List Env} {s s1:Shared} {H:Hp} {E:XK} {us:List Value} {vs:List V}
  (S:aH N ps scope) (hd:A.handled = none) (e0:Bz P w K mg base A outer s H) (hl:vs.length = ps.length) (r:Vals vs us)
  (x:InCallC s s.heap.objs.size (bindL (envOfC qual scope s.heap.objs.size f cd).kindOf (ps.zip us) fun _ => none) (cellsFrom (s.heap.objs.size + 1) scope.names []) (bindC (envOfC qual scope s.heap.objs.size f cd).kindOf (ps.zip us) fun _ => none) s1) :
  Inv (jW CX P w K mg base N qual scope f cd A outer s H E) [] (start N vs) H s1:= by
 have hpl:ps.length ≤ N.length:=by have:=congrArg List.length S.pre; rw [List.length_take] at this; omega
 obtain ⟨h1,tk,rfl,hk⟩:=x.done
 have noA:∀ b:Addr,b ∉ (jW CX P w K mg base N qual scope f cd A outer s H E).ex:=fun b z => absurd (show b ∈ ([]:List Addr) from z) (by simp)
 refine ⟨⟨e0.mod,S.kind,rfl,rfl,Nat.le_refl _,fun y z c h1 h2 => ?_,fun y hy => ?_,fun y c _ h => ?_,fun _ => hd,Around.frames_deeper e0.frames,.inr ⟨rfl,rfl⟩,fun b z => absurd z (noA b),e0.bs,e0.bsz,fun b _ _ => noA b,fun b z => absurd z (noA b),e0.funs,e0.frf⟩,
  rfl,e0.bare,Un.kept hk,⟨_,x.toInCall.ns,fun i y v h1 h2 h3 => ?_⟩,fun y c h => ⟨_,x.cell y c h⟩,e0.hok.fresh (Nat.le_refl _),fun y c h => ?_,fun p hp => absurd (show p ∈ ([]:List (Addr × Obj)) from hp) (by simp),e0.hok.kept hk,?_⟩
 ·exact name_of_addr x.apart (PySem.mem_of_lookup h1) (PySem.mem_of_lookup h2)
 ·have hy:scope.names.lookup y = some .cell ∨ scope.names.lookup y = some .free:=hy
  rcases hy with hy | hy
  ·exact r6 hy
  ·exact absurd rfl (S.nofree _ (PySem.mem_of_lookup hy))
 ·exact Nat.le_of_lt (x.above y c (PySem.mem_of_lookup h))
 ·have hi:i < vs.length:= by
   unfold start at h2
   by_cases hi:i < vs.length
   ·exact hi
   ·rw [List.getElem?_append_right (by simpa using hi)] at h2
    rw [List.getElem?_replicate] at h2
    split at h2 <;> cases h2
  have ha:vs[i]? = some v:= by
   unfold start at h2
   rw [List.getElem?_append_left (by simpa using hi),List.getElem?_map] at h2
   cases e:vs[i]? with
   | none => rw [e] at h2; cases h2
   | some a => rw [e] at h2; cases h2; rfl
  obtain ⟨u,hu,rv⟩:=r.get ha
  have hp:ps[i]? = some y:= by
   rw [<- S.pre,List.getElem?_take_of_lt (by omega)]; exact h1
  have ndP:ps.Nodup:=by rw [<- S.pre]; exact S.nd.sublist (List.take_sublist _ _)
  refine ⟨u,rv,?_⟩
  rcases S.par y (List.mem_of_getElem? hp) with k | k
  ·exact .inl ⟨k,ox ndP hp hu k⟩
  ·obtain ⟨c,e⟩:=r6 (n:=s.heap.objs.size + 1) k
   refine .inr ⟨.inl k,c,e,?_⟩
   have q:=x.cell y c e
   rw [oB ndP hp hu (by show scope.names.lookup y ≠ _; rw [k]; decide)] at q
   exact q
 ·exact e0.hok.fresh (Nat.le_of_lt (x.above y c (PySem.mem_of_lookup h)))
 ·unfold start
  show _ = N.length
  rw [List.length_append,List.length_map,List.length_replicate]
  omega
theorem Iv {CX:sv} {P:Program} {w:World} {K:PySem.W.Frag} {mg:Str -> Option Value} {base:Heap} {k:Nat} {f:Addr} {name qual:Str} {params:Arguments} {body:List Stmt} {scope:Scope} {dV kV doc pm cdv ct oc:Value} {an od:Option Addr}
  {osl:Array (Option Value)} {N ps:List Str} {sp:Sp} (lk:K.lookup f = some ⟨oc,od,.func (PySem.W.fnOf name qual params body scope dV kV doc pm an cdv ct),osl⟩) (hcd:PySem.W.codeIn K cdv qual = true) (S:aH N ps scope)
  (len:∀ vs H Q E,sp vs H Q E -> vs.length = ps.length)
  (hbody:∀ (A:Around) (outer:List Env) (s:Shared) (H:Hp) (vs:List V) (Q:VK) (E:XK),c5 k (A.deeper (envOfC qual scope s.heap.objs.size f cdv)) -> sp vs H Q E ->
   ∃ t,sA (jW CX P w K mg base N qual scope f cdv A outer s H E) body t ∧ t { nx:=fun _ H' => Q .non H',rt:=Q } (start N vs) H) :
  d7 P w K mg base CX (k + 1) f (PySem.W.fnOf name qual params body scope dV kV doc pm an cdv ct) ps sp:= by
 refine ⟨len,fun A outer s H args us vs Q E hr e0 hb r hsp => ?_⟩
 have hl:=len _ _ _ _ hsp
 have KX:K.In s.heap:=e0.mod.kin.keeps fun b o e => (e0.bs b o e).1
 have lim:s.heap.NoLimit:=e0.mod.nolimit.keeps fun b o e => (e0.bs b o e).1
 have hkind:∀ y ∈ ps.zip us,scope.names.lookup y.1 = some .local ∨ (scope.names.lookup y.1 = some .cell ∧ ((cellsFrom (s.heap.objs.size + 1) scope.names []).lookup y.1).isSome = true):=fun ⟨n,v⟩ hy => by
  rcases S.par n (List.of_mem_zip hy).1 with q | q
  ·exact .inl q
  ·exact .inr ⟨q,PySem.W.cellsFrom_some _ _ _ (.inl q)⟩
 refine codeAny_call_function hr.depth (KX _ _ lk) rfl S.co S.gen rfl (PySem.W.codeRec_of KX hcd) (hb _ _ _ _ ?_)
 refine wpAny_newFunctionEnv_cells S.kind hkind fun env he s1 x => ?_
 subst he
 refine ⟨lim.keeps x.toInCall.keep,codeAny_func ?_⟩
 obtain ⟨t,ht,hq⟩:=hbody A outer s H vs Q E (hr.deeper _) hsp
 have I:Inv (jW CX P w K mg base N qual scope f cdv A outer s H E) [] (start N vs) H s1:=vE S hr.hd e0 hl r x
 refine wpAny_mono (ht [] s1 (start N vs) H _ I hq) (fun fl s' hs => ?_) fun e s' hs => hs
 have fin:∀ {σ':St} {H':Hp} {v:V} {u:Value},Inv (jW CX P w K mg base N qual scope f cdv A outer s H E) [] σ' H' s' -> RelV v u -> Q v H' -> CE outer P w H s Q u s' :=
  fun {σ' H' v u} J rv q => ⟨v,H',J.os,J.bare,J.base,J.hok,rv,q⟩
 cases fl with
 | ret u =>
  obtain ⟨v,σ',H',J,rv,q⟩:=hs
  exact fin J rv q
 | next =>
  obtain ⟨σ',H',J,q⟩:=hs
  exact fin (v:=V.non) (u:=Value.none) J rfl q
 | brk =>
  obtain ⟨_,_,_,q⟩:=hs
  exact False.elim q
 | cont =>
  obtain ⟨_,_,_,q⟩:=hs
  exact False.elim q
end L2
namespace L2
open PySem PySem.Spec PyProof.Rows
section
variable {X:Cx} {x:Str} {p pos:Pos} {e:Expr} {es:List Expr} {t:TA} {id T:String} {r:List V -> Hp -> VK -> Prop}
def IQ (r:List V -> Hp -> VK -> Prop) (t:TA):TE:=fun σ H Q => t σ H fun vs H1 => r vs H1 Q
theorem g9 (hc:d4 X (.builtin id) r) (hg:Gl X x) (hm:X.mg x = none) (hv:bootBuiltins x = some (.builtin id)) (ha:PA X (e :: es) t) (hn:x ≠ "__name__":=by decide) (hdb:(x == ("__debug__":Str)) = false:=by decide)
  (he:starEach (e :: es) X.env = (false,eval e X.env) :: starEach es X.env:=by rfl) (hpl:(backTo pos (starEach es X.env)).any (·.1) = false:=by rfl):PE X (.Call (.Name x p) (e :: es) [] pos) (IQ r t):= by
 intro pins s σ H Q I h
 refine wpAny_Call_Name_kw (fO I hg hm hv ?_ hn hdb)
 exact PyProof.Rows.callWith_builtin1 (cW (ha pos pins s σ H _ I h) fun us s1 ⟨vs,H1,I1,r1,q1⟩ => hc pins s1 σ H1 vs us Q I1 r1 q1) he hpl
theorem fX (hc:d4 X (.type T) r) (hg:Gl X x) (hm:X.mg x = none) (hv:bootBuiltins x = some (.type T)) (ha:PA X (e :: es) t) (hn:x ≠ "__name__":=by decide) (hdb:(x == ("__debug__":Str)) = false:=by decide)
  (he:starEach (e :: es) X.env = (false,eval e X.env) :: starEach es X.env:=by rfl) (hpl:(backTo pos (starEach es X.env)).any (·.1) = false:=by rfl):PE X (.Call (.Name x p) (e :: es) [] pos) (IQ r t):= by
 intro pins s σ H Q I h
 refine wpAny_Call_Name_kw (fO I hg hm hv ?_ hn hdb)
 exact PyProof.Rows.callWith_type1 (cW (ha pos pins s σ H _ I h) fun us s1 ⟨vs,H1,I1,r1,q1⟩ => hc pins s1 σ H1 vs us Q I1 r1 q1) he hpl
end
end L2
namespace HT
open PySem PyProof.Rows
section
open PySem.SeqAt
open PySem.AutoSeq1 (wpAny_loadPart')
open PySem.MeetsSeq PySem.MeetsSeq2 PySem.MeetsSeq3
end
section
variable {prog:Program} {w:World} {A:Around} {E:Value -> Shared -> Prop} {s:Shared}
theorem cat_tup {t b:Addr} {vs ws:List Value} {Q:Value -> Shared -> Prop} (ht:IsTup s.heap t vs.toArray) (hb:IsTup s.heap b ws.toArray) (hv:vs ≠ [])
  (h1:ws = [] -> Q (.ref t) s) (h2:ws ≠ [] -> Q (.ref s.heap.objs.size) { s with heap:=s.heap.push { cls:=.type "tuple",data:=.seq (vs ++ ws).toArray } })
  (hsz:vs.length + ws.length ≤ sizeLine):wpAny (model prog w) A (binaryOp .Add (.ref t) (.ref b)) Q E s:= by
 obtain ⟨⟨cls,dd,data,sl⟩,ho,hc,n,hd⟩:=id ht
 obtain ⟨⟨cls2,dd2,data2,sl2⟩,ho2,hc2,n2,hd2⟩:=id hb
 simp only at hc hd hc2 hd2
 subst hc hd hc2 hd2
 have e:vs.toArray ++ ws.toArray = (vs ++ ws).toArray:=by simp
 by_cases hw:ws = []
 ·exact concat_meets ⟨_,ho,rfl⟩ ⟨_,ho2,rfl⟩ noFill_tuple_add seq_tuple_add PySem.F.slot_tuple_add PySem.F.entry_tuple_add (PySem.F.args_tuple_add_2 _ _)
   (tuple_addW1 t b vs.toArray ws.toArray n n2 dd dd2 sl sl2 (by simpa using hv) (by simp [hw])) ⟨ho,ho2,h1 hw⟩
 ·refine concat_meets ⟨_,ho,rfl⟩ ⟨_,ho2,rfl⟩ noFill_tuple_add seq_tuple_add PySem.F.slot_tuple_add PySem.F.entry_tuple_add (PySem.F.args_tuple_add_2 _ _)
   (tuple_addW2 t b vs.toArray ws.toArray n n2 dd dd2 sl sl2 (by simpa using hv) (by simpa using hw) (by rw [List.size_toArray,List.size_toArray]; exact hsz)) ⟨ho,ho2,?_⟩
  rw [e]
  exact h2 hw
def sIx (n d:Nat):Option Int -> Nat
 | none => d
 | some v => if v < 0 then (v + (n:Int)).toNat else min v.toNat n
theorem sIx_none (n d:Nat):sIx n d none = d:=rfl
theorem sIx_nat (n d k:Nat):sIx n d (some (k:Int)) = min k n:= by
 show (if (k:Int) < 0 then ((k:Int) + (n:Int)).toNat else min (k:Int).toNat n) = min k n
 rw [if_neg (by omega),Int.toNat_natCast]
theorem FP (n d:Nat) (hd:d ≤ n) (o:Option Int):sIx n d o ≤ n:= by
 cases o with
 | none => exact hd
 | some v =>
  show (if v < 0 then (v + (n:Int)).toNat else min v.toNat n) ≤ n
  by_cases hv:v < 0
  ·rw [if_pos hv]; omega
  ·rw [if_neg hv]; exact Nat.min_le_right _ _
theorem u_ (v:Int) (n d:Nat):(if v < 0 then max (v + (n:Int)) 0 else min v (n:Int)) = ((sIx n d (some v):Nat):Int):= by
 show (if v < 0 then max (v + (n:Int)) 0 else min v (n:Int)) = (((if v < 0 then (v + (n:Int)).toNat else min v.toNat n):Nat):Int)
 by_cases hv:v < 0
 ·simp only [if_pos hv]; omega
 ·simp only [if_neg hv]; omega
theorem ui (lo hi:Option Int) (n:Nat):Builtin.Slice.sliceAdjust lo hi 1 (n:Int) = (((sIx n 0 lo:Nat):Int),((sIx n n hi:Nat):Int)):= by
 have h1:¬ ((1:Int) < 0):=by omega
 unfold Builtin.Slice.sliceAdjust
 simp only [h1,if_false]
 refine Prod.ext ?_ ?_
 ·cases lo with
  | none => rfl
  | some v => exact u_ v n 0
 ·cases hi with
  | none => rfl
  | some v => exact u_ v n n
theorem t7 (i j:Nat):Builtin.Slice.slicePlaces (i:Int) (j:Int) 1 = j - i:= by
 unfold Builtin.Slice.slicePlaces
 have h1:(1:Int) > 0:=by omega
 simp only [h1,if_true,Int.ediv_one]
 split <;> omega
theorem slicePart_ {v:Value} {o:Option Int} {Q:Option Int -> Shared -> Prop} (p:IsPart v o) (h:Q o s):wpAny (model prog w) A (Builtin.Slice.slicePartIndex v) Q E s:= by
 cases p with
 | none => exact slicePart_none h
 | int i t => exact slicePart_int h
theorem sliceApplied_gen {sl:Addr} {vl vu:Value} {lo hi:Option Int} {n:Nat} {Q:Int × Int × Nat -> Shared -> Prop} (hs:s.heap.IsSliceOf sl vl vu .none) (pl:IsPart vl lo) (pu:IsPart vu hi)
  (h:Q (((sIx n 0 lo:Nat):Int),1,sIx n n hi - sIx n 0 lo) s):wpAny (model prog w) A (Builtin.Slice.sliceApplied (.ref sl) (pure (n:Int))) Q E s:= by
 obtain ⟨os,hos,hcs,hds⟩:=id hs
 unfold Builtin.Slice.sliceApplied Builtin.Slice.sliceFields
 refine wpAny_bind (wpAny_bind (wpAny_field hos hds (x:=vl) rfl (wpAny_bind (wpAny_field hos hds (x:=vu) rfl (wpAny_bind (wpAny_field hos hds (x:=.none) rfl (wpAny_pure ?_)))))))
 refine wpAny_bind (slicePart_none ?_)
 show wpAny _ _ (if ((1:Int) == 0) = true then _ else _) _ _ s
 rw [if_neg (by decide)]
 refine wpAny_bind (slicePart_ pl (wpAny_bind (slicePart_ pu (wpAny_bind (wpAny_pure ?_)))))
 show wpAny _ _ (match Builtin.Slice.sliceAdjust lo hi 1 (n:Int) with | (lo,hi) => pure (lo,(1:Int),Builtin.Slice.slicePlaces lo hi 1)) _ _ s
 rw [ui lo hi n]
 show wpAny _ _ (pure (((sIx n 0 lo:Nat):Int),(1:Int),Builtin.Slice.slicePlaces ((sIx n 0 lo:Nat):Int) ((sIx n n hi:Nat):Int) 1)) _ _ s
 rw [t7]
 exact wpAny_pure h
theorem xu (xs:Array Value) (i k:Nat):((List.range k).filterMap fun (m:Nat) => xs[((i:Int) + (m:Int) * 1).toNat]?).toArray = ((xs.toList.drop i).take k).toArray:= by
 have e:(fun (m:Nat) => xs[((i:Int) + (m:Int) * 1).toNat]?) = fun m => xs[i + m]?:= by
  funext m
  have:((i:Int) + (m:Int) * 1).toNat = i + m:=by omega
  rw [this]
 rw [e]
 have:=pick_run xs i k
 rw [List.filterMap_map] at this
 have e2:((fun x => xs[x]?) ∘ fun x => i + x) = fun m => xs[i + m]?:=rfl
 rw [e2] at this
 rw [this]
theorem getItem_tuple_cut {t sl:Addr} {items:Array Value} {vl vu:Value} {lo hi:Option Int} {Q:Value -> Shared -> Prop} (ht:IsTup s.heap t items) (hs:s.heap.IsSliceOf sl vl vu .none) (pl:IsPart vl lo) (pu:IsPart vu hi)
  (hw:¬ (sIx items.size 0 lo = 0 ∧ sIx items.size items.size hi = items.size))
  (h:Q (.ref s.heap.objs.size) { s with heap:=s.heap.push { cls:=.type "tuple",data:=.seq ((items.toList.drop (sIx items.size 0 lo)).take (sIx items.size items.size hi - sIx items.size 0 lo)).toArray } })
  (hsz:items.size ≤ sizeLine):wpAny (model prog w) A (getItem (.ref t) (.ref sl)) Q E s:= by
 have htake:sizeOk (.seq ((items.toList.drop (sIx items.size 0 lo)).take (sIx items.size items.size hi - sIx items.size 0 lo)).toArray):= by
  show ((items.toList.drop (sIx items.size 0 lo)).take (sIx items.size items.size hi - sIx items.size 0 lo)).toArray.size ≤ sizeLine
  rw [List.size_toArray,List.length_take,List.length_drop,Array.length_toList]
  omega
 have hj:sIx items.size items.size hi ≤ items.size:=FP _ _ (Nat.le_refl _) hi
 obtain ⟨os,hos,hcs,hds⟩:=id hs
 have hTs:s.TypeIs (.ref sl) "slice":=⟨os,hos,hcs⟩
 unfold getItem
 try with_reducible refine wpAny_holding ?_
 first | refine wpAny_bind (wpAny_pure ?_) | skip
 refine wpAny_bind (wpAny_sequenceKey ht.typeIs (by decide) ?_)
 refine wpAny_bind (wpAny_callSpecial?_slot (name:=Str.ofString "__getitem__") ht.typeIs PyProof.Rows.slot_tuple_getitem
  (wpAny_call_entry PyProof.Rows.slot_tuple_getitem ht.typeIs entry_tuple_getitem ?_ (args_tuple_getitem _ _)))
 show wpAny _ _ (Builtin.Tuple.tupleItemsOf (.ref t) >>= _) _ _ s
 refine wpAny_bind (tupleItemsOf_ ht ?_)
 refine wpAny_bind (wpAny_typeOf hTs ?_)
 rw [if_pos (by decide)]
 refine wpAny_bind (sliceApplied_gen hs pl pu ?_)
 have hno:¬ ((((sIx items.size 0 lo:Nat):Int) == 0 && (1:Int) == 1 && (sIx items.size items.size hi - sIx items.size 0 lo) == items.size) = true):= by
  intro q
  rw [Bool.and_eq_true,Bool.and_eq_true] at q
  have q1:((sIx items.size 0 lo:Nat):Int) = 0:=eq_of_beq q.1.1
  have q2:sIx items.size items.size hi - sIx items.size 0 lo = items.size:=eq_of_beq q.2
  exact hw ⟨by omega,by omega⟩
 show wpAny _ _ (if (((sIx items.size 0 lo:Nat):Int) == 0 && (1:Int) == 1 && (sIx items.size items.size hi - sIx items.size 0 lo) == items.size) = true then _ else _) _ _ s
 rw [if_neg hno,xu]
 first
  | exact wpAny_bind (m:=Builtin.Tuple.tupleExact _) (wpAny_newObj_type (wpAny_pure ⟨_,rfl,wpAny_pure h⟩) htake)
  | exact wpAny_bind (m:=Builtin.Tuple.tupleExact _) (wpAny_newObj_type (wpAny_bind (wpAny_pure (wpAny_pure ⟨_,rfl,wpAny_pure h⟩))) htake)
  | exact wpAny_bind (wpAny_bind (m:=Builtin.Tuple.tupleExact _) (wpAny_newObj_type (wpAny_pure (wpAny_pure ⟨_,rfl,wpAny_pure h⟩)) htake))
  | exact wpAny_bind (wpAny_bind (m:=Builtin.Tuple.tupleExact _) (wpAny_newObj_type (wpAny_pure ⟨_,rfl,wpAny_pure h⟩) htake))
end
end HT
namespace L2
open PySem PySem.Spec PyProof.Rows
abbrev TO:=St -> Hp -> (Option Int -> Hp -> Prop) -> Prop
def PO (X:Cx) (e:Option Expr) (t:TO):Prop :=
 ∀ (pins:List (Addr × Obj)) (s:Shared) (σ:St) (H:Hp) (Q:Option Int -> Hp -> Prop),Inv X pins σ H s -> t σ H Q ->
  wpAny (model X.prog X.w) X.A (evalPart e X.env) (fun u s' => ∃ o H',Inv X pins σ H' s' ∧ IsPart u o ∧ Q o H') X.xe s
def AY:TO:=fun _ H Q => Q none H
def Il (t:TE):TO:=fun σ H Q => t σ H fun x H1 => ∃ i,x = .int i ∧ Q (some i) H1
theorem intsAre_of {ns:List Int}:∀ {us:List Value},Vals (ns.map V.int) us -> IntsAre us ns:= by
 induction ns with
 | nil => intro us r; rw [List.map_nil] at r; cases r; exact .nil
 | cons n ns ih =>
  intro us r
  rw [List.map_cons] at r
  cases r with
  | cons r1 r2 =>
   obtain ⟨t,e⟩:=r1
   subst e
   exact .cons n t (ih r2)
section
variable {X:Cx} {e:Expr} {te:TE} {lo hi:Option Expr} {tl th:TO} {pos p2:Pos}
theorem Bl:PO X none AY:= by
 intro pins s σ H Q I h
 rw [evalPart_none]
 exact wpAny_pure ⟨none,H,I,.none,h⟩
theorem Cm (h:PE X e te):PO X (some e) (Il te):= by
 intro pins s σ H Q I hw
 rw [evalPart_some]
 refine cW (h pins s σ H _ I hw) fun u s1 ⟨x,H1,I1,r1,q1⟩ => ?_
 obtain ⟨i,rfl,q⟩:=q1
 obtain ⟨t,rfl⟩:=r1
 exact ⟨some i,H1,I1,.int i t,q⟩
def C_ (X:Cx) (r:V -> Option Int -> Option Int -> Hp -> VK -> Prop):Prop :=
 ∀ (pins:List (Addr × Obj)) (s:Shared) (σ:St) (H:Hp) (x:V) (v vl vu:Value) (lo hi:Option Int) (sl:Addr) (Q:VK),Inv X pins σ H s -> RelV x v -> s.heap.IsSliceOf sl vl vu .none -> IsPart vl lo -> IsPart vu hi -> r x lo hi H Q ->
  ∃ T id,typeLookup (.type T) "__getitem__" = pure (some (.builtin id)) ∧ s.TypeIs v T ∧ wpAny (model X.prog X.w) X.A (getItem v (.ref sl)) (EP X pins σ Q) X.xe s
theorem C_.or {r r':V -> Option Int -> Option Int -> Hp -> VK -> Prop} (h:C_ X r) (h':C_ X r'):C_ X (fun x lo hi H Q => r x lo hi H Q ∨ r' x lo hi H Q):= by
 intro pins s σ H x v vl vu lo hi sl Q I rx hs pl pu q
 rcases q with q | q
 ·exact h pins s σ H x v vl vu lo hi sl Q I rx hs pl pu q
 ·exact h' pins s σ H x v vl vu lo hi sl Q I rx hs pl pu q
def Kf (r:V -> Option Int -> Option Int -> Hp -> VK -> Prop) (te:TE) (tl th:TO):TE:=fun σ H Q => te σ H fun x H1 => tl σ H1 fun l H2 => th σ H2 fun u H3 => r x l u H3 Q
theorem yh {r:V -> Option Int -> Option Int -> Hp -> VK -> Prop} (hr:C_ X r) (he:PE X e te) (hl:PO X lo tl) (hu:PO X hi th):PE X (.Subscript e (.Slice lo hi none p2) pos) (Kf r te tl th):= by
 intro pins s σ H Q I h
 refine Subscript_ (cW (he pins s σ H _ I h) fun v s1 ⟨x,H1,I1,r1,q1⟩ => ?_)
 refine wpAny_Slice (cW (hl pins s1 σ H1 _ I1 q1) fun vl s2 ⟨l,H2,I2,pl,q2⟩ => cW (hu pins s2 σ H2 _ I2 q2) fun vu s3 ⟨u,H3,I3,pu,q3⟩ => ?_)
 rw [evalPart_none]
 refine wpAny_pure ?_
 have I4:Inv X pins σ H3 { s3 with heap:=s3.heap.push { cls:=.type "slice",data:=.fields #[vl,vu,.none] } }:=I3.kept (t':=s3.toks) fun b ob q => Heap.get?_push_of_some _ q
 obtain ⟨T,id,hT,ht,hg⟩:=hr pins { s3 with heap:=s3.heap.push { cls:=.type "slice",data:=.fields #[vl,vu,.none] } } σ H3 x v vl vu l u s3.heap.objs.size Q I4 r1 (Heap.IsSliceOf.new ..) pl pu q3
 show wpAny (model X.prog X.w) X.A (subscriptTail e (.Slice lo hi none p2) v (.ref s3.heap.objs.size)) (EP X pins σ Q) X.xe { s3 with heap:=s3.heap.push { cls:=.type "slice",data:=.fields #[vl,vu,.none] } }
 exact tail_any (ops:=[.ref s3.heap.objs.size,v]) ht hT hg (by with_unfolding_all rfl)
def pk (xs:List V) (lo hi:Option Int):List V:=(xs.drop (HT.sIx xs.length 0 lo)).take (HT.sIx xs.length xs.length hi - HT.sIx xs.length 0 lo)
theorem k0 (xs:List V) (lo hi:Option Int):(pk xs lo hi).length ≤ xs.length:= by
 unfold pk
 rw [List.length_take,List.length_drop]
 omega
def Jy (K:PySem.W.Frag):V -> Option Int -> Option Int -> Hp -> VK -> Prop:=fun x lo hi H Q => ∃ a xs,x = .ref a ∧ i4 K H a xs ∧
 ¬ (HT.sIx xs.length 0 lo = 0 ∧ HT.sIx xs.length xs.length hi = xs.length) ∧ ∀ p,H p = none -> Q (.ref p) (upd H p (.tup (pk xs lo hi)))
theorem D1:C_ X (Jy X.K):= by
 intro pins s σ H x v vl vu lo hi sl Q I rx hs pl pu h
 obtain ⟨a,xs,rfl,hx,hw,q⟩:=h
 cases rx
 obtain ⟨its,r,ht,hz⟩:=I.tuple hx
 have hlen:its.toArray.size = xs.length:=by rw [List.size_toArray]; exact r.length.symm
 refine ⟨"tuple",_,PyProof.Rows.slot_tuple_getitem.lookup,ht.typeIs,?_⟩
 refine HT.getItem_tuple_cut ht hs pl pu (by rw [hlen]; exact hw) ?_ (by rw [hlen]; exact hz)
 rw [hlen]
 refine ⟨.ref s.heap.objs.size,_,I.laid (t':=s.toks) (o:=.tup (pk xs lo hi)) (fun b ob q => Heap.get?_push_of_some _ q) (Nat.le_refl _) ?_,rfl,q _ (I.hok.fresh (Nat.le_refl _))⟩
 exact ⟨Nat.le_trans (k0 xs lo hi) hz,_,(r.drop (HT.sIx xs.length 0 lo)).take (HT.sIx xs.length xs.length hi - HT.sIx xs.length 0 lo),IsTup.new _ _⟩
def xr (K:PySem.W.Frag):R2:=fun x y H Q => ∃ a b xs ys,x = .ref a ∧ y = .ref b ∧ i4 K H a xs ∧ i4 K H b ys ∧ xs ≠ [] ∧ xs.length + ys.length ≤ sizeLine ∧
 (ys = [] -> Q (.ref a) H) ∧ (ys ≠ [] -> ∀ p,H p = none -> Q (.ref p) (upd H p (.tup (xs ++ ys))))
theorem Vals.nil_iff {xs:List V} {us:List Value} (r:Vals xs us):us = [] ↔ xs = []:= by
 cases r with
 | nil => simp
 | cons _ _ => simp
theorem Ba:gf X (binaryOp .Add) (xr X.K):= by
 intro pins s σ H x y v u Q I rx ry h
 obtain ⟨a,b,xs,ys,rfl,rfl,ha,hb,hx,hz,q1,q2⟩:=h
 cases rx
 cases ry
 obtain ⟨its,r1,p1,_⟩:=I.tuple ha
 obtain ⟨its2,r2,p2,_⟩:=I.tuple hb
 refine HT.cat_tup p1 p2 (fun z => hx (r1.nil_iff.mp z)) (fun z => ⟨.ref a,H,I,rfl,q1 (r2.nil_iff.mp z)⟩) (fun z => ?_) (by rw [<- r1.length,<- r2.length]; exact hz)
 refine ⟨.ref s.heap.objs.size,_,I.laid (t':=s.toks) (o:=.tup (xs ++ ys)) (fun b ob q => Heap.get?_push_of_some _ q) (Nat.le_refl _) ?_,rfl,q2 (fun w => z (r2.nil_iff.mpr w)) _ (I.hok.fresh (Nat.le_refl _))⟩
 exact ⟨by rw [List.length_append]; exact hz,_,r1.append r2,IsTup.new _ _⟩
end
end L2
namespace L2
open PySem PySem.Spec PyProof.Rows
def tD (n:Nat) (i:Int):Option Nat:=if 0 ≤ i then (if i < n then some i.toNat else none) else if -(n:Int) ≤ i then some (i + n).toNat else none
def jx {α:Type} (xs:List α) (i:Int):Option α:=(tD xs.length i).bind fun j => xs[j]?
theorem uW {n:Nat} {i:Int} {j:Nat} (h:tD n i = some j):seqIndex? i n = some j ∧ j < n ∧ -(n:Int) ≤ i ∧ i < n:= by
 unfold tD at h
 by_cases h0:0 ≤ i
 ·rw [if_pos h0] at h
  by_cases h1:i < n
  ·rw [if_pos h1] at h
   have e:i.toNat = j:=Option.some.inj h
   exact ⟨by rw [seqIndex_of h0 h1,e],by omega,by omega,h1⟩
  ·rw [if_neg h1] at h; cases h
 ·rw [if_neg h0] at h
  by_cases h1:-(n:Int) ≤ i
  ·rw [if_pos h1] at h
   have e:(i + n).toNat = j:=Option.some.inj h
   exact ⟨by rw [seqIndex_neg (by omega) h1,e],by omega,h1,by omega⟩
  ·rw [if_neg h1] at h; cases h
theorem pE {α:Type} {xs:List α} {i:Int} {v:α} (h:jx xs i = some v):∃ j,seqIndex? i xs.length = some j ∧ xs[j]? = some v ∧ j < xs.length ∧ -(xs.length:Int) ≤ i ∧ i < xs.length:= by
 unfold jx at h
 cases e:tD xs.length i with
 | none => rw [e] at h; cases h
 | some j =>
  rw [e] at h
  obtain ⟨h1,h2,h3,h4⟩:=uW e
  exact ⟨j,h1,h,h2,h3,h4⟩
theorem eA {α:Type} {xs:List α} {j:Nat} {v:α} (h:xs[j]? = some v):jx xs (j:Int) = some v:= by
 have hj:j < xs.length:=(List.getElem?_eq_some_iff.mp h).1
 have e:tD xs.length (j:Int) = some j:= by
  unfold tD
  rw [if_pos (by omega),if_pos (by omega)]; simp
 unfold jx; rw [e]; exact h
def lB (b:Expr):Prop:=∀ o i,subscripted b false o i = operate [o,i] (getItem o i)
def AG (X:Cx) (r:R2):Prop :=
 ∀ (value slice:Expr) (pins:List (Addr × Obj)) (s:Shared) (σ:St) (H:Hp) (x y:V) (v u:Value) (Q:VK),Inv X pins σ H s -> RelV x v -> RelV y u -> r x y H Q ->
  subscripted slice false v u = operate [v,u] (getItem v u) -> wpAny (model X.prog X.w) X.A (subscriptTail value slice v u) (EP X pins σ Q) X.xe s
def J_ (X:Cx) (id:String) (r:V -> List V -> Hp -> VK -> Prop):Prop :=
 ∀ (pins:List (Addr × Obj)) (s:Shared) (σ:St) (H:Hp) (x:V) (xs:List V) (v:Value) (us:List Value) (Q:VK),Inv X pins σ H s -> RelV x v -> Vals xs us -> r x xs H Q ->
  wpAny (model X.prog X.w) X.A (call (.builtin id) (v :: us)) (EP X pins σ Q) X.xe s
section
variable {X:Cx} {a b:Expr} {ta tb:TE} {pos:Pos}
theorem AG.or {r r':R2} (h:AG X r) (h':AG X r'):AG X (fun x y H Q => r x y H Q ∨ r' x y H Q):= by
 intro value slice pins s σ H x y v u Q I rx ry q hs
 rcases q with q | q
 ·exact h value slice pins s σ H x y v u Q I rx ry q hs
 ·exact h' value slice pins s σ H x y v u Q I rx ry q hs
theorem DD {r:R2} (hr:AG X r) (ha:PE X a ta) (hb:PE X b tb) (hs:lB b):PE X (.Subscript a b pos) (DK r ta tb):= by
 intro pins s σ H Q I h
 exact Subscript_ (EK ha hb I h fun v u s2 x y H2 I2 rx ry q => hr a b pins s2 σ H2 x y v u Q I2 rx ry q (hs _ _))
def Ho (K:PySem.W.Frag):R2:=fun x y H Q => ∃ p xs i v,x = .ref p ∧ y = .int i ∧ iY K H p xs ∧ jx xs i = some v ∧ Q v H
def HS (K:PySem.W.Frag):R2:=fun x y H Q => ∃ p xs i v,x = .ref p ∧ y = .int i ∧ i4 K H p xs ∧ jx xs i = some v ∧ Q v H
def HP:R2:=fun x y H Q => ∃ z i c,x = .str z ∧ y = .int i ∧ z.length ≤ sizeLine ∧ jx z.cps.toList i = some c ∧ Q (.str ⟨#[c]⟩) H
theorem uB:AG X (Ho X.K):= by
 intro value slice pins s σ H x y v u Q I rx ry h hs
 obtain ⟨p,xs,i,z,rfl,rfl,hq,he,q⟩:=h
 cases rx
 obtain ⟨t,rfl⟩:=ry
 obtain ⟨its,r,pl,hz⟩:=I.list hq
 obtain ⟨j,h1,h2,h3,h4,h5⟩:=pE he
 obtain ⟨w,ew,rw'⟩:=r.get h2
 have hl:=r.length
 have hn:=kg
 have fin:EP X pins σ Q w s:=⟨z,H,I,rw',q⟩
 by_cases h0:0 ≤ i
 ·have hj:i.toNat = j:= by
   rw [seqIndex_of h0 h5] at h1
   exact Option.some.inj h1
  exact item_listR pl.isList h0 (by omega) (by rw [hj]; simpa using ew) fin hs
 ·have hj:(i + (its.toArray.size:Int)).toNat = j:= by
   rw [seqIndex_neg (by omega) h4] at h1
   rw [List.size_toArray,<- hl]
   exact Option.some.inj h1
  exact subscriptTail_builtinR (x:=w) pl.isList.typeIs slot_list_getitem.lookup
   (wpAny_getItem_list_neg (Q:=fun r s' => r = w ∧ EP X pins σ Q r s') pl.isList (by omega) (by rw [List.size_toArray] <;> omega) (by omega) (by rw [hj]; simpa using ew) ⟨rfl,fin⟩) hs
theorem FV:AG X (HS X.K):= by
 intro value slice pins s σ H x y v u Q I rx ry h hs
 obtain ⟨p,xs,i,z,rfl,rfl,hq,he,q⟩:=h
 cases rx
 obtain ⟨t,rfl⟩:=ry
 obtain ⟨its,r,pl,hz⟩:=I.tuple hq
 obtain ⟨j,h1,h2,h3,h4,h5⟩:=pE he
 obtain ⟨w,ew,rw'⟩:=r.get h2
 have hl:=r.length
 have hn:=kg
 have fin:EP X pins σ Q w s:=⟨z,H,I,rw',q⟩
 exact subscriptTail_builtinR (x:=w) pl.typeIs slot_tuple_getitem.lookup
  (getItem_tuple (j:=j) (Q:=fun r s' => r = w ∧ EP X pins σ Q r s') pl (by omega) (by omega) (by rw [List.size_toArray,<- hl]; exact h1) (by simpa using ew) ⟨rfl,fin⟩) hs
theorem Ez:AG X HP:= by
 intro value slice pins s σ H x y v u Q I rx ry h hs
 obtain ⟨z,i,c,rfl,rfl,hz,he,q⟩:=h
 obtain ⟨t,rfl⟩:=rx
 obtain ⟨t',rfl⟩:=ry
 obtain ⟨j,h1,h2,h3,h4,h5⟩:=pE he
 have hl:z.cps.toList.length = z.length:=by simp [Str.length]
 rw [hl] at h1 h4 h5
 have hn:=kg
 exact tail_any (typeIs_str s z t) slot_str_getitem.lookup (getItem_str (c:=c) (by
  have e1:decide (i < -(2 ^ 63:Int)) = false:=decide_eq_false (by omega)
  have e2:decide (i ≥ 2 ^ 63) = false:=decide_eq_false (by omega)
  rw [e1,e2,Bool.or_false]) (by rw [h1]; simpa using h2) ⟨.str ⟨#[c]⟩,H,I.tok _,⟨_,rfl⟩,q⟩) hs
def JT (K:PySem.W.Frag):R2:=fun x y H Q => Ho K x y H Q ∨ HS K x y H Q ∨ HP x y H Q
theorem Gp:AG X (JT X.K):=uB.or (FV.or Ez)
theorem sQ (its:List Value) (n j:Nat) (u:Value):Obj.mapSeq (·.setIfInBounds j u) { cls:=.type "list",data:=.seq its.toArray n } = { cls:=.type "list",data:=.seq (its.set j u).toArray n }:= by
 simp [Obj.mapSeq]
theorem Inv.lst {pins:List (Addr × Obj)} {σ:St} {H:Hp} {s:Shared} {p:Addr} {xs:List V} (I:Inv X pins σ H s) (h:H p = some (.lst xs)) :
  ∃ (its:List Value) (n:Nat),Vals xs its ∧ s.heap.get? p = some { cls:=.type "list",data:=.seq its.toArray n } ∧ xs.length ≤ sizeLine:= by
 obtain ⟨z,its,n,r,e⟩:=I.hok p _ h
 exact ⟨its,n,r,e,z⟩
theorem Inv.lstUpd {pins:List (Addr × Obj)} {σ:St} {H:Hp} {s:Shared} {p:Addr} {xs ys:List V} {its its':List Value} {n n':Nat} {f:Obj -> Obj} (I:Inv X pins σ H s) (h:H p = some (.lst xs))
  (ho:s.heap.get? p = some { cls:=.type "list",data:=.seq its.toArray n }) (hf:f { cls:=.type "list",data:=.seq its.toArray n } = { cls:=.type "list",data:=.seq its'.toArray n' }) (r:Vals ys its') (hz:ys.length ≤ sizeLine) (t:Nat) :
  Inv X pins σ (upd H p (.lst ys)) { s with heap:=s.heap.update p f,toks:=t }:= by
 have e:(s.heap.update p f).get? p = some { cls:=.type "list",data:=.seq its'.toArray n' }:= by
  rw [Heap.get?_update_self f ho (by rw [hf] <;> rfl),hf]
 refine I.write (x:=p) (e:=p) (by rw [h]; trivial) (.inl rfl) (fun b u hb q => (Heap.get?_update_other _ _ (Ne.symm hb)).trans q) ⟨_,e⟩ ?_
 exact ⟨hz,its',n',r,e⟩
def Iw:V -> V -> V -> Hp -> (Hp -> Prop) -> Prop:=fun o i v H Q => ∃ p xs k j,o = .ref p ∧ i = .int k ∧ H p = some (.lst xs) ∧ tD xs.length k = some j ∧ Q (upd H p (.lst (xs.set j v)))
theorem set_list:GI X Iw:= by
 intro pins s σ H o i v ov iv u Q I ro ri rv h
 obtain ⟨p,xs,k,j,rfl,rfl,hp,hj,q⟩:=h
 cases ro
 obtain ⟨t,rfl⟩:=ri
 obtain ⟨its,n,r,ho,hz⟩:=I.lst hp
 obtain ⟨h1,h2,h3,h4⟩:=uW hj
 have hl:=r.length
 have hn:=kg
 have I':Inv X pins σ (upd H p (.lst (xs.set j v))) { s with heap:=s.heap.update p (Obj.mapSeq (·.setIfInBounds j u)) } :=
  I.lstUpd hp ho (sQ its n j u) (r.set rv j) (by rw [List.length_set]; exact hz) s.toks
 by_cases h0:0 ≤ k
 ·have hk:k.toNat = j:= by
   rw [seqIndex_of h0 h4] at h1
   exact Option.some.inj h1
  exact PySem.W.ki_setAt ho h0 (by omega) (by rw [List.size_toArray,<- hl]; exact h4) (by rw [hk]; exact ⟨_,I',q⟩)
 ·have hk:(k + (its.toArray.size:Int)).toNat = j:= by
   rw [seqIndex_neg (by omega) h3] at h1
   rw [List.size_toArray,<- hl]
   exact Option.some.inj h1
  exact PySem.W.ki_setBack ho (by omega) (by rw [List.size_toArray,<- hl]; exact h3) (by omega) (by rw [hk]; exact ⟨_,I',q⟩)
theorem pX (lo hi:Option Int) (n:Nat):(sliceBounds lo hi none n).1 = ((HT.sIx n 0 lo:Nat):Int) ∧ (sliceBounds lo hi none n).2.1 = ((HT.sIx n n hi:Nat):Int) ∧ (sliceBounds lo hi none n).2.2 = 1:= by
 refine ⟨?_,?_,rfl⟩
 ·cases lo with
  | none => simp [sliceBounds,HT.sIx]
  | some i =>
   simp only [sliceBounds,HT.sIx,Option.getD_none,show (1:Int) > 0 by decide,if_true]
   by_cases h:i < 0
   ·simp only [h,if_true] <;> omega
   ·simp only [h,if_false] <;> omega
 ·cases hi with
  | none => simp [sliceBounds,HT.sIx]
  | some i =>
   simp only [sliceBounds,HT.sIx,Option.getD_none,show (1:Int) > 0 by decide,if_true]
   by_cases h:i < 0
   ·simp only [h,if_true] <;> omega
   ·simp only [h,if_false] <;> omega
theorem nR (its:List Value) (lo hi:Option Int):slicePick its.toArray lo hi none = ((its.drop (HT.sIx its.length 0 lo)).take (HT.sIx its.length its.length hi - HT.sIx its.length 0 lo)).toArray:= by
 obtain ⟨h1,h2,h3⟩:=pX lo hi its.toArray.size
 unfold slicePick
 rw [h1,h2,h3]
 simp only [sliceRange_one,pick_run,List.size_toArray] <;> rfl
def Js (K:PySem.W.Frag):V -> Option Int -> Option Int -> Hp -> VK -> Prop:=fun x lo hi H Q => ∃ a xs,x = .ref a ∧ iY K H a xs ∧ ∀ p,H p = none -> Q (.ref p) (upd H p (.lst (pk xs lo hi)))
theorem CK:C_ X (Js X.K):= by
 intro pins s σ H x v vl vu lo hi sl Q I rx hs pl pu h
 obtain ⟨a,xs,rfl,hx,q⟩:=h
 cases rx
 obtain ⟨its,r,ht,hz⟩:=I.list hx
 have hlen:=r.length
 refine ⟨"list",_,slot_list_getitem.lookup,ht.isList.typeIs,?_⟩
 refine wpAny_getItem_list_slice ht.isList hs pl pu .none (by simp) ?_ (by rw [List.size_toArray] <;> omega)
 rw [nR,<- hlen]
 refine ⟨.ref s.heap.objs.size,_,I.laid (t':=s.toks) (o:=.lst (pk xs lo hi)) (fun b ob q => Heap.get?_push_of_some _ q) (Nat.le_refl _) ?_,rfl,q _ (I.hok.fresh (Nat.le_refl _))⟩
 exact ⟨Nat.le_trans (k0 xs lo hi) hz,_,0,(r.drop (HT.sIx xs.length 0 lo)).take (HT.sIx xs.length xs.length hi - HT.sIx xs.length 0 lo),Heap.get?_push_size _ rfl⟩
def iJ:V -> Bool
 | .non => true
 | .bl _ => true
 | .int _ => true
 | .str _ => true
 | _ => false
def zu:V -> V -> Bool
 | .non,.non => true
 | .bl a,.bl b => a == b
 | .bl a,.int b => (if a then 1 else 0) == b
 | .int a,.bl b => a == (if b then 1 else 0)
 | .int a,.int b => a == b
 | .str a,.str b => a == b
 | _,_ => false
theorem zT {A:Around} {s:Shared} {y x:V} {u v:Value} (ry:RelV y u) (rx:RelV x v) (fy:iJ y = true) (fx:iJ x = true):SeqAt.EqAt A s u v (zu y x):= by
 cases y with
 | non =>
  cases ry
  cases x with
  | non => cases rx; exact SeqAt.EqAt.same _
  | bl b => cases rx; exact SeqAt.EqAt.none_bool b
  | int b => obtain ⟨t,rfl⟩:=rx; exact SeqAt.EqAt.none_int b t
  | str b => obtain ⟨t,rfl⟩:=rx; exact SeqAt.EqAt.none_str b t
  | _ => exact absurd (show false = true from fx) Bool.false_ne_true
 | bl a =>
  cases ry
  cases x with
  | non => cases rx; exact SeqAt.EqAt.bool_none a
  | bl b => cases rx; exact SeqAt.EqAt.bool_bool a b
  | int b => obtain ⟨t,rfl⟩:=rx; exact SeqAt.EqAt.bool_int a b t
  | str b => obtain ⟨t,rfl⟩:=rx; exact SeqAt.EqAt.bool_str a b t
  | _ => exact absurd (show false = true from fx) Bool.false_ne_true
 | int a =>
  obtain ⟨t',rfl⟩:=ry
  cases x with
  | non => cases rx; exact SeqAt.EqAt.int_none a t'
  | bl b => cases rx; exact SeqAt.EqAt.int_bool a t' b
  | int b => obtain ⟨t,rfl⟩:=rx; exact SeqAt.EqAt.int_int a t' b t
  | str b => obtain ⟨t,rfl⟩:=rx; exact SeqAt.EqAt.int_str a t' b t
  | _ => exact absurd (show false = true from fx) Bool.false_ne_true
 | str a =>
  obtain ⟨t',rfl⟩:=ry
  cases x with
  | non => cases rx; exact SeqAt.EqAt.str_none a t'
  | bl b => cases rx; exact SeqAt.EqAt.str_bool a t' b
  | int b => obtain ⟨t,rfl⟩:=rx; exact SeqAt.EqAt.str_int a t' b t
  | str b => obtain ⟨t,rfl⟩:=rx; exact SeqAt.EqAt.str_str a t' b t
  | _ => exact absurd (show false = true from fx) Bool.false_ne_true
 | _ => exact absurd (show false = true from fy) Bool.false_ne_true
def sX (x:V) (u:Value):Bool:=match u with
 | .none => zu .non x
 | .bool b => zu (.bl b) x
 | .int i _ => zu (.int i) x
 | .str z _ => zu (.str z) x
 | _ => false
theorem xP {x y:V} {u:Value} (r:RelV y u) (f:iJ y = true):sX x u = zu y x:= by
 cases y with
 | non => cases r; rfl
 | bl b => cases r; rfl
 | int i => obtain ⟨t,rfl⟩:=r; rfl
 | str z => obtain ⟨t,rfl⟩:=r; rfl
 | _ => exact absurd (show false = true from f) Bool.false_ne_true
theorem jK {x:V}:∀ {xs:List V} {us:List Value},Vals xs us -> xs.all iJ = true -> us.any (sX x) = xs.any fun y => zu y x
 | _,_,.nil,_ => rfl
 | y :: xs,u :: us,.cons r t,f => by
  rw [List.all_cons,Bool.and_eq_true] at f
  rw [List.any_cons,List.any_cons,xP r f.1,jK t f.2]
theorem iL {A:Around} {s:Shared} {x:V} {v:Value} (rx:RelV x v) (fx:iJ x = true):∀ {xs:List V} {us:List Value},Vals xs us -> xs.all iJ = true -> ∀ u ∈ us,SeqAt.EqAt A s u v (sX x u)
 | _,_,.nil,_ => fun u hu => by cases hu
 | y :: xs,u :: us,.cons r t,f => fun u' hu => by
  rw [List.all_cons,Bool.and_eq_true] at f
  rcases List.mem_cons.mp hu with rfl | hu
  ·rw [xP r f.1]; exact zT r rx f.1 fx
  ·exact iL rx fx t f.2 u' hu
def Gq (x:V) (xs:List V):Bool:=xs.any fun y => zu y x
def IB (K:PySem.W.Frag) (neg:Bool):R2:=fun x y H Q => ∃ p xs,y = .ref p ∧ (iY K H p xs ∨ i4 K H p xs) ∧ iJ x = true ∧ xs.all iJ = true ∧ Q (.bl (if neg then !Gq x xs else Gq x xs)) H
theorem o6:gf X (compareOp .In) (IB X.K false):= by
 intro pins s σ H x y v u Q I rx ry h
 obtain ⟨p,xs,rfl,hq,fx,fs,q⟩:=h
 cases ry
 rcases hq with hq | hq
 ·obtain ⟨its,r,pl,hz⟩:=I.list hq
  refine SeqAt.in_listAt (sX x) pl.isList (fun w hw => iL rx fx r fs w (by simpa using hw)) ⟨.bl _,H,I,rfl,?_⟩
  rw [show its.toArray.any (sX x) = its.any (sX x) by simp,jK r fs]
  exact q
 ·obtain ⟨its,r,pl,hz⟩:=I.tuple hq
  refine SeqAt.in_tupleAt (sX x) pl (fun w hw => iL rx fx r fs w (by simpa using hw)) ⟨.bl _,H,I,rfl,?_⟩
  rw [show its.toArray.any (sX x) = its.any (sX x) by simp,jK r fs]
  exact q
theorem gx:gf X (compareOp .NotIn) (IB X.K true):= by
 intro pins s σ H x y v u Q I rx ry h
 obtain ⟨p,xs,rfl,hq,fx,fs,q⟩:=h
 cases ry
 rcases hq with hq | hq
 ·obtain ⟨its,r,pl,hz⟩:=I.list hq
  refine SeqAt.notIn_listAt (sX x) pl.isList (fun w hw => iL rx fx r fs w (by simpa using hw)) ⟨.bl _,H,I,rfl,?_⟩
  rw [show its.toArray.any (sX x) = its.any (sX x) by simp,jK r fs]
  exact q
 ·obtain ⟨its,r,pl,hz⟩:=I.tuple hq
  refine SeqAt.notIn_tupleAt (sX x) pl (fun w hw => iL rx fx r fs w (by simpa using hw)) ⟨.bl _,H,I,rfl,?_⟩
  rw [show its.toArray.any (sX x) = its.any (sX x) by simp,jK r fs]
  exact q
theorem jR:d4 X (.builtin "len") (fun xs H Q => ∃ p ys,xs = [.ref p] ∧ (iY X.K H p ys ∨ i4 X.K H p ys) ∧ Q (.int ys.length) H):= by
 intro pins s σ H xs us Q I r h
 obtain ⟨p,ys,rfl,hq,q⟩:=h
 obtain ⟨u,rfl,rx⟩:=vals1 r
 cases rx
 have hn:=kg
 rcases hq with hq | hq
 ·obtain ⟨its,r',pl,hz⟩:=I.list hq
  have hlen:=r'.length
  exact Calls.call_len_list pl.isList (by simp only [List.size_toArray] <;> omega) ⟨.int ys.length,H,I.tok _,⟨s.toks + 1,by rw [List.size_toArray,hlen]⟩,q⟩
 ·obtain ⟨its,r',pl,hz⟩:=I.tuple hq
  have hlen:=r'.length
  exact len_tuple pl (by simp only [List.size_toArray] <;> omega) ⟨.int ys.length,H,I.tok _,⟨s.toks + 1,by rw [List.size_toArray,hlen]⟩,q⟩
theorem pB:d4 X (.type "list") (fun xs H Q => ∃ p ys,xs = [.ref p] ∧ (iY X.K H p ys ∨ i4 X.K H p ys) ∧ ∀ l,H l = none -> Q (.ref l) (upd H l (.lst ys))):= by
 intro pins s σ H xs us Q I r h
 obtain ⟨p,ys,rfl,hq,q⟩:=h
 obtain ⟨u,rfl,rx⟩:=vals1 r
 cases rx
 have fin:∀ (its:List Value),Vals ys its -> ys.length ≤ sizeLine -> ∀ (h':Heap) (c':Nat),(∀ b o',s.heap.get? b = some o' -> h'.get? b = some o') ->
   h'.get? s.heap.objs.size = some { cls:=.type "list",dict:=none,data:=.seq its.toArray c',slots:=#[] } -> EP X pins σ Q (.ref s.heap.objs.size) { s with heap:=h' }:=fun its r' hz h' c' kp e =>
  ⟨.ref s.heap.objs.size,_,I.laid (t':=s.toks) kp (Nat.le_refl _) (show eD X.prog X.w _ h' _ (.lst ys) from ⟨hz,its,c',r',e⟩),rfl,q _ (I.hok.fresh (Nat.le_refl _))⟩
 rcases hq with hq | hq
 ·obtain ⟨its,r',pl,hz⟩:=I.list hq
  have hlen:=r'.length
  obtain ⟨o,ho,hc,n,hd⟩:=pl.isList
  exact call_list_seq p (.inl rfl) ho hc hd (fun h' c' kp e => fin its r' hz h' c' kp e) (by simp only [List.size_toArray] <;> omega)
 ·obtain ⟨its,r',pl,hz⟩:=I.tuple hq
  have hlen:=r'.length
  obtain ⟨o,ho,hc,n,hd⟩:=pl
  exact call_list_seq p (.inr rfl) ho hc hd (fun h' c' kp e => fin its r' hz h' c' kp e) (by simp only [List.size_toArray] <;> omega)
theorem jd:d4 X (.type "tuple") (fun xs H Q => ∃ p ys,xs = [.ref p] ∧ ((iY X.K H p ys ∧ ∀ l,H l = none -> Q (.ref l) (upd H l (.tup ys))) ∨ (i4 X.K H p ys ∧ Q (.ref p) H))):= by
 intro pins s σ H xs us Q I r h
 obtain ⟨p,ys,rfl,h⟩:=h
 obtain ⟨u,rfl,rx⟩:=vals1 r
 cases rx
 rcases h with ⟨hq,q⟩ | ⟨hq,q⟩
 ·obtain ⟨its,r',pl,hz⟩:=I.list hq
  have hlen:=r'.length
  refine call_tuple_list pl.isList (fun h' kp => ?_) (by simp only [List.size_toArray] <;> omega)
  have I1:Inv X pins σ H { s with heap:=h' }:=I.kept (t':=s.toks) kp
  have I2:Inv X pins σ (upd H h'.objs.size (.tup ys)) { s with heap:=h'.push { cls:=.type "tuple",data:=.seq its.toArray } } :=
   I1.laid (t':=s.toks) (fun b o e => Heap.get?_push_of_some _ e) (Nat.le_refl _) (show eD X.prog X.w _ _ _ (.tup ys) from ⟨hz,its,r',IsTup.new _ _⟩)
  exact ⟨.ref h'.objs.size,_,I2,rfl,q _ (I1.hok.fresh (Nat.le_refl _))⟩
 ·obtain ⟨its,r',pl,hz⟩:=I.tuple hq
  exact call_tuple_same pl ⟨.ref p,H,I,rfl,q⟩
def JZ (K:PySem.W.Frag) (T:String) (x:V) (H:Hp):Prop:=match x with
 | .str _ => T = "str"
 | .int _ => T = "int"
 | .ref p => (T = "list" ∧ ∃ xs,iY K H p xs) ∨ (T = "tuple" ∧ ∃ o,K.lookup p = some o ∧ o.cls = .type "tuple" ∧ o.dict = none) ∨
   (T = "dict" ∧ ((∃ kvs,H p = some (.dK kvs)) ∨ ∃ kvs,H p = some (.dT kvs))) ∨ (T = "set" ∧ ∃ S n,H p = some (.set S n))
 | _ => False
theorem FL {pins:List (Addr × Obj)} {σ:St} {H:Hp} {s:Shared} {T:String} {x:V} {v:Value} (I:Inv X pins σ H s) (r:RelV x v) (ty:JZ X.K T x H) :
  s.TypeIs v T ∧ ∀ a,v = .ref a -> ∃ ob,s.heap.get? a = some ob ∧ ob.dict = none:= by
 cases x with
 | str z =>
  obtain ⟨t,rfl⟩:=r
  cases (show T = "str" from ty)
  exact ⟨typeIs_str s z t,fun _ e => nomatch e⟩
 | int i =>
  obtain ⟨t,rfl⟩:=r
  cases (show T = "int" from ty)
  exact ⟨typeIs_int s i t,fun _ e => nomatch e⟩
 | ref p =>
  cases r
  rcases ty with ⟨rfl,xs,hq⟩ | ⟨rfl,o,hk,hc,hd⟩ | ⟨rfl,hk⟩ | ⟨rfl,S,n,hk⟩
  ·obtain ⟨its,_,pl,_⟩:=I.list hq
   refine ⟨pl.isList.typeIs,fun a e => ?_⟩
   cases e
   obtain ⟨o,n,e,c,hd,_⟩:=pl
   exact ⟨o,e,hd⟩
  ·refine ⟨⟨o,I.kIn p o hk,hc⟩,fun a e => ?_⟩
   cases e
   exact ⟨o,I.kIn _ o hk,hd⟩
  ·have z:∃ o,s.heap.get? p = some o ∧ o.ExactDict:= by
    rcases hk with ⟨kvs,hk⟩ | ⟨kvs,hk⟩
    ·obtain ⟨_,_,_,_,o,_,_,e,ex,_⟩:=I.hok p _ hk
     exact ⟨o,e,ex⟩
    ·obtain ⟨_,_,_,_,o,_,_,e,ex,_⟩:=I.hok p _ hk
     exact ⟨o,e,ex⟩
   obtain ⟨o,e,ex⟩:=z
   refine ⟨⟨o,e,ex.1⟩,fun a e2 => ?_⟩
   cases e2
   exact ⟨o,e,ex.2.1⟩
  ·obtain ⟨o,_,_,_,e,ex,_⟩:=I.hok p _ hk
   refine ⟨⟨o,e,ex.1⟩,fun a e2 => ?_⟩
   cases e2
   exact ⟨o,e,ex.2.1⟩
 | _ => exact False.elim ty
def J9 (K:PySem.W.Frag) (T:String) (r:V -> List V -> Hp -> VK -> Prop) (to:TE) (t:TA):TE:=fun σ H Q => to σ H fun x H1 => JZ K T x H1 ∧ t σ H1 fun xs H2 => r x xs H2 Q
variable {o e:Expr} {es:List Expr} {to:TE} {t:TA} {name:Str} {apos cpos:Pos} {T id:String} {r:V -> List V -> Hp -> VK -> Prop}
theorem Dn (pa:PlainAttrs T) (slot:Slot T name id) (hty:typeOf (.builtin id) = pure (.type "method_descriptor")) (hm:J_ X id r) (ho:PE X o to) (ha:PA X (e :: es) t)
  (hbase:attributeBase o name X.env (eval o X.env) = eval o X.env:=by rfl)
  (hfew:((backTo cpos (starEach (e :: es) X.env)).all (fun x => !x.1) && (backToKw cpos (keywordEach [] X.env)).all (fun x => x.1.isSome)
   && decide ((e :: es).length + ([]:List Keyword).length + (if ([]:List Keyword).isEmpty then 0 else 1) < 30)) = true:=by rfl)
  (hline:(apos.endLine == cpos.line) = true:=by rfl) (hs:starEach (e :: es) X.env = (false,eval e X.env) :: starEach es X.env:=by rfl) (hplain:(backTo cpos (starEach es X.env)).any (·.1) = false:=by rfl) :
  PE X (.Call (.Attribute o name apos) (e :: es) [] cpos) (J9 X.K T r to t):= by
 intro pins s σ H Q I h
 refine wpAny_Call_method_late hbase hfew hline rfl (cW (ho pins s σ H _ I h) fun v s1 ⟨x,H1,I1,r1,ty,q1⟩ => ?_)
 obtain ⟨h1,h2⟩:=FL I1 r1 ty
 refine ⟨T,id,pa,slot,hty,h1,h2,?_⟩
 have hA:=ha cpos pins s1 σ H1 _ I1 q1
 rw [hs] at hA ⊢
 refine Calls.callWith_builtin (by show (false || (backTo cpos (starEach es X.env)).any (·.1)) = false; rw [hplain] <;> rfl) (Calls.evalArgs_plain ?_)
 exact cW hA fun us s2 ⟨vs,H2,I2,r2,q2⟩ => hm pins s2 σ H2 x vs v us Q I2 r1 r2 q2
end
end L2
namespace L2
open PySem PySem.Spec PyProof.Rows
def JW (X:Cx) (id:String) (r:V -> List V -> Hp -> VK -> Prop):Prop :=
 ∀ (pins:List (Addr × Obj)) (s:Shared) (σ:St) (H:Hp) (x:V) (xs:List V) (v:Value) (us:List Value) (Q:VK),Inv X pins σ H s -> RelV x v -> Vals xs us -> r x xs H Q ->
  wpAny (model X.prog X.w) X.A (call (.builtin id) (v :: us)) (EP X pins σ Q) X.xe s
theorem Vals.one:∀ {x:V} {us:List Value},Vals [x] us -> ∃ u,us = [u] ∧ RelV x u
 | _,_,.cons r .nil => ⟨_,rfl,r⟩
theorem Vals.two:∀ {x y:V} {us:List Value},Vals [x,y] us -> ∃ u v,us = [u,v] ∧ RelV x u ∧ RelV y v
 | _,_,_,.cons r (.cons q .nil) => ⟨_,_,rfl,r,q⟩
theorem Vals.eraseIdx:∀ {xs:List V} {us:List Value} (i:Nat),Vals xs us -> Vals (xs.eraseIdx i) (us.eraseIdx i)
 | _,_,_,.nil => .nil
 | _,_,0,.cons _ t => t
 | _,_,i + 1,.cons r t => .cons r (Vals.eraseIdx i t)
theorem oE {α:Type}:∀ (l:List α) (i:Nat),(l.eraseIdx i).length ≤ l.length
 | [],_ => Nat.le_refl _
 | _ :: _,0 => Nat.le_succ _
 | _ :: r,i + 1 => Nat.succ_le_succ (oE r i)
section
variable {X:Cx} {pins:List (Addr × Obj)} {σ:St} {H:Hp} {s:Shared} {l b:Addr} {xs ys zs:List V}
theorem Inv.lset {its its':List Value} {n:Nat} {f:Array Value -> Array Value} {t':Nat} (I:Inv X pins σ H s) (hH:H l = some (.lst xs))
  (e:s.heap.get? l = some { cls:=.type "list",data:=.seq its.toArray n }) (hf:f its.toArray = its'.toArray) (hv:Vals ys its') (hz:ys.length ≤ sizeLine) :
  Inv X pins σ (upd H l (.lst ys)) { s with heap:=s.heap.update l (Obj.mapSeq f),toks:=t' }:= by
 have q:=PySem.IsL.update e f
 rw [hf] at q
 refine I.write (x:=l) (e:=l) (by rw [hH]; exact trivial) (.inl rfl) (fun b' u hb hu => (Heap.get?_update_other s.heap (Obj.mapSeq f) (Ne.symm hb)).trans hu) ⟨_,q⟩ ?_
 exact ⟨hz,its',_,hv,q⟩
theorem Inv.lnew {its:List Value} {t':Nat} (I:Inv X pins σ H s) (hv:Vals ys its) (hz:ys.length ≤ sizeLine) :
  Inv X pins σ (upd H s.heap.objs.size (.lst ys)) { s with heap:=s.heap.push { cls:=.type "list",data:=.seq its.toArray },toks:=t' } :=
 I.laid (fun _ _ q => Heap.get?_push_of_some _ q) (Nat.le_refl _) ⟨hz,its,0,hv,Heap.get?_push_size _ rfl⟩
theorem Inv.fresh (I:Inv X pins σ H s):H s.heap.objs.size = none:=I.hok.fresh (Nat.le_refl _)
theorem Inv.lstM (I:Inv X pins σ H s) (hH:H l = some (.lst xs)):xs.length ≤ sizeLine ∧ ∃ (its:List Value) (n:Nat),Vals xs its ∧ xs.length = its.length ∧ s.heap.get? l = some { cls:=.type "list",data:=.seq its.toArray n }:= by
 obtain ⟨z,its,n,r,e⟩:=I.hok l _ hH
 exact ⟨z,its,n,r,r.length,e⟩
end
section
variable {X:Cx}
def B7:V -> List V -> Hp -> VK -> Prop:=fun x vs H Q => ∃ l xs y,x = .ref l ∧ vs = [y] ∧ H l = some (.lst xs) ∧ xs.length < sizeLine ∧ Q .non (upd H l (.lst (xs ++ [y])))
theorem o7:JW X "list.append" B7:= by
 intro pins s σ H x vs v us Q I rx rv h
 obtain ⟨l,xs,y,rfl,rfl,hH,hz,q⟩:=h
 cases rx
 obtain ⟨u,rfl,ru⟩:=rv.one
 obtain ⟨z,its,n,r,hl,e⟩:=I.lstM hH
 refine call_meets F.slot_list_append ⟨_,e,rfl⟩ F.entry_list_append (F.args_list_append_2 _ _) (PySem.list_append l its.toArray n u (by rw [List.size_toArray]; omega)) ⟨e,?_⟩
 refine ⟨.non,_,I.lset (its':=its ++ [u]) hH e (by simp) (r.append (.cons ru .nil)) ?_,rfl,q⟩
 rw [List.length_append,List.length_singleton]
 omega
def E6:V -> List V -> Hp -> VK -> Prop:=fun x vs H Q => ∃ l xs i k y,x = .ref l ∧ vs = [.int i] ∧ H l = some (.lst xs) ∧ -(2 ^ 63) ≤ i ∧ i < 2 ^ 63 ∧ seqIndex? i xs.length = some k ∧ xs[k]? = some y ∧ Q y (upd H l (.lst (xs.eraseIdx k)))
theorem Ag:JW X "list.pop" E6:= by
 intro pins s σ H x vs v us Q I rx rv h
 obtain ⟨l,xs,i,k,y,rfl,rfl,hH,h1,h2,hk,hy,q⟩:=h
 cases rx
 obtain ⟨u,rfl,ru⟩:=rv.one
 obtain ⟨t,rfl⟩:=ru
 obtain ⟨z,its,n,r,hl,e⟩:=I.lstM hH
 obtain ⟨w,hw,rw'⟩:=r.get hy
 refine call_meets F.slot_list_pop ⟨_,e,rfl⟩ F.entry_list_pop (F.args_list_pop_2 _ _)
  (MeetsSeq.list_pop_at l its.toArray n i t k w (fitsIndex_both h1 h2) (by rw [List.size_toArray,<- hl]; exact hk) (by rw [<- Array.getElem?_toList]; exact hw) (by rw [List.size_toArray]; omega)) ⟨e,?_⟩
 refine ⟨y,_,I.lset (its':=its.eraseIdx k) hH e ?_ (r.eraseIdx k) ?_,rw',q⟩
 ·show its.toArray.eraseIdxIfInBounds k = (its.eraseIdx k).toArray
  rw [List.eraseIdxIfInBounds_toArray]
 ·have:=oE xs k
  omega
end
section
variable {prog:Program} {w:World} {A:Around} {E:Value -> Shared -> Prop} {s:Shared}
set_option maxRecDepth 100000 in
end
section
variable {X:Cx}
end
end L2
namespace Att
open PySem PySem.W PySem.Calls PyProof.Rows
theorem lj {P:Params} {h:Heap}:∀ (ns:List Int) (vs:List Value),WellAll P h vs (ns.map WData.int) -> IntsAre vs ns:= by
 intro ns
 induction ns with
 | nil =>
  intro vs w
  rw [List.map_nil] at w
  cases w
  exact .nil
 | cons n ns ih =>
  intro vs w
  rw [List.map_cons] at w
  cases w with
  | cons a b =>
   cases a
   exact .cons _ _ (ih _ b)
theorem script_of {l:OpenLaw} {n:Nat} (hn:l.most = some n) {P:Params} {h:Heap} {args:List WData} {vals:List Value}
  (hpre:l.row.toRowW.claim.pre args = true) (hwl:WellAll P h vals args) :
  ∃ a vs ns,vals = [Value.ref a] ∧ args = [WData.list (ns.map WData.int)] ∧ h.get? a = some { cls:=.type "list",data:=.seq vs.toArray } ∧ IntsAre vs ns ∧ ns.length ≤ n:= by
 have hsh:WShape.hasAll [] args [.list .int] = true:=(pre_splitW hpre).1
 have hc:l.pre.holds [] { args:=args } = true:=(pre_splitW hpre).2
 obtain ⟨d,r,rfl,h1,h2⟩:=hasAllW_cons hsh
 obtain rfl:=hasAllW_nil h2
 obtain ⟨xs,rfl,h3⟩:=hasW_list h1
 obtain ⟨ns,rfl⟩:=items_int h3
 have hlen:ns.length ≤ n:= by
  unfold OpenLaw.pre at hc
  have h4:(WTm.not (.lt (.lit (.int (n:Int))) (.len (.arg 0)))).holds [] { args:=[.list (ns.map .int)] } = true:= by
   have h4:=(holds_andW hc).1
   rw [hn] at h4
   exact h4
  have h5:=condW_of h4 (w_not (w_lt w_lit (w_len_list (w_arg rfl))))
  rw [List.length_map] at h5
  refine Nat.le_of_not_lt fun q => ?_
  have q':(n:Int) < ((ns.length:Nat):Int):=by omega
  first
   | (rw [decide_eq_true q'] at h5; exact absurd h5 (by decide))
   | (simp at h5; omega)
 cases hwl with
 | cons w1 w2 =>
  cases w2
  cases w1 with
  | list ho hall => exact ⟨_,_,ns,rfl,rfl,ho,lj ns _ hall,hlen⟩
theorem post_true (l:OpenLaw) (args:List WData):l.row.toRowW.claim.post args (.bool true) args = true :=
 postW_of (r:=l.row.toRowW) (X:=(true == true))
  (show WShape.has [] (.bool true) .bool = true by first | rfl | decide | simp [WShape.has,WShape.arms,WShape.armsAll])
  (show (WTm.eq .res (.lit (.bool true))).value [] { args:=args,res:=some (.bool true),after:=args } = some (.bool (true == true)) from w_eq_bool (w_res rfl) w_lit) rfl
theorem attach_call {l:OpenLaw} {n:Nat} {q:Program} {loose:List Str} {XP:(Str -> Option Value) -> Heap -> Prop} {YP:World -> Heap -> Prop} {d:DefRec}
  (hn:l.most = some n) (hdf:d.params.defaults = [])
  (call:∀ (w:World) (s₀ s₁:Shared) (mg mb:Str -> Option Value) (fa:Addr) (o:Obj) (pm cd doc:Value) (a:Addr) (vs:List Value) (ns:List Int),
   Ground q loose [] XP w s₀ mg mb s₁.heap -> YP w s₁.heap ->
   s₁.heap.get? fa = some o -> o.data = .func (docDef d.name d.params d.body d.scope pm cd doc) -> s₁.heap.CodeRec cd d.name -> mg d.name = some (.ref fa) ->
   s₁.heap.get? a = some { cls:=.type "list",data:=.seq vs.toArray } -> IntsAre vs ns -> ns.length ≤ n -> s₁.gens = #[] ->
   codeAny (model l.prog w) callerA (.call (.ref fa) ⟨[.ref a],[]⟩) (fun r s' => r = .ok (.ret (.bool true)) ∧ OldK s₁.heap s'.heap ∧ s'.os = s₁.os ∧ AllBare s'.gens) s₁) :
  WalkO q loose XP YP l.row.toRowW d [] (fun f vs => PySem.call f vs):= by
 intro w s₀ s₁ mg mb G Y fa o pm cd doc dV kV ho hd hcd hD hmg hg args vals as hpre hlay hrd hwl hlo
 obtain rfl:dV = .none:=Dflts.none hD hdf
 obtain rfl:kV = .none:=Dflts.noKw hD
 obtain ⟨a,vs,ns,rfl,rfl,hobj,hints,hlen⟩:=script_of hn hpre hwl
 refine enter_call (codeAny_mono (call w s₀ s₁ mg mb fa o pm cd doc a vs ns G Y ho (fd_plain hd) hcd hmg hobj hints hlen hg) fun r s' hq => ?_)
 obtain ⟨rfl,h2,h3,h4⟩:=hq
 exact ⟨.inl ⟨.bool true,.bool true,[],rfl,fun _ => rfl,.bool true,post_true l _,fun _ => ⟨List.Pairwise.nil,fun _ hm => (nomatch hm)⟩⟩,h2,h3,h4⟩
section
variable {prog:Program} {w:World} {A:Around} {E:Value -> Shared -> Prop} {s:Shared} {K:Frag}
end
end Att
namespace L2
open PySem PySem.Spec PyProof.Rows
theorem iR:∀ {vs:List Value} {ns:List Int},IntsAre vs ns -> Vals (ns.map V.int) vs
 | _,_,.nil => .nil
 | _,_,.cons n t h => .cons ⟨t,rfl⟩ (iR h)
def FU (H:Hp):Prop:=∀ b,H b = none ∨ ∃ o xs,H b = some (.frz o (.lst xs))
theorem qL {P:Program} {w:World} {K:PySem.W.Frag} {mg mb:Str -> Option Value} {CX:sv} {k:Nat} {fa a:Addr} {fd:FuncData} {x:Str} {sp:Sp} {s₁:Shared} {vs:List Value} {ns:List Int}
  (KX:K.In s₁.heap) (hns:s₁.heap.Ns mainGlobals mg) (hb:s₁.heap.Ns builtinsNs mb) (hbb:∀ x:Str,x ≠ "__name__" -> mb x = bootBuiltins x) (hlim:s₁.heap.NoLimit) (hg:s₁.gens = #[])
  (ha:s₁.heap.get? a = some { cls:=.type "list",data:=.seq vs.toArray }) (hi:IntsAre vs ns) (hl:ns.length ≤ sizeLine) (hr:c5 k callerA)
  (F:∀ base:Heap,K.In base -> base.Ns mainGlobals mg -> d7 P w K mg base CX k fa fd [x] sp) (hbind:∀ (s:Shared) (u:Value),BindsTo s fd ⟨[u],[]⟩ [(x,u)])
  (hsp:∀ H:Hp,FU H -> iY K H a (ns.map V.int) -> sp [.ref a] H (fun v _ => v = .bl true) fun _ _ _ => False)
  (hCX:∀ H e s',CX [] H s₁ (fun _ _ _ => False) e s' -> False) :
  codeAny (model P w) callerA (.call (.ref fa) ⟨[.ref a],[]⟩) (fun r s' => r = .ok (.ret (.bool true)) ∧ OldK s₁.heap s'.heap ∧ s'.os = s₁.os ∧ AllBare s'.gens) s₁:= by
 have rv:=iR hi
 have lenV:=hi.length
 have core:∀ H:Hp,FU H -> iY K H a (ns.map V.int) -> mL P w H s₁.heap -> (∀ b,H b ≠ none -> b = a) -> (H a ≠ none -> K.lookup a = none) ->
   codeAny (model P w) callerA (.call (.ref fa) ⟨[.ref a],[]⟩) (fun r s' => r = .ok (.ret (.bool true)) ∧ OldK s₁.heap s'.heap ∧ s'.os = s₁.os ∧ AllBare s'.gens) s₁:= by
  intro H hO hS hok hA hK
  have base_of:∀ {b:Addr} {o:Obj},s₁.heap.get? b = some o -> H b = none -> (pS s₁.heap H).get? b = some o:=fun e n => xT e n
  have noA:∀ {b:Addr} {o:Obj} {es:Array DictEntry} {ep:Nat},s₁.heap.get? b = some o -> o.data = .dict es ep -> H b = none:=fun {b o es ep} e d => by
   cases q:H b with
   | none => rfl
   | some u =>
    have e':b = a:=hA b (by rw [q]; simp)
    subst e'
    rw [ha] at e; cases e
    have d':Data.seq vs.toArray _ = Data.dict es ep:=d
    cases d'
  have nsK:∀ {b:Addr} {m:Str -> Option Value},s₁.heap.Ns b m -> (pS s₁.heap H).Ns b m:=fun {b m} ⟨o,es,ep,e,d,r⟩ => ⟨o,es,ep,base_of e (noA e d),d,r⟩
  have hKb:K.In (pS s₁.heap H):=fun b o e => base_of (KX b o e) (by
   cases q:H b with
   | none => rfl
   | some u =>
    have e':b = a:=hA b (by rw [q]; simp)
    subst e'
    rw [hK (by rw [q]; simp)] at e; cases e)
  have hM:Mod K mg (pS s₁.heap H):=⟨hKb,nsK hns,⟨mb,nsK hb,hbb⟩,let ⟨mc,h1,h2⟩:=hlim; ⟨mc,nsK h1,h2⟩⟩
  have e0:Bz P w K mg (pS s₁.heap H) callerA [] s₁ H:=⟨rfl,hM,fun b o e => BL e,Nat.le_of_eq (wd _ _),trivial,fun b hb => absurd (show b ∈ ([]:List Addr) from hb) (by simp),hok,.of_eq hg⟩
  refine codeAny_mono ((F _ hKb (nsK hns)).run callerA [] s₁ H ⟨[.ref a],[]⟩ [.ref a] [.ref a] _ _ hr e0 (hbind s₁ (.ref a)) (.cons rfl .nil) (hsp H hO hS)) fun r s' h => ?_
  cases r with
  | error e => exact (hCX H e s' h).elim
  | ok fl =>
   cases fl with
   | next => exact False.elim h
   | brk => exact False.elim h
   | cont => exact False.elim h
   | ret u =>
    obtain ⟨v,H',os,bare,un,hok',r',q⟩:=h
    have q':v = .bl true:=q
    subst q'
    obtain rfl:u = Value.bool true:=r'
    refine ⟨rfl,OldK.of_keep fun b o e => ?_,os,bare⟩
    cases q:H b with
    | none => exact un.keep b o e q (by intro z; exact absurd (show b ∈ ([]:List Addr) from z) (by simp)) (by simp)
    | some u =>
     rcases hO b with z | ⟨ob,xs,z⟩
     ·rw [q] at z; cases z
     ·have z2:=un.frzs b ob _ z
      obtain ⟨e1,_⟩:=hok b _ z
      obtain ⟨e2,_⟩:=hok' b _ z2
      rw [e] at e1; cases e1
      exact e2
 cases hk:K.lookup a with
 | some o =>
  have e:=KX a o hk
  rw [ha] at e
  cases e
  refine core (fun _ => none) (fun _ => .inl rfl) (.inr ⟨_,vs.toArray,_,hk,rfl,rfl,rfl,by rw [List.size_toArray,lenV]; exact hl,by simpa using rv⟩) (fun b u z => by have z':(none:Option HO) = some u:=z; cases z') (fun b z => absurd rfl z) fun z => absurd rfl z
 | none =>
  refine core (fun b => if b = a then some (.frz { cls:=.type "list",data:=.seq vs.toArray } (.lst (ns.map V.int))) else none) (fun b => ?_) (.inl (.inr ⟨{ cls:=.type "list",data:=.seq vs.toArray },if_pos rfl⟩)) (fun b u z => ?_) (fun b z => ?_) fun _ => hk
  ·by_cases hb:b = a
   ·exact .inr ⟨_,_,if_pos hb⟩
   ·exact .inl (if_neg hb)
  ·by_cases hb:b = a
   ·have z':=(if_pos hb).symm.trans z
    cases z'
    subst hb
    exact ⟨ha,by rw [List.length_map]; exact hl,vs,_,rv,ha⟩
   ·have z':=(if_neg hb).symm.trans z
    cases z'
  ·by_cases hb:b = a
   ·exact hb
   ·exact absurd (if_neg hb) z
end L2
namespace L2
open PySem PySem.Spec PyProof.Rows
abbrev Kh {K:PySem.W.Frag} {h:Heap} (_:K.In h):PySem.W.Frag:=K
theorem IP {l:PySem.W.OpenLaw} {n k:Nat} {q:Program} {loose:List Str} {XP:(Str -> Option Value) -> Heap -> Prop} {YP:World -> Heap -> Prop} {d:DefRec} {K:Params -> PySem.W.Frag} {CX:World -> sv} {sp:World -> Sp} {x:Str}
  (hn:l.most = some n) (hn2:n ≤ sizeLine) (hdf:d.params.defaults = []) (hr:c5 k callerA)
  (hY:∀ (w:World) (h:Heap),YP w h -> (K w.params).In h)
  (F:∀ (w:World) (mg:Str -> Option Value) (fa:Addr) (h:Heap),(K w.params).In h -> h.Ns mainGlobals mg -> mg d.name = some (.ref fa) ->
   ∃ fd:FuncData,(∀ (s:Shared) (u:Value),BindsTo s fd ⟨[u],[]⟩ [(x,u)]) ∧
    ∀ base:Heap,(K w.params).In base -> base.Ns mainGlobals mg -> d7 l.prog w (K w.params) mg base (CX w) k fa fd [x] (sp w))
  (hsp:∀ (w:World) (H:Hp) (a:Addr) (ns:List Int),ns.length ≤ n -> FU H -> iY (K w.params) H a (ns.map V.int) -> sp w [.ref a] H (fun v _ => v = .bl true) fun _ _ _ => False)
  (hCX:∀ (w:World) (H:Hp) (s:Shared) (e:Value) (s':Shared),CX w [] H s (fun _ _ _ => False) e s' -> False) :
  PySem.W.WalkO q loose XP YP l.row.toRowW d [] (fun f vs => PySem.call f vs):= by
 refine Att.attach_call hn hdf fun w s₀ s₁ mg mb fa o pm cd doc a vs ns G Y ho hd hcd hmg hobj hints hlen hg => ?_
 have KX:=hY w _ Y
 obtain ⟨fd,hb,hF⟩:=F w mg fa _ KX G.T.g hmg
 exact qL KX G.T.g G.T.b G.T.builtins G.T.nolimit hg hobj hints (Nat.le_trans hlen hn2) hr hF hb (fun H hO hS => hsp w H a ns hlen hO hS) fun H e s' => hCX w H s₁ e s'
end L2
namespace L2
open PySem PySem.Spec PyProof.Rows
def fA (s:Stmt):Arguments:=match s with
 | .FunctionDef _ a _ _ _ _ _ _ _ _ => a
 | _ => { posonlyargs:=[],args:=[],vararg:=none,kwonlyargs:=[],kw_defaults:=[],kwarg:=none,defaults:=[] }
def cF (s:Stmt):List Stmt:=match s with
 | .FunctionDef _ _ b _ _ _ _ _ _ _ => b
 | _ => []
def ao (s:Stmt):Scope:=match s with
 | .FunctionDef _ _ _ _ _ _ sc _ _ _ => sc
 | _ => { kind:=.function,names:=[],isGenerator:=false,isCoroutine:=false }
abbrev du:sv:=fun _ _ _ _ _ _ => False
abbrev E0:XK:=fun _ _ _ => False
theorem x9 {X:Cx}:Passes du X E0:=fun _ _ _ _ _ _ _ h => h.elim
structure BQ (K:PySem.W.Frag) (x qual:Str) (st:Stmt) (f:Addr) (fd:FuncData):Prop where
 ex:∃ (oc:Value) (od:Option Addr) (kV doc pm:Value) (an:Option Addr) (cdv ct:Value) (osl:Array (Option Value)),
  fd = PySem.W.fnOf x qual (fA st) (cF st) (ao st) .none kV doc pm an cdv ct ∧ K.lookup f = some ⟨oc,od,.func fd,osl⟩ ∧ PySem.W.codeIn K cdv qual = true
 kp:PySem.W.keepIn K (.ref f) = true
section
variable {P:Program} {w:World} {K:PySem.W.Frag} {mg:Str -> Option Value} {base:Heap}
theorem BQ.ok {x qual:Str} {st:Stmt} {f:Addr} {fd:FuncData} {N ps:List Str} {k:Nat} {sp:Sp} (F:BQ K x qual st f fd) (S:aH N ps (ao st)) (len:∀ vs H Q E,sp vs H Q E -> vs.length = ps.length)
  (hbody:∀ (cdv:Value) (A:Around) (outer:List Env) (s:Shared) (H:Hp) (vs:List V) (Q:VK) (E:XK),c5 k (A.deeper (envOfC qual (ao st) s.heap.objs.size f cdv)) -> sp vs H Q E ->
   ∃ t,sA (jW du P w K mg base N qual (ao st) f cdv A outer s H E).nox (cF st) t ∧ t { nx:=fun _ H' => Q .non H',rt:=Q } (start N vs) H):d7 P w K mg base du (k + 1) f fd ps sp:= by
 obtain ⟨oc,od,kV,doc,pm,an,cdv,ct,osl,rfl,lk,hcd⟩:=F.ex
 refine Iv lk hcd S len fun A outer s H vs Q E hr hsp => ?_
 obtain ⟨t,h,q⟩:=hbody cdv A outer s H vs Q E hr hsp
 exact ⟨t,h.nox,q⟩
theorem BQ.binds {x qual:Str} {st:Stmt} {f:Addr} {fd:FuncData} {ps:List Str} (F:BQ K x qual st f fd)
  (h:∀ (kV doc pm:Value) (an:Option Addr) (cdv ct:Value) (us:List Value),us.length = ps.length -> bindArgs (PySem.W.fnOf x qual (fA st) (cF st) (ao st) .none kV doc pm an cdv ct) ⟨us,[]⟩ = pure (ps.zip us)):Binds K fd ps []:= by
 obtain ⟨oc,od,kV,doc,pm,an,cdv,ct,osl,rfl,lk,hcd⟩:=F.ex
 exact .all (h kV doc pm an cdv ct)
theorem yQ {x qual:Str} {st:Stmt} {f:Addr} {oc:Value} {od an:Option Addr} {osl:Array (Option Value)} {kV doc pm cdv ct:Value} (l:K.lookup f = some ⟨oc,od,.func (PySem.W.fnOf x qual (fA st) (cF st) (ao st) .none kV doc pm an cdv ct),osl⟩)
  (c:PySem.W.codeIn K cdv qual = true) (k:PySem.W.keepIn K (.ref f) = true):BQ K x qual st f (PySem.W.fnOf x qual (fA st) (cF st) (ao st) .none kV doc pm an cdv ct):=⟨⟨oc,od,kV,doc,pm,an,cdv,ct,osl,rfl,l,c⟩,k⟩
end
section
variable {X:Cx}
end
theorem Ij {A B:Prop} (h:B):if false = true then A else B:= by
 rw [if_neg Bool.false_ne_true]
 exact h
theorem Gy {A B:Prop} (h:A):if true = true then A else B:= by
 rw [if_pos rfl]
 exact h
def yX (H H':Hp):Prop:=∀ b o,H b = some o -> H' b = some o
end L2
namespace L2
open PySem
theorem p7 {prog:Program} {w:World} {A:Around} {R:Result -> Shared -> Prop} {s:Shared} {elt target iter:Expr} {ifs:List Expr} {scope:Scope} {pos:Pos} {it acc:Value} {env:Env} (I:Nat -> Shared -> Prop)
  (turn:∀ n s,I n s -> wpAny (model prog w) A (pyNext it) (fun r s1 => match r with
   | none => R (.ok .next) s1
   | some v => wpAny (model prog w) A (letOwnedTupleGo target it v) (fun _ s2 => wpAny (model prog w) A (assign target env v) (fun _ s3 =>
     wpAny (model prog w) A (forIn ifs true fun c r => if r = true then do let ok <- isTrue c env (eval c env); pure (ForInStep.yield ok) else pure (ForInStep.yield r)) (fun ok s4 =>
      if ok = true then wpAny (model prog w) A (eval elt env) (fun x s5 =>
       wpAny (model prog w) A (call (.builtin "list.append") [acc,x]) (fun _ s6 => ∃ m,m < n ∧ I m s6) (fun _ _ => False) s5) (fun _ _ => False) s4
      else ∃ m,m < n ∧ I m s4) (fun _ _ => False) s3) (fun _ _ => False) s2) (fun _ _ => False) s1) (fun _ _ => False) s)
  (n:Nat) (h:I n s) :
  codeAny (model prog w) A (.compLoop (.ListComp elt [⟨target,iter,ifs,0⟩] scope pos) 0 it acc env) R s:= by
 refine codeAny_loop rfl I (fun n s hI => ?_) n h
 show wpAny _ A ((compTurn (.ListComp elt [⟨target,iter,ifs,0⟩] scope pos) 0 it acc env).onRaise (fun x => do noteFrame x env; theTreesLotGoes x)) _ _ s
 refine wpAny_noted ?_
 rw [compTurn_list]
 refine wpAny_bind (wpAny_standAt (wpAny_bind (wpAny_mono (turn n s hI) (fun r s₁ h₁ => ?_) fun _ _ h' => h'.elim)))
 cases r with
 | none => exact wpAny_pure h₁
 | some v =>
  refine wpAny_bind (wpAny_mono h₁ (fun _ s₂ h₂ => ?_) fun _ _ h' => h'.elim)
  refine wpAny_bind (wpAny_mono h₂ (fun _ s₃ h₃ => wpAny_bind (wpAny_mono h₃ (fun ok s₄ h₄ => ?_) fun _ _ h' => h'.elim)) fun _ _ h' => h'.elim)
  cases ok with
  | false => exact wpAny_pure ⟨rfl,h₄⟩
  | true =>
   exact wpAny_bind (wpAny_bind (wpAny_mono h₄ (fun x s₅ h₅ => wpAny_bind (wpAny_mono h₅ (fun _ s₆ h₆ => wpAny_pure (wpAny_pure ⟨rfl,h₆⟩)) fun _ _ h' => h'.elim)) fun _ _ h' => h'.elim))
def jv (cells:List (Str × Addr)):List (Str × NameKind) -> List (Str × Addr) -> List (Str × Addr)
 | [],acc => acc
 | (n,k) :: r,acc => if k == .free then (match cells.lookup n with | some c => jv cells r ((n,c) :: acc) | none => jv cells r acc) else jv cells r acc
theorem nt {scope:Scope} {env:Env} (h:∀ n,(n,NameKind.free) ∈ scope.names -> ∃ c,env.cells.lookup n = some c):closureFor scope env = pure (jv env.cells scope.names []):= by
 have gen:∀ (names:List (Str × NameKind)) (acc:List (Str × Addr)),(∀ n,(n,NameKind.free) ∈ names -> ∃ c,env.cells.lookup n = some c) ->
   (forIn names acc (fun (x:Str × NameKind) (r:List (Str × Addr)) => match x with
    | (name,kind) => if (kind == .free) = true then do let a <- cellOf env name; pure (ForInStep.yield ((name,a) :: r)) else pure (ForInStep.yield r)):Sem (List (Str × Addr))) = pure (jv env.cells names acc):= by
  intro names
  induction names with
  | nil => intro acc _; rfl
  | cons x r ih =>
   intro acc hx
   obtain ⟨n,k⟩:=x
   rw [List.forIn_cons]
   unfold jv
   by_cases hk:(k == NameKind.free) = true
   ·have e:k = .free:=by simpa using hk
    subst e
    obtain ⟨c,hc⟩:=hx n List.mem_cons_self
    dsimp only
    rw [if_pos hk,if_pos hk,hc]
    have:cellOf env n = pure c:=by unfold cellOf; rw [hc]
    rw [this]
    show (pure c >>= fun a => _) >>= _ = _
    rw [pure_bind,pure_bind]
    exact ih _ fun m hm => hx m (List.mem_cons_of_mem _ hm)
   ·dsimp only
    rw [if_neg hk,if_neg hk,pure_bind]
    exact ih _ fun m hm => hx m (List.mem_cons_of_mem _ hm)
 have g0:=gen scope.names [] h
 unfold closureFor
 refine Eq.trans (congrArg (fun z:Sem (List (Str × Addr)) => z >>= fun r => pure r) g0) ?_
 exact pure_bind _ _
theorem jA {cells:List (Str × Addr)}:∀ {names:List (Str × NameKind)} {acc:List (Str × Addr)} {x:Str} {c:Addr},(x,c) ∈ jv cells names acc -> (x,c) ∈ acc ∨ (cells.lookup x = some c ∧ (x,NameKind.free) ∈ names)
 | [],_,_,_,h => .inl h
 | (n,k) :: r,acc,x,c,h => by
  unfold jv at h
  split at h
  ·rename_i hk
   have e:k = NameKind.free:=by simpa using hk
   subst e
   split at h
   ·rename_i d hd
    rcases jA h with h | ⟨h1,h2⟩
    ·rcases List.mem_cons.mp h with e | h
     ·cases e; exact .inr ⟨hd,List.mem_cons_self⟩
     ·exact .inl h
    ·exact .inr ⟨h1,List.mem_cons_of_mem _ h2⟩
   ·rcases jA h with h | ⟨h1,h2⟩
    ·exact .inl h
    ·exact .inr ⟨h1,List.mem_cons_of_mem _ h2⟩
  ·rcases jA h with h | ⟨h1,h2⟩
   ·exact .inl h
   ·exact .inr ⟨h1,List.mem_cons_of_mem _ h2⟩
theorem iQ {cells:List (Str × Addr)}:∀ {names:List (Str × NameKind)} {acc:List (Str × Addr)} {x:Str},((x,NameKind.free) ∈ names ∧ (cells.lookup x).isSome = true) ∨ (acc.lookup x).isSome = true -> ((jv cells names acc).lookup x).isSome = true
 | [],_,_,h => h.elim (fun z => nomatch z.1) id
 | (n,k) :: r,acc,x,h => by
  unfold jv
  by_cases hk:(k == NameKind.free) = true
  ·rw [if_pos hk]
   cases hd:cells.lookup n with
   | none =>
    dsimp only
    refine iQ ?_
    rcases h with ⟨h1,h2⟩ | h
    ·rcases List.mem_cons.mp h1 with e | h1
     ·cases e; rw [hd] at h2; cases h2
     ·exact .inl ⟨h1,h2⟩
    ·exact .inr h
   | some d =>
    dsimp only
    refine iQ ?_
    by_cases hx:(x == n) = true
    ·exact .inr (by rw [List.lookup_cons,hx]; rfl)
    ·have hx':(x == n) = false:=by simpa using hx
     rcases h with ⟨h1,h2⟩ | h
     ·rcases List.mem_cons.mp h1 with e | h1
      ·cases e; simp at hx'
      ·exact .inl ⟨h1,h2⟩
     ·exact .inr (by rw [List.lookup_cons,hx']; exact h)
  ·rw [if_neg hk]
   refine iQ ?_
   rcases h with ⟨h1,h2⟩ | h
   ·rcases List.mem_cons.mp h1 with e | h1
    ·cases e; simp at hk
    ·exact .inl ⟨h1,h2⟩
   ·exact .inr h
theorem dz:∀ (names:List (Str × NameKind)) (n:Nat) (acc:List (Str × Addr)),cellsFrom n names acc = cellsFrom n names [] ++ acc
 | [],_,_ => rfl
 | (x,k) :: r,n,acc => by
  unfold cellsFrom
  split
  ·rw [dz r (n + 1) ((x,n) :: acc),dz r (n + 1) [(x,n)],List.append_assoc]; rfl
  ·exact dz r n acc
theorem e_:∀ (names:List (Str × NameKind)) (n:Nat) (x:Str) (c:Addr),(x,c) ∈ cellsFrom n names [] -> (x,NameKind.cell) ∈ names
 | [],_,_,_,h => nomatch h
 | (y,k) :: r,n,x,c,h => by
  unfold cellsFrom at h
  split at h
  ·rename_i hk
   have e:k = NameKind.cell:=by simpa using hk
   subst e
   rw [dz] at h
   rcases List.mem_append.mp h with h | h
   ·exact List.mem_cons_of_mem _ (e_ r (n + 1) x c h)
   ·have e:(x,c) = (y,n):=by simpa using h
    cases e; exact List.mem_cons_self
  ·exact List.mem_cons_of_mem _ (e_ r n x c h)
theorem qG {M:Model} {A:Around} {E:Value -> Shared -> Prop} {s:Shared} {scope:Scope} {globals:Addr} {cl:List (Str × Addr)} {qual:Str} {outer:Env} {Q:Env -> Shared -> Prop}
  (hQ:Q (newEnv scope s.heap.objs.size globals (cellsFrom (s.heap.objs.size + 1) scope.names cl) qual none .none (some outer) builtinsNs) { s with heap:=pushCells (s.heap.push { cls:=.type "dict",data:=.dict #[] }) scope.names }) :
  wpAny M A (newFunctionEnv scope globals cl [] qual none .none (some outer)) Q E s:= by
 simp only [newFunctionEnv,Option.isSome_some,if_true]
 refine wpAny_bind (wpAny_alloc ?_)
 refine wpAny_bind (wpAny_layCells _ (fun name kind cells => by cases hkc:kind == NameKind.cell <;> simp [hkc]) _ _ _ _ ?_)
 rw [show ({ s with heap:=s.heap.push { cls:=.type "dict",data:=.dict #[] } }:Shared).heap.objs.size = s.heap.objs.size + 1 from Heap.size_push ..]
 exact wpAny_bind (wpAny_pure (wpAny_pure hQ))
end L2
namespace L2
open PySem PySem.Spec PyProof.Rows
def iu (N own:List Str) (sc0 scope:Scope):Bool :=
 scope.names.all (fun x => !(x.2 == .local) || (scope.names.lookup x.1 == some .local)) &&
 (scope.names.all (fun x => !(x.2 == .free) || (sc0.names.lookup x.1 == some .cell || sc0.names.lookup x.1 == some .free)) &&
 (scope.names.all (fun x => !(x.2 == .local || x.2 == .cell) || !(N.contains x.1)) &&
 (own.all (fun x => scope.names.all fun y => !(y.1 == x) || !(y.2 == .free)) &&
 scope.names.all (fun x => !(x.2 == .free) || scope.names.all fun y => !(y.1 == x.1) || (y.2 == .free)))))
structure tN (N own:List Str) (sc0 scope:Scope):Prop where
 loc:∀ x ∈ scope.names,x.2 = .local -> scope.names.lookup x.1 = some .local
 free:∀ n,(n,NameKind.free) ∈ scope.names -> sc0.names.lookup n = some .cell ∨ sc0.names.lookup n = some .free
 out:∀ n k,(n,k) ∈ scope.names -> (k = .local ∨ k = .cell) -> n ∉ N
 own:∀ x ∈ own,(x,NameKind.free) ∉ scope.names
 one:∀ n k,(n,NameKind.free) ∈ scope.names -> (n,k) ∈ scope.names -> k = .free
theorem wo {N own:List Str} {sc0 scope:Scope} (h:iu N own sc0 scope = true):tN N own sc0 scope:= by
 unfold iu at h
 simp only [Bool.and_eq_true,List.all_eq_true,Bool.or_eq_true,Bool.not_eq_true',beq_iff_eq,Bool.or_eq_false_iff] at h
 obtain ⟨h1,h2,h3,h4,h5⟩:=h
 refine ⟨fun x hx e => ?_,fun n hn => ?_,fun n k hn e hN => ?_,fun x hx hn => ?_,fun n k hn hk => ?_⟩
 ·rcases h1 x hx with z | z
  ·rw [e] at z; simp at z
  ·exact z
 ·rcases h2 _ hn with z | z
  ·simp at z
  ·exact z
 ·rcases h3 _ hn with ⟨z1,z2⟩ | z
  ·rcases e with e | e
   ·rw [e] at z1; simp at z1
   ·rw [e] at z2; simp at z2
  ·have:N.contains n = true:=by simpa using hN
   dsimp only at z
   rw [this] at z; cases z
 ·rcases h4 x hx _ hn with z | z
  ·simp at z
  ·simp at z
 ·rcases h5 _ hn with z | z
  ·simp at z
  ·rcases z _ hk with y | y
   ·simp at y
   ·exact y
def ic (N N':List Str) (scope:Scope):Bool:=(N'.length == N.length) && (N'.zip N).all fun p => p.1 == p.2 || (scope.names.lookup p.1).isNone
structure zI (N N':List Str) (scope:Scope):Prop where
 len:N'.length = N.length
 same:∀ (i:Nat) x,N'[i]? = some x -> N[i]? = some x ∨ scope.names.lookup x = none
theorem vY {N N':List Str} {scope:Scope} (h:ic N N' scope = true):zI N N' scope:= by
 unfold ic at h
 simp only [Bool.and_eq_true,beq_iff_eq,List.all_eq_true,Bool.or_eq_true,Option.isNone_iff_eq_none] at h
 refine ⟨h.1,fun i x e => ?_⟩
 have hi:i < N'.length:=(List.getElem?_eq_some_iff.mp e).1
 have hi2:i < N.length:=by rw [<- h.1]; exact hi
 have ez:(N'.zip N)[i]? = some (x,N[i]):= by
  rw [List.getElem?_zip_eq_some]
  exact ⟨e,List.getElem?_eq_getElem hi2⟩
 rcases h.2 _ (List.mem_of_getElem? ez) with z | z
 ·left
  rw [List.getElem?_eq_getElem hi2]
  exact congrArg some z.symm
 ·exact .inr z
def blk (X:Cx) (N' own:List Str) (scope:Scope) (s:Shared) (H:Hp) (fp:List Addr) (pins:List (Addr × Obj)):Cx where
 prog:=X.prog
 w:=X.w
 K:=X.K
 mg:=X.mg
 base:=X.base
 A:=X.A
 N:=N' ++ own
 s₀:=s
 H₀:=H
 env:={ newEnv scope s.heap.objs.size X.env.globals (cellsFrom (s.heap.objs.size + 1) scope.names (jv X.env.cells scope.names [])) X.env.qual none .none (some X.env) builtinsNs with scope:=relabel scope X.env }
 outer:=X.stack
 stack:=X.stack
 ex:=fp
 fn:=fun x => own.contains x
 calm:=X.calm
 pn:=X.pn ++ pins
 xe:=fun _ _ => False
theorem h_ {env:Env}:∀ {names:List (Str × NameKind)} {x:Str},
  (names.map fun (n,k) => if (k == NameKind.free && env.scope.kind == .function && env.kindOf n == some .cell) then (n,NameKind.cell) else (n,k)).lookup x =
   (names.lookup x).map fun k => if (k == NameKind.free && env.scope.kind == .function && env.kindOf x == some .cell) then NameKind.cell else k
 | [],_ => rfl
 | (n,k) :: r,x => by
  have ih:=@h_ env r x
  rw [List.map_cons]
  cases hx:x == n with
  | true =>
   have e:x = n:=by simpa using hx
   subst e
   by_cases hc:(k == NameKind.free && env.scope.kind == .function && env.kindOf x == some .cell) = true
   ·dsimp only; rw [if_pos hc]; simp only [List.lookup_cons,hx,Option.map_some]; rw [if_pos hc]
   ·dsimp only; rw [if_neg hc]; simp only [List.lookup_cons,hx,Option.map_some]; rw [if_neg hc]
  | false =>
   by_cases hc:(k == NameKind.free && env.scope.kind == .function && env.kindOf n == some .cell) = true
   ·dsimp only; rw [if_pos hc]; simp only [List.lookup_cons,hx]; exact ih
   ·dsimp only; rw [if_neg hc]; simp only [List.lookup_cons,hx]; exact ih
theorem dq {scope:Scope} {env:Env} {x:Str} {k':NameKind} (h:(relabel scope env).names.lookup x = some k'):∃ k,scope.names.lookup x = some k ∧ (k' = k ∨ (k = .free ∧ k' = .cell)):= by
 have h':(scope.names.map fun (n,k) => if (k == NameKind.free && env.scope.kind == .function && env.kindOf n == some .cell) then (n,NameKind.cell) else (n,k)).lookup x = some k':=h
 rw [h_] at h'
 cases e:scope.names.lookup x with
 | none => rw [e] at h'; cases h'
 | some k =>
  rw [e] at h'
  simp only [Option.map_some,Option.some.injEq] at h'
  refine ⟨k,rfl,?_⟩
  split at h'
  ·rename_i hc
   simp only [Bool.and_eq_true,beq_iff_eq] at hc
   exact .inr ⟨hc.1.1,h'.symm⟩
  ·exact .inl h'.symm
section
variable {X:Cx} {pins:List (Addr × Obj)} {σ:St} {H:Hp} {s:Shared} {N' own:List Str} {scope:Scope} {fp:List Addr}
theorem oZ (I:Inv X pins σ H s) (S:tN N' own X.env.scope scope):∀ x c,(cellsFrom (s.heap.objs.size + 1) scope.names (jv X.env.cells scope.names [])).lookup x = some c ->
  ((x,c) ∈ cellsFrom (s.heap.objs.size + 1) scope.names [] ∧ (pushCells (s.heap.push { cls:=.type "dict",data:=.dict #[] }) scope.names).IsCell c none ∧ s.heap.objs.size + 1 ≤ c ∧ (x,NameKind.cell) ∈ scope.names) ∨
   (X.env.cells.lookup x = some c ∧ (x,NameKind.free) ∈ scope.names ∧ c < s.heap.objs.size):= by
 intro x c h
 have ok:=cellsFrom_ok scope.names (s.heap.push { cls:=.type "dict",data:=.dict #[] }) (s.heap.objs.size + 1) [] ⟨fun _ _ hm => (nomatch hm),List.Pairwise.nil⟩ (by rw [Heap.size_push]; exact Nat.le_refl _)
 rw [Heap.size_push] at ok
 have hm:=mem_of_lookup h
 rw [dz] at hm
 rcases List.mem_append.mp hm with hm | hm
 ·exact .inl ⟨hm,(ok.empty x c hm).1,(ok.empty x c hm).2,e_ _ _ _ _ hm⟩
 ·rcases jA hm with z | ⟨z1,z2⟩
  ·exact nomatch z
  ·obtain ⟨v,q⟩:=I.cell x c z1
   exact .inr ⟨z1,z2,q.lt⟩
theorem Inv.blkKeep {s:Shared} {scope:Scope}:∀ (b:Addr) (o:Obj),s.heap.get? b = some o -> (pushCells (s.heap.push { cls:=.type "dict",data:=.dict #[] }) scope.names).get? b = some o:=fun b o e =>
 pushCells_keeps _ _ b o (Heap.get?_push_of_some _ e)
theorem Inv.blk (I:Inv X pins σ H s) (hf:∀ b ∈ fp,jt X pins H b) (ho:∀ b ∈ fp,b < s.heap.objs.size) (hk:scope.kind = .function) (S:tN N' own X.env.scope scope) (Mk:zI X.N N' scope) :
  Inv (blk X N' own scope s H fp pins) [] (σ ++ List.replicate own.length none) H { s with heap:=pushCells (s.heap.push { cls:=.type "dict",data:=.dict #[] }) scope.names }:= by
 have hcells:=oZ I S
 have keep:=@Inv.blkKeep s scope
 have hasC:∀ x,((relabel scope X.env).names.lookup x = some .cell ∨ (relabel scope X.env).names.lookup x = some .free) -> ∃ c,(cellsFrom (s.heap.objs.size + 1) scope.names (jv X.env.cells scope.names [])).lookup x = some c:= by
  intro x hx
  have:∃ k,scope.names.lookup x = some k ∧ (k = .cell ∨ k = .free):= by
   rcases hx with hx | hx
   ·obtain ⟨k,e,z⟩:=dq hx
    rcases z with z | ⟨z,_⟩
    ·exact ⟨k,e,.inl z.symm⟩
    ·exact ⟨k,e,.inr z⟩
   ·obtain ⟨k,e,z⟩:=dq hx
    rcases z with z | ⟨z,_⟩
    ·exact ⟨k,e,.inr z.symm⟩
    ·exact ⟨k,e,.inr z⟩
  obtain ⟨k,e,z⟩:=this
  refine Option.isSome_iff_exists.mp (PySem.W.cellsFrom_some scope.names _ _ ?_)
  rcases z with z | z
  ·subst z; exact .inl e
  ·subst z
   have hm:=mem_of_lookup e
   obtain ⟨c,hc⟩:=I.ok.has x (S.free x hm)
   exact .inr (iQ (.inl ⟨hm,by rw [hc]; rfl⟩))
 have sub:∀ b,b ∈ wQ X.stack -> b ∈ X.env.locals :: X.fs:=I.stkSub
 refine ⟨⟨I.ok.mod,hk,I.ok.glob,I.ok.blt,Nat.le_refl _,fun x y c h1 h2 => ?_,fun x hx => hasC x hx,fun x c hx h => ?_,I.ok.hd,I.ok.frames,.inl rfl,fun b hb => ⟨?_,fun x c h => ?_⟩,fun b o e => I.bs b o e,?_,fun b o e hb => ?_,fun b hb hs => ?_,I.stack,I.stkFree⟩,
  rfl,I.bare,Un.kept keep,⟨_,(Heap.Ns.new s.heap (.type "dict")).keeps (pushCells_keeps _ _),fun i x v h1 h2 h3 => ?_⟩,fun x c h => ?_,I.hok.fresh (Nat.le_refl _),fun x c h => ?_,fun p hp => ?_,I.hok.kept keep,?_⟩
 ·
  have ok:=cellsFrom_ok scope.names (s.heap.push { cls:=.type "dict",data:=.dict #[] }) (s.heap.objs.size + 1) [] ⟨fun _ _ hm => (nomatch hm),List.Pairwise.nil⟩ (by rw [Heap.size_push]; exact Nat.le_refl _)
  rw [Heap.size_push] at ok
  rcases hcells x c h1 with ⟨a1,_,a3,_⟩ | ⟨a1,_,a3⟩ <;> rcases hcells y c h2 with ⟨b1,_,b3,_⟩ | ⟨b1,_,b3⟩
  ·exact name_of_addr ok.apart a1 b1
  ·exact absurd b3 (Nat.not_lt.mpr (Nat.le_of_succ_le a3))
  ·exact absurd a3 (Nat.not_lt.mpr (Nat.le_of_succ_le b3))
  ·exact I.ok.inj x y c a1 b1
 ·rcases hcells x c h with ⟨_,_,a3,_⟩ | ⟨_,a2,_⟩
  ·show s.heap.objs.size ≤ c
   exact Nat.le_of_succ_le a3
  ·have hx':own.contains x = true:=hx
   exact absurd a2 (S.own x (by simpa using hx'))
 ·exact Nat.ne_of_lt (ho b hb)
 ·rcases hcells x c h with ⟨_,_,a3,_⟩ | ⟨a1,_,_⟩
  ·intro z; subst z; exact absurd (ho _ hb) (Nat.not_lt.mpr (Nat.le_of_succ_le a3))
  ·exact (hf b hb).2.2.2.2.1 x c a1
 ·exact Nat.le_trans I.ok.bsz I.sz
 ·rcases (hf b hb).2.2.2.1 with z | z
  ·exact I.ok.noex b o e z
  ·exact absurd (Heap.lt_size e) (Nat.not_lt.mpr (Nat.le_trans I.ok.bsz z))
 ·rcases List.mem_cons.mp (sub b hs) with z | z
  ·exact (hf b hb).2.1 z
  ·exact (hf b hb).2.2.1 z
 ·
  have hi:i < σ.length:= by
   by_cases hi:i < σ.length
   ·exact hi
   ·rw [List.getElem?_append_right (by omega),List.getElem?_replicate] at h2
    split at h2 <;> cases h2
  rw [List.getElem?_append_left hi] at h2
  have hN':N'[i]? = some x:= by
   have:(N' ++ own)[i]? = some x:=h1
   rwa [List.getElem?_append_left (by rw [Mk.len,<- I.len]; exact hi)] at this
  have hmem:x ∈ N':=List.mem_of_getElem? hN'
  have hseen:∃ k,scope.names.lookup x = some k:= by
   rcases h3 with h3 | h3 | h3 <;> (obtain ⟨k,e,_⟩:=dq h3; exact ⟨k,e⟩)
  have hN:X.N[i]? = some x:= by
   rcases Mk.same i x hN' with z | z
   ·exact z
   ·obtain ⟨k,e⟩:=hseen
    rw [z] at e; cases e
  have hfree:scope.names.lookup x = some .free ∧ ((relabel scope X.env).names.lookup x = some .cell ∨ (relabel scope X.env).names.lookup x = some .free):= by
   rcases h3 with h3 | h3 | h3
   ·obtain ⟨k,e,z⟩:=dq h3
    rcases z with z | ⟨_,z⟩
    ·exact absurd hmem (S.out x k (mem_of_lookup e) (.inl z.symm))
    ·cases z
   ·obtain ⟨k,e,z⟩:=dq h3
    rcases z with z | ⟨z,_⟩
    ·exact absurd hmem (S.out x k (mem_of_lookup e) (.inr z.symm))
    ·rw [z] at e; exact ⟨e,.inl h3⟩
   ·obtain ⟨k,e,z⟩:=dq h3
    rcases z with z | ⟨z,_⟩
    ·rw [<- z] at e; exact ⟨e,.inr h3⟩
    ·rw [z] at e; exact ⟨e,.inr h3⟩
  have hm:=mem_of_lookup hfree.1
  have hkX:=S.free x hm
  obtain ⟨m,hn,hl⟩:=I.loc
  obtain ⟨u,r,l⟩:=hl i x v hN h2 (.inr hkX)
  refine ⟨u,r,.inr ⟨hfree.2,?_⟩⟩
  rcases l with ⟨k,_⟩ | ⟨_,c,hc,hcell⟩
  ·have k':X.env.scope.names.lookup x = some .local:=k
   rw [k'] at hkX
   rcases hkX with z | z <;> cases z
  ·obtain ⟨c2,hc2⟩:=hasC x hfree.2
   refine ⟨c2,hc2,?_⟩
   rcases hcells x c2 hc2 with ⟨_,_,_,a4⟩ | ⟨a1,_,_⟩
   ·have:=S.one x _ hm a4; cases this
   ·rw [hc] at a1; cases a1
    exact hcell.keeps keep
 ·rcases hcells x c h with ⟨_,a2,_,_⟩ | ⟨a1,_,_⟩
  ·exact ⟨_,a2⟩
  ·obtain ⟨v,q⟩:=I.cell x c a1
   exact ⟨v,q.keeps keep⟩
 ·rcases hcells x c h with ⟨_,_,a3,_⟩ | ⟨a1,_,_⟩
  ·exact I.hok.fresh (by omega)
  ·exact I.freeC x c a1
 ·have hp':p ∈ X.pn ++ pins:= by
   rcases List.mem_append.mp hp with z | z
   ·exact z
   ·exact nomatch z
  obtain ⟨e,n,ne,nf,d⟩:=I.pin p hp'
  refine ⟨keep _ _ e,n,Nat.ne_of_lt (Heap.lt_size e),fun z => ?_,d⟩
  rcases List.mem_cons.mp (sub p.1 z) with z | z
  ·exact ne z
  ·exact nf z
 ·show (σ ++ List.replicate own.length none).length = (N' ++ own).length
  rw [List.length_append,List.length_append,List.length_replicate,I.len,Mk.len]
theorem Inv.unblk (I:Inv X pins σ H s) (hf:∀ b ∈ fp,jt X pins H b) {pins':List (Addr × Obj)} {σ':St} {H':Hp} {s':Shared} (J:Inv (L2.blk X N' own scope s H fp pins) pins' σ' H' s'):Inv X pins σ H' s' :=
 I.call' (ch:=fp) J.os J.base J.hok J.bare fun b hb => ⟨(hf b hb).2.2.2.1,(hf b hb).2.1,(hf b hb).2.2.2.2.1,(hf b hb).2.2.2.2.2⟩
end
def AB (X:Cx) (ifs:List Expr) (t:TT):Prop :=
 ∀ (pins:List (Addr × Obj)) (s:Shared) (σ:St) (H:Hp) (Q:Bool -> Hp -> Prop),Inv X pins σ H s -> t σ H Q ->
  wpAny (model X.prog X.w) X.A (forIn ifs true fun c r => if r = true then do let ok <- isTrue c X.env (eval c X.env); pure (ForInStep.yield ok) else pure (ForInStep.yield r)) (TP X pins σ Q) X.xe s
def Ju:TT:=fun _ H Q => Q true H
theorem Bg {X:Cx}:AB X [] Ju:=fun pins s σ H Q I h => wpAny_tests_nil ⟨H,I,h⟩
theorem BC {X:Cx} {c:Expr} {t:TT} (h:PT X c t):AB X [c] t:=fun pins s σ H Q I q => wpAny_tests_one (h pins s σ H Q I q)
structure Ip (cal:Cx -> Prop) (P:Program) (w:World) (K:PySem.W.Frag) (tg:Expr) (J:It) (fp:List Addr) (it:Addr) (tn:Nat -> Heap -> Prop):Prop where
 obj:∀ i h,tn i h -> ∀ b ∈ fp,∃ o,h.get? b = some o ∧ ∀ v,o.data ≠ .cell v
 keep:∀ i h h',tn i h -> (∀ b ∈ fp,∀ o,h.get? b = some o -> h'.get? b = some o) -> tn i h'
 item:∀ (X:Cx),X.prog = P -> X.w = w -> X.K = K -> cal X -> ∀ (i:Nat) (pins:List (Addr × Obj)) (s:Shared) (σ:St) (H:Hp) (E:Value -> Shared -> Prop),Inv X pins σ H s -> (∀ b ∈ fp,jt X pins H b) -> tn i s.heap -> J.go i H ->
  wpAny (model P w) X.A (pyNext (.ref it)) (fun r s1 => ∃ u,r = some u ∧
   wpAny (model P w) X.A (letOwnedTupleGo tg (.ref it) u) (fun _ s2 => ∃ x H',Inv X pins σ H' s2 ∧ RelV x u ∧ J.yld i H x H' ∧ tn (i + 1) s2.heap ∧ ∀ b ∈ fp,H' b = none) E s1) E s
 done:∀ (X:Cx),X.prog = P -> X.w = w -> X.K = K -> cal X -> ∀ (i:Nat) (pins:List (Addr × Obj)) (s:Shared) (σ:St) (H:Hp) (E:Value -> Shared -> Prop),Inv X pins σ H s -> (∀ b ∈ fp,jt X pins H b) -> tn i s.heap -> J.stop i H ->
  wpAny (model P w) X.A (pyNext (.ref it)) (fun r s1 => r = none ∧ Inv X pins σ H s1) E s
 self:∀ (A:Around) (i:Nat) (s:Shared) (Q:Value -> Shared -> Prop) (E:Value -> Shared -> Prop),tn i s.heap -> Q (.ref it) s -> wpAny (model P w) A (pyIter (.ref it)) Q E s
def J0 (cal:Cx -> Prop) (X:Cx) (tg iter:Expr) (wi:TI):Prop :=
 ∀ (pins:List (Addr × Obj)) (s:Shared) (σ:St) (H:Hp) (R:It -> Hp -> Prop),Inv X pins σ H s -> wi σ H R ->
  wpAny (model X.prog X.w) X.A (eval iter X.env) (fun v s1 => wpAny (model X.prog X.w) X.A (pyIter v) (fun itv s2 => ∃ (it:Addr) (fp:List Addr) (tn:Nat -> Heap -> Prop) (J:It) (H':Hp),itv = .ref it ∧ Inv X pins σ H' s2 ∧ Ip cal X.prog X.w X.K tg J fp it tn ∧ tn 0 s2.heap ∧ (∀ b ∈ fp,jt X pins H' b) ∧ R J H') X.xe s1) X.xe s
theorem PI.g {X:Cx} {tg iter:Expr} {wi:TI} (h:PI X tg iter wi):J0 (fun X => X.calm = true) X tg iter wi:=fun pins s σ H R I q =>
 cW (h pins s σ H R I q) fun _ _ h => cW h fun _ _ ⟨it,fp,tn,J,H',e,I',T,r⟩ => ⟨it,fp,tn,J,H',e,I',⟨T.obj,T.keep,T.item,T.done,T.self⟩,r⟩
def vf (wi:TI) (own:Nat) (g:TG) (tt:TT) (te:TE):TE:=fun σ H Q => wi σ H fun J H1 => ∀ l,H1 l = none -> ∃ W:Nat -> Nat -> List V -> Hp -> Prop,(∃ m,W 0 m [] (upd H1 l (.lst []))) ∧ ∀ i m acc H,W i m acc H ->
 H l = some (.lst acc) ∧ ((J.stop i H ∧ Q (.ref l) H) ∨ (J.go i H ∧ ∀ x H',J.yld i H x H' -> g x (σ ++ List.replicate own none) H' fun σ2 H2 => σ2.take σ.length = σ ∧ tt σ2 H2 fun b H3 =>
  if b = true then te σ2 H3 fun v H4 => H4 l = some (.lst acc) ∧ acc.length < sizeLine ∧ ∃ m',m' < m ∧ W (i + 1) m' (acc ++ [v]) (upd H4 l (.lst (acc ++ [v])))
  else ∃ m',m' < m ∧ W (i + 1) m' acc H3))
section
variable {X:Cx} {elt tg iter:Expr} {ifs:List Expr} {scope:Scope} {pos pos':Pos} {N' own:List Str} {wi:TI} {g:TG} {tt:TT} {te:TE}
theorem ux {cal:Cx -> Prop} (hc:∀ s H fp pins,cal (blk X N' own scope s H fp pins)) (hi:J0 cal X tg iter wi) (hk:scope.kind = .function) (hS:iu N' own X.env.scope scope = true) (hM:ic X.N N' scope = true)
  (hg:∀ s H fp pins,PG (blk X N' own scope s H fp pins) tg g) (ht:∀ s H fp pins,AB (blk X N' own scope s H fp pins) ifs tt) (he:∀ s H fp pins,PE (blk X N' own scope s H fp pins) elt te)
  (hs:∀ x,foldedSetIterable iter X.env x = pure x) {use:Option (Value -> Sem Unit)} {Q0:Value -> Shared -> Prop} {pins:List (Addr × Obj)} {s:Shared} {σ:St} {H:Hp} {Q:VK}
  (I:Inv X pins σ H s) (h:vf wi own.length g tt te σ H Q)
  (fin:∀ (l:Addr) (H':Hp) (s':Shared) (C:Addr) (m:Str -> Option Value),Inv X pins σ H' s' -> Q (.ref l) H' -> s'.heap.Ns C m -> H' C = none -> C ≠ X.env.locals -> X.s₀.heap.objs.size ≤ C -> (∀ x c,X.env.cells.lookup x = some c -> c ≠ C) -> (∀ p ∈ X.pn ++ pins,p.1 ≠ C) ->
   compPost (model X.prog X.w) X.A X.xe use Q0 (.ref l) C (.ok .next) s') :
  wpAny (model X.prog X.w) X.A (comprehension (.ListComp elt [⟨tg,iter,ifs,0⟩] scope pos) scope X.env pos' (newList []) false (eval iter X.env) use) Q0 X.xe s:= by
 have S:=wo hS
 have Mk:=vY hM
 refine wpAny_comprehension_free rfl hs (nt fun n hn => I.ok.has n (S.free n hn)) hk S.loc (cW (hi pins s σ H _ I h) fun xv s1 h1 => cW h1 fun itv s2 h2 => ?_)
 obtain ⟨it,fp,tn,J,H2,e,I2,T,st2,f2,q2⟩:=h2
 subst e
 refine wpAny_newObj_type ?_
 have hl2:H2 s2.heap.objs.size = none:=I2.fresh
 have I3:Inv X pins σ (upd H2 s2.heap.objs.size (.lst [])) { s2 with heap:=s2.heap.push { cls:=.type "list",data:=.seq ([]:List Value).toArray } }:=I2.lnew (its:=[]) (t':=s2.toks) .nil (Nat.zero_le _)
 obtain ⟨W,⟨m0,w0⟩,turn⟩:=q2 s2.heap.objs.size hl2
 generalize hl:s2.heap.objs.size = l at *
 have ob2:∀ b ∈ fp,b < l:=fun b hb => by
  obtain ⟨o,e,_⟩:=T.obj _ _ st2 b hb
  rw [<- hl]; exact Heap.lt_size e
 have st3:tn 0 (s2.heap.push { cls:=.type "list",data:=.seq ([]:List Value).toArray }):=T.keep _ _ _ st2 fun b _ o e => Heap.get?_push_of_some _ e
 have sz3:l < (s2.heap.push { cls:=.type "list",data:=.seq ([]:List Value).toArray }).objs.size:=by rw [Heap.size_push,hl]; exact Nat.lt_succ_self _
 have f3:∀ b ∈ fp,jt X pins (upd H2 l (.lst [])) b:=fun b hb => ⟨by rw [aA (Nat.ne_of_lt (ob2 b hb))]; exact (f2 b hb).1,(f2 b hb).2⟩
 generalize hs3:({ s2 with heap:=s2.heap.push { cls:=.type "list",data:=.seq ([]:List Value).toArray } }:Shared) = s3 at I3
 have hh3:s3.heap = s2.heap.push { cls:=.type "list",data:=.seq ([]:List Value).toArray }:=by rw [<- hs3]
 rw [<- hh3] at st3 sz3
 have ob3:∀ b ∈ fp,b < s3.heap.objs.size:=fun b hb => Nat.lt_trans (ob2 b hb) sz3
 generalize upd H2 l (.lst []) = H3 at *
 show wpAny _ _ (newFunctionEnv scope X.env.globals (jv X.env.cells scope.names []) [] X.env.qual none .none (some X.env)) _ _ _
 have goal:wpAny (model X.prog X.w) X.A (newFunctionEnv scope X.env.globals (jv X.env.cells scope.names []) [] X.env.qual none .none (some X.env))
   (fun cenv s₄ => codeAny (model X.prog X.w) X.A (.compStart (.ListComp elt [⟨tg,iter,ifs,0⟩] scope pos) 0 (.ref it) (.ref l) { cenv with scope:=relabel scope X.env }) (compPost (model X.prog X.w) X.A X.xe use Q0 (.ref l) cenv.locals) s₄) X.xe s3:= by
  refine qG ?_
  have IY:=I3.blk f3 ob3 hk S Mk
  have keep:=@Inv.blkKeep s3 scope
  have st4:tn 0 (pushCells (s3.heap.push { cls:=.type "dict",data:=.dict #[] }) scope.names):=T.keep _ _ _ st3 fun b _ o e => keep b o e
  have hcells:=oZ I3 S
  have stat:∀ {H':Hp},(∀ b ∈ fp,H' b = none) -> ∀ b ∈ fp,jt (blk X N' own scope s3 H3 fp pins) [] H' b:=fun hn b hb => by
   refine ⟨hn b hb,Nat.ne_of_lt (ob3 b hb),fun z => ?_,.inl hb,fun x c h => ?_,fun p hp => ?_⟩
   ·rcases List.mem_cons.mp (I3.stkSub b z) with z | z
    ·exact (f3 b hb).2.1 z
    ·exact (f3 b hb).2.2.1 z
   ·rcases hcells x c h with ⟨_,_,a3,_⟩ | ⟨a1,_,_⟩
    ·intro z; subst z; exact absurd (ob3 _ hb) (Nat.not_lt.mpr (Nat.le_of_succ_le a3))
    ·exact (f3 b hb).2.2.2.2.1 x c a1
   ·have hp':p ∈ X.pn ++ pins:= by
     rcases List.mem_append.mp hp with z | z
     ·exact z
     ·exact nomatch z
    exact (f3 b hb).2.2.2.2.2 p hp'
  have loop:codeAny (model X.prog X.w) X.A (.compLoop (.ListComp elt [⟨tg,iter,ifs,0⟩] scope pos) 0 (.ref it) (.ref l) (blk X N' own scope s3 H3 fp pins).env)
    (compPost (model X.prog X.w) X.A X.xe use Q0 (.ref l) s3.heap.objs.size) { s3 with heap:=pushCells (s3.heap.push { cls:=.type "dict",data:=.dict #[] }) scope.names }:= by
   refine p7 (fun n s' => ∃ i σ' H' acc,Inv (blk X N' own scope s3 H3 fp pins) [] σ' H' s' ∧ σ'.take σ.length = σ ∧ tn i s'.heap ∧ (∀ b ∈ fp,H' b = none) ∧ W i n acc H') ?_ m0
    ⟨0,_,H3,[],IY,by rw [List.take_left'] <;> rfl,st4,fun b hb => (f3 b hb).1,w0⟩
   rintro n s5 ⟨i,σ5,H5,acc,I5,e5,st5,fr5,w5⟩
   obtain ⟨hacc,cs⟩:=turn i n acc H5 w5
   rcases cs with ⟨stop,q⟩ | ⟨go,step⟩
   ·refine wpAny_mono (T.done (blk X N' own scope s3 H3 fp pins) rfl rfl rfl (hc _ _ _ _) i [] s5 σ5 H5 (fun _ _ => False) I5 (stat fr5) st5 stop) (fun r s6 hr => ?_) fun _ _ z => z
    obtain ⟨rfl,I6⟩:=hr
    obtain ⟨m,hn,_⟩:=id I6.loc
    refine fin l H5 s6 _ m (I3.unblk f3 I6) q hn I6.free (Nat.ne_of_gt I3.lt) I3.sz (fun x c e z => ?_) fun p hp z => ?_
    ·obtain ⟨v,qc⟩:=I3.cell x c e
     exact absurd qc.lt (by rw [z]; exact Nat.lt_irrefl _)
    ·exact absurd (Heap.lt_size (I3.pin p hp).1) (by rw [z]; exact Nat.lt_irrefl _)
   ·have lenσ:σ5.length = (σ ++ List.replicate own.length (none:Option V)).length:= by
     rw [I5.len,List.length_append,List.length_replicate,I.len]
     show (N' ++ own).length = _
     rw [List.length_append,Mk.len]
    have I5':Inv (blk X N' own scope s3 H3 fp pins) [] (σ ++ List.replicate own.length none) H5 s5:=I5.weak lenσ.symm fun j v e => by
     have hj:j < σ.length:= by
      by_cases hj:j < σ.length
      ·exact hj
      ·rw [List.getElem?_append_right (by omega),List.getElem?_replicate] at e
       split at e <;> cases e
     rw [List.getElem?_append_left hj] at e
     rw [<- e5,List.getElem?_take_of_lt hj] at e
     exact e
    refine wpAny_mono (T.item (blk X N' own scope s3 H3 fp pins) rfl rfl rfl (hc _ _ _ _) i [] s5 _ H5 (fun _ _ => False) I5' (stat fr5) st5 go) (fun r s6 hr => ?_) fun _ _ z => z
    obtain ⟨u,rfl,h6⟩:=hr
    refine cW h6 fun _ s7 ⟨x,H7,I7,r7,y7,st7,fr7⟩ => ?_
    have I7':=I7.pinned (stat fr7) (T.obj _ _ st7)
    refine cW (hg s3 H3 fp pins _ s7 _ H7 x u _ I7' r7 (step x H7 y7)) fun _ s8 ⟨σ8,H8,I8,e8,q8⟩ => ?_
    refine cW (ht s3 H3 fp pins _ s8 σ8 H8 _ I8 q8) fun b s9 ⟨H9,I9,q9⟩ => ?_
    have again:∀ {Ha:Hp} {sa:Shared} {acc':List V} {m':Nat},Inv (blk X N' own scope s3 H3 fp pins) ([] ++ l7 fp s7.heap) σ8 Ha sa -> m' < n -> W (i + 1) m' acc' Ha ->
      ∃ m,m < n ∧ ∃ i σ' H' acc,Inv (blk X N' own scope s3 H3 fp pins) [] σ' H' sa ∧ σ'.take σ.length = σ ∧ tn i sa.heap ∧ (∀ b ∈ fp,H' b = none) ∧ W i m acc H':=fun {Ha sa acc' m'} Ia hm wa => by
     refine ⟨m',hm,i + 1,σ8,Ha,acc',Ia.unpinned,e8,T.keep _ _ _ st7 fun b hb o e => (Ia.pin (b,o) (List.mem_append_right _ (List.mem_append_right _ (gK hb e)))).1,fun b hb => ?_,wa⟩
     obtain ⟨o,e,d⟩:=T.obj _ _ st7 b hb
     exact (Ia.pin (b,o) (List.mem_append_right _ (List.mem_append_right _ (gK hb e)))).2.1
    cases b with
    | false =>
     rw [if_neg Bool.false_ne_true] at q9 ⊢
     obtain ⟨m',hm,wa⟩:=q9
     exact again I9 hm wa
    | true =>
     rw [if_pos rfl] at q9 ⊢
     refine cW (he s3 H3 fp pins _ s9 σ8 H9 _ I9 q9) fun y s10 ⟨v,H10,I10,rv,a10,z10,m',hm,wa⟩ => ?_
     exact cW (o7 _ s10 σ8 H10 (.ref l) [v] (.ref l) [y] (fun _ Hb => Hb = upd H10 l (.lst (acc ++ [v]))) I10 rfl (.cons rv .nil) ⟨l,acc,v,rfl,rfl,a10,z10,rfl⟩) fun _ s11 ⟨_,Hb,Ib,_,eb⟩ => by
      subst eb
      exact again Ib hm wa
  exact codeAny_compStart_list loop (T.self _ 0 _ _ _ st4 loop)
 exact goal
theorem Bj (hi:PI X tg iter wi) (hg:∀ s H fp pins,PG (blk X N' own scope s H fp pins) tg g) (ht:∀ s H fp pins,AB (blk X N' own scope s H fp pins) ifs tt) (he:∀ s H fp pins,PE (blk X N' own scope s H fp pins) elt te)
  (hS:iu N' own X.env.scope scope = true:=by rfl) (hM:ic X.N N' scope = true:=by rfl) (hk:scope.kind = .function:=by rfl) (hc:X.calm = true:=by rfl) (hs:∀ x,foldedSetIterable iter X.env x = pure x:=by intro _; rfl) :
  PE X (.ListComp elt [⟨tg,iter,ifs,0⟩] scope pos) (vf wi own.length g tt te):= by
 intro pins s σ H Q I h
 rw [eval_ListComp]
 refine ux (use:=none) (cal:=fun X => X.calm = true) (fun _ _ _ _ => hc) hi.g hk hS hM hg ht he hs I h fun l H' s' C m I' q hn h1 h2 h3 h4 h5 => ?_
 refine ⟨m,hn,fun h' sb => ⟨.ref l,H',?_,rfl,q⟩⟩
 exact I'.turned (t':=s'.toks) (fun b o hb e => (sb.2 b hb).trans e) h1 h2 (.inr h3) h4 h5
theorem vh {i:Nat} {x:Str} {pos'' pos1:Pos} (hN:X.N.Nodup) (hx0:X.N[i]? = some x) (hx:X.env.scope.names.lookup x = some .local)
  (hi:PI X tg iter wi) (hg:∀ s H fp pins,PG (blk X N' own scope s H fp pins) tg g) (ht:∀ s H fp pins,AB (blk X N' own scope s H fp pins) ifs tt) (he:∀ s H fp pins,PE (blk X N' own scope s H fp pins) elt te)
  (hsw:swapsWith (.ListComp elt [⟨tg,iter,ifs,0⟩] scope pos) (some (.Name x pos'')) pos1.line X.env = pure true:=by rfl)
  (hS:iu N' own X.env.scope scope = true:=by rfl) (hM:ic X.N N' scope = true:=by rfl) (hk:scope.kind = .function:=by rfl) (hc:X.calm = true:=by rfl) (hs:∀ x,foldedSetIterable iter X.env x = pure x:=by intro _; rfl) :
  PS X (.Assign [.Name x pos''] (.ListComp elt [⟨tg,iter,ifs,0⟩] scope pos) pos1) (w_ (vf wi own.length g tt te) (qZ i)):= by
 intro pins s σ H D I h
 rw [exec_Assign_Name_used _ _ _ _ hsw]
 refine wpAny_bind (wpAny_standAt (wpAny_bind ?_))
 show wpAny _ _ (do let _ <- comprehension (.ListComp elt [⟨tg,iter,ifs,0⟩] scope pos) scope X.env _ (newList []) false (eval iter X.env) (some (assign (.Name x pos'') X.env))) _ _ s
 refine wpAny_bind (wpAny_mono (Q:=fun _ s' => SP X pins D .next s') ?_ (fun _ s' hq => wpAny_pure (wpAny_pure hq)) fun _ _ e => e)
 refine ux (use:=some (assign (.Name x pos'') X.env)) (cal:=fun X => X.calm = true) (fun _ _ _ _ => hc) hi.g hk hS hM hg ht he hs I h fun l H' s' C m I' q hn h1 h2 h3 h4 h5 => ?_
 show wpAny _ _ (assign (.Name x pos'') X.env (.ref l)) _ _ s'
 refine wpAny_assign_Name (n_ I' hN hx0 (.inl hx) (v:=.ref l) (u:=.ref l) rfl (fun s'' I'' hsb => ?_) (.inr hx))
 obtain ⟨a,sb,ha⟩:=hsb
 have hCa:C ≠ a:= by
  rcases ha with z | z
  ·rw [z]; exact h2
  ·exact Ne.symm (h4 _ _ z)
 refine ⟨m,hn.sameBut sb hCa,fun h' sb' => ⟨σ.set i (some (.ref l)),H',?_,q⟩⟩
 exact I''.turned (t':=s''.toks) (fun b o hb e => (sb'.2 b hb).trans e) h1 h2 (.inr h3) h4 h5
end
end L2
namespace Jt
open PySem L2
inductive D where
 | non | bl (b:Bool) | int (i:Int) | str (x:Str) | tup (xs:List D) | lst (xs:List D) | dct
def mU (a:Addr):HO:=.ext fun h => a ≠ sysModules ∧ ∃ o n,h.get? a = some o ∧ o.cls = .type "dict" ∧ o.data = .dict #[] n
mutual
def R (H:Hp):D -> V -> Prop
 | .non,v => v = .non
 | .bl b,v => v = .bl b
 | .int i,v => v = .int i
 | .str x,v => v = .str x
 | .tup ds,v => ∃ a vs,v = .ref a ∧ H a = some (.tup vs) ∧ Rs H ds vs
 | .lst ds,v => ∃ a vs,v = .ref a ∧ Rd H a (.lst vs) ∧ Rs H ds vs
 | .dct,v => ∃ a,v = .ref a ∧ H a = some (mU a)
def Rs (H:Hp):List D -> List V -> Prop
 | [],vs => vs = []
 | d :: ds,vs => ∃ v r,vs = v :: r ∧ R H d v ∧ Rs H ds r
end
theorem Rd.mono {H H':Hp} {a:Addr} {u:HO} (m:∀ b o,H b = some o -> H' b = some o) (h:Rd H a u):Rd H' a u:= by
 rcases h with h | ⟨o,h⟩
 ·exact .inl (m _ _ h)
 ·exact .inr ⟨o,m _ _ h⟩
mutual
theorem R.mono {H H':Hp} (m:∀ b o,H b = some o -> H' b = some o):∀ (d:D) (v:V),R H d v -> R H' d v
 | .non,v,h => by unfold R at *; exact h
 | .bl b,v,h => by unfold R at *; exact h
 | .int i,v,h => by unfold R at *; exact h
 | .str x,v,h => by unfold R at *; exact h
 | .tup ds,v,h => by
  unfold R at *
  obtain ⟨a,vs,e,h1,h2⟩:=h
  exact ⟨a,vs,e,m _ _ h1,Rs.mono m ds vs h2⟩
 | .lst ds,v,h => by
  unfold R at *
  obtain ⟨a,vs,e,h1,h2⟩:=h
  exact ⟨a,vs,e,Rd.mono m h1,Rs.mono m ds vs h2⟩
 | .dct,v,h => by
  unfold R at *
  obtain ⟨a,e,h1⟩:=h
  exact ⟨a,e,m _ _ h1⟩
theorem Rs.mono {H H':Hp} (m:∀ b o,H b = some o -> H' b = some o):∀ (ds:List D) (vs:List V),Rs H ds vs -> Rs H' ds vs
 | [],vs,h => by unfold Rs at *; exact h
 | d :: ds,vs,h => by
  unfold Rs at *
  obtain ⟨v,r,e,h1,h2⟩:=h
  exact ⟨v,r,e,R.mono m d v h1,Rs.mono m ds r h2⟩
end
theorem Rs.nil {H:Hp}:Rs H [] []:=by unfold Rs; rfl
theorem Rs.cons {H:Hp} {d:D} {v:V} {ds:List D} {vs:List V} (h:R H d v) (t:Rs H ds vs):Rs H (d :: ds) (v :: vs):= by
 unfold Rs; exact ⟨v,vs,rfl,h,t⟩
theorem Rs.inv {H:Hp} {d:D} {ds:List D} {vs:List V} (h:Rs H (d :: ds) vs):∃ v r,vs = v :: r ∧ R H d v ∧ Rs H ds r:= by
 unfold Rs at h; exact h
theorem Rs.inv0 {H:Hp} {vs:List V} (h:Rs H [] vs):vs = []:=by unfold Rs at h; exact h
theorem Rs.head {H:Hp} {d:D} {v:V} {ds:List D} {vs:List V} (h:Rs H (d :: ds) (v :: vs)):R H d v:= by
 obtain ⟨v',r,e,h1,h2⟩:=h.inv; cases e; exact h1
theorem Rs.tail {H:Hp} {d:D} {v:V} {ds:List D} {vs:List V} (h:Rs H (d :: ds) (v :: vs)):Rs H ds vs:= by
 obtain ⟨v',r,e,h1,h2⟩:=h.inv; cases e; exact h2
theorem Rs.length {H:Hp}:∀ {ds:List D} {vs:List V},Rs H ds vs -> vs.length = ds.length
 | [],vs,h => by rw [h.inv0]; rfl
 | d :: ds,vs,h => by
  obtain ⟨v,r,e,_,h2⟩:=h.inv
  subst e
  simp [Rs.length h2]
theorem Rs.append {H:Hp}:∀ {ds es:List D} {vs us:List V},Rs H ds vs -> Rs H es us -> Rs H (ds ++ es) (vs ++ us)
 | [],es,vs,us,h,t => by rw [h.inv0]; exact t
 | d :: ds,es,vs,us,h,t => by
  obtain ⟨v,r,e,h1,h2⟩:=h.inv
  subst e
  exact .cons h1 (Rs.append h2 t)
theorem Rs.left {H:Hp}:∀ {ds es:List D} {vs us:List V},vs.length = ds.length -> Rs H (ds ++ es) (vs ++ us) -> Rs H ds vs
 | [],es,[],us,_,h => .nil
 | d :: ds,es,v :: vs,us,l,h => .cons h.head (Rs.left (by simpa using l) h.tail)
 | [],_,_ :: _,_,l,_ => by cases l
 | _ :: _,_,[],_,l,_ => by cases l
theorem Rs.right {H:Hp}:∀ {ds es:List D} {vs us:List V},vs.length = ds.length -> Rs H (ds ++ es) (vs ++ us) -> Rs H es us
 | [],es,[],us,_,h => h
 | d :: ds,es,v :: vs,us,l,h => Rs.right (ds:=ds) (vs:=vs) (by simpa using l) h.tail
 | [],_,_ :: _,_,l,_ => by cases l
 | _ :: _,_,[],_,l,_ => by cases l
theorem Rs.get {H:Hp}:∀ {ds:List D} {vs:List V} {i:Nat} {d:D},Rs H ds vs -> ds[i]? = some d -> ∃ v,vs[i]? = some v ∧ R H d v
 | [],_,_,_,_,e => by simp at e
 | d :: ds,vs,0,d',h,e => by
  obtain ⟨v,r,e',h1,h2⟩:=h.inv
  subst e'
  simp at e; subst e
  exact ⟨v,rfl,h1⟩
 | d :: ds,vs,i + 1,d',h,e => by
  obtain ⟨v,r,e',h1,h2⟩:=h.inv
  subst e'
  obtain ⟨v',e2,h3⟩:=Rs.get (i:=i) h2 (by simpa using e)
  exact ⟨v',by simpa using e2,h3⟩
theorem R.tup {H:Hp} {ds:List D} {v:V} (h:R H (.tup ds) v):∃ a vs,v = .ref a ∧ H a = some (.tup vs) ∧ Rs H ds vs:=by unfold R at h; exact h
theorem R.lst {H:Hp} {ds:List D} {v:V} (h:R H (.lst ds) v):∃ a vs,v = .ref a ∧ Rd H a (.lst vs) ∧ Rs H ds vs:=by unfold R at h; exact h
theorem R.dct {H:Hp} {v:V} (h:R H .dct v):∃ a,v = .ref a ∧ H a = some (mU a):=by unfold R at h; exact h
theorem R.mkD {H:Hp} {a:Addr} (h:H a = some (mU a)):R H .dct (.ref a):=by unfold R; exact ⟨a,rfl,h⟩
theorem R.int {H:Hp} {i:Int} {v:V} (h:R H (.int i) v):v = .int i:=by unfold R at h; exact h
theorem R.bl {H:Hp} {i:Bool} {v:V} (h:R H (.bl i) v):v = .bl i:=by unfold R at h; exact h
theorem R.str {H:Hp} {i:Str} {v:V} (h:R H (.str i) v):v = .str i:=by unfold R at h; exact h
theorem R.non {H:Hp} {v:V} (h:R H .non v):v = .non:=by unfold R at h; exact h
theorem R.mkI {H:Hp} {i:Int}:R H (.int i) (.int i):=by unfold R; rfl
theorem R.mkB {H:Hp} {i:Bool}:R H (.bl i) (.bl i):=by unfold R; rfl
theorem R.mkS {H:Hp} {i:Str}:R H (.str i) (.str i):=by unfold R; rfl
theorem R.mkN {H:Hp}:R H .non .non:=by unfold R; rfl
theorem R.mkT {H:Hp} {a:Addr} {ds:List D} {vs:List V} (h:H a = some (.tup vs)) (t:Rs H ds vs):R H (.tup ds) (.ref a):=by unfold R; exact ⟨a,vs,rfl,h,t⟩
theorem R.mkL {H:Hp} {a:Addr} {ds:List D} {vs:List V} (h:Rd H a (.lst vs)) (t:Rs H ds vs):R H (.lst ds) (.ref a):=by unfold R; exact ⟨a,vs,rfl,h,t⟩
inductive Slot where
 | un | pu (d:D) | ow (b:Bool) (xs:List D)
abbrev DS:=List Slot
structure Ct where
 Z:Hp
 B:List Addr
 H0:Hp
def uM (δ:DS) (σ:St) (a:Addr):Prop:=∃ (i:Nat) (b:Bool) (xs:List D),δ[i]? = some (.ow b xs) ∧ σ[i]? = some (some (.ref a))
open Classical in
def F9 (p:Addr -> Prop) (H:Hp):Hp:=fun a => if p a then none else H a
def Hd (c:Ct) (δ:DS) (σ:St) (a:Addr):Prop:=(∃ o,c.Z a = some o) ∨ uM δ σ a
abbrev fS (c:Ct) (δ:DS) (σ:St) (H:Hp):Hp:=F9 (Hd c δ σ) H
theorem fm {p:Addr -> Prop} {H:Hp} {a:Addr} {o:HO}:F9 p H a = some o ↔ ¬ p a ∧ H a = some o:= by
 unfold F9
 by_cases h:p a
 ·rw [if_pos h]; exact Iff.intro (fun z => nomatch z) (fun z => absurd h z.1)
 ·rw [if_neg h]; exact Iff.intro (fun z => And.intro h z) (fun z => z.2)
theorem bx {p q:Addr -> Prop} {H H':Hp} (hp:∀ a o,H a = some o -> q a -> p a) (hH:∀ a o,¬ p a -> H a = some o -> H' a = some o):∀ b o,F9 p H b = some o -> F9 q H' b = some o:=fun b o h => by
 obtain ⟨h1,h2⟩:=fm.mp h
 exact fm.mpr ⟨fun z => h1 (hp b o h2 z),hH b o h1 h2⟩
structure Sl (c:Ct) (δ:DS) (S:List D) (σ:St) (T:List V) (H:Hp):Prop where
 len:δ.length = σ.length
 pu:∀ (i:Nat) d,δ[i]? = some (.pu d) -> ∃ v,σ[i]? = some (some v) ∧ R (fS c δ σ H) d v
 ow:∀ (i:Nat) b xs,δ[i]? = some (.ow b xs) -> ∃ a vs,σ[i]? = some (some (.ref a)) ∧ H a = some (.lst vs) ∧ Rs (fS c δ σ H) xs vs ∧ (b = true -> a ∈ c.B) ∧ (b = false -> a ∉ c.B ∧ c.H0 a = none) ∧ c.Z a = none
 ne:∀ (i j:Nat) b b' xs ys a,δ[i]? = some (.ow b xs) -> δ[j]? = some (.ow b' ys) -> σ[i]? = some (some (.ref a)) -> σ[j]? = some (some (.ref a)) -> i = j
 st:Rs (fS c δ σ H) S T
 keep:∀ b o,b ∉ c.B -> c.H0 b = some o -> H b = some o
 bb:∀ b ∈ c.B,∃ o,H b = some o
 zz:∀ a o,c.Z a = some o -> H a = some o
section
variable {c:Ct} {δ:DS} {S:List D} {σ:St} {T:List V} {H:Hp}
theorem Sl.hdSome (s:Sl c δ S σ T H) {a:Addr} (h:Hd c δ σ a):∃ o,H a = some o:= by
 rcases h with ⟨o,h⟩ | ⟨i,b,xs,h1,h2⟩
 ·exact ⟨o,s.zz _ _ h⟩
 ·obtain ⟨a',vs,e,h3,_⟩:=s.ow i b xs h1
  rw [h2] at e; cases e
  exact ⟨_,h3⟩
theorem Sl.stk (s:Sl c δ S σ T H) {S':List D} {T':List V} (h:Rs (fS c δ σ H) S' T'):Sl c δ S' σ T' H:=⟨s.len,s.pu,s.ow,s.ne,h,s.keep,s.bb,s.zz⟩
theorem Sl.pop {d:D} {v:V} (s:Sl c δ (d :: S) σ (v :: T) H):Sl c δ S σ T H:=s.stk s.st.tail
theorem Sl.grow (s:Sl c δ S σ T H) {H':Hp} (g:yX H H'):Sl c δ S σ T H':= by
 have m:∀ b o,fS c δ σ H b = some o -> fS c δ σ H' b = some o:=bx (fun _ _ _ z => z) fun a o _ h => g a o h
 refine ⟨s.len,fun i d h => ?_,fun i b xs h => ?_,s.ne,s.st.mono m,fun b o h1 h2 => g _ _ (s.keep b o h1 h2),fun b hb => ?_,fun a o hz => g _ _ (s.zz a o hz)⟩
 ·obtain ⟨v,e,r⟩:=s.pu i d h
  exact ⟨v,e,r.mono m⟩
 ·obtain ⟨a,vs,e,h1,h2,h3⟩:=s.ow i b xs h
  exact ⟨a,vs,e,g _ _ h1,h2.mono m,h3⟩
 ·obtain ⟨o,h⟩:=s.bb b hb
  exact ⟨o,g _ _ h⟩
theorem il {H:Hp} {p:Addr} (h:H p = none) (o:HO):yX H (upd H p o):=fun b u q => by rw [aA (cw q h)]; exact q
theorem Sl.hdNew (s:Sl c δ S σ T H) {p:Addr} (h:H p = none):¬ Hd c δ σ p:=fun z => by
 obtain ⟨o,e⟩:=s.hdSome z
 rw [h] at e; cases e
theorem Sl.fresh (s:Sl c δ S σ T H) {p:Addr} (h:H p = none):c.Z p = none ∧ p ∉ c.B ∧ c.H0 p = none:= by
 have hB:p ∉ c.B:=fun z => by
  obtain ⟨o,e⟩:=s.bb p z
  rw [h] at e; cases e
 refine ⟨?_,hB,?_⟩
 ·cases e:c.Z p with
  | none => rfl
  | some o => have:=s.zz p o e; rw [h] at this; cases this
 ·cases e:c.H0 p with
  | none => rfl
  | some o => have:=s.keep p o hB e; rw [h] at this; cases this
theorem Sl.newTup {ds:List D} {vs:List V} (s:Sl c δ (ds ++ S) σ (vs ++ T) H) (l:vs.length = ds.length) {p:Addr} (h:H p = none):Sl c δ (.tup ds :: S) σ (.ref p :: T) (upd H p (.tup vs)):= by
 have s':=s.grow (il h (.tup vs))
 exact s'.stk (.cons (.mkT (fm.mpr ⟨s.hdNew h,aV⟩) (s'.st.left l)) (s'.st.right l))
theorem Sl.hide (s:Sl c δ S σ T H) {p:Addr} {o:HO} (h:H p = none):Sl { c with Z:=upd c.Z p o } δ S σ T (upd H p o):= by
 have g:=il h o
 have m:∀ b u,fS c δ σ H b = some u -> fS { c with Z:=upd c.Z p o } δ σ (upd H p o) b = some u:=bx (fun a u e z => by
  rcases z with ⟨w,z⟩ | z
  ·have:a ≠ p:=fun q => by rw [q,h] at e; cases e
   exact .inl ⟨w,(show c.Z a = upd c.Z p o a from (aA this).symm).trans z⟩
  ·exact .inr z) fun a u _ e => g a u e
 refine ⟨s.len,fun i d e => ?_,fun i b xs e => ?_,s.ne,s.st.mono m,fun b u h1 h2 => g _ _ (s.keep b u h1 h2),fun b hb => ?_,fun a u hz => ?_⟩
 ·obtain ⟨v,e,r⟩:=s.pu i d e
  exact ⟨v,e,r.mono m⟩
 ·obtain ⟨a,vs,e,h1,h2,h3,h4,h5⟩:=s.ow i b xs e
  refine ⟨a,vs,e,g _ _ h1,h2.mono m,h3,h4,?_⟩
  show upd c.Z p o a = none
  rw [aA fun q => by rw [q,h] at h1; cases h1]; exact h5
 ·obtain ⟨u,e⟩:=s.bb b hb
  exact ⟨u,g _ _ e⟩
 ·have hz':upd c.Z p o a = some u:=hz
  by_cases q:a = p
  ·subst q; rw [aV] at hz' ⊢; exact hz'
  ·rw [aA q] at hz' ⊢; exact s.zz a u hz'
theorem Sl.noOw {p:Addr} {o:HO} (s:Sl { c with Z:=upd c.Z p o } δ S σ T H):¬ uM δ σ p:=fun ⟨i,b,xs,h1,h2⟩ => by
 obtain ⟨a,vs,e,_,_,_,_,h4⟩:=s.ow i b xs h1
 rw [h2] at e; cases e
 have h4':upd c.Z p o p = none:=h4
 rw [aV] at h4'; cases h4'
theorem Sl.hideSet {p:Addr} {o:HO} (o':HO) (s:Sl { c with Z:=upd c.Z p o } δ S σ T H) (hB:p ∉ c.B) (h0:c.H0 p = none):Sl { c with Z:=upd c.Z p o' } δ S σ T (upd H p o'):= by
 have hpH:H p = some o:=s.zz p o aV
 have npow:=s.noOw
 have m:∀ b u,fS { c with Z:=upd c.Z p o } δ σ H b = some u -> fS { c with Z:=upd c.Z p o' } δ σ (upd H p o') b = some u:=bx (fun a u e z => by
  rcases z with ⟨w,z⟩ | z
  ·have z':upd c.Z p o' a = some w:=z
   by_cases q:a = p
   ·subst q; exact .inl ⟨o,aV⟩
   ·rw [aA q] at z'; exact .inl ⟨w,by show upd c.Z p o a = some w; rw [aA q]; exact z'⟩
  ·exact .inr z) fun a u ha e => by
   have:a ≠ p:=fun z => ha (.inl ⟨o,by rw [z]; exact aV⟩)
   rw [aA this]; exact e
 refine ⟨s.len,fun i d e => ?_,fun i b xs e => ?_,s.ne,s.st.mono m,fun b u h1 h2 => ?_,fun b hb => ?_,fun a u hz => ?_⟩
 ·obtain ⟨v,e,r⟩:=s.pu i d e
  exact ⟨v,e,r.mono m⟩
 ·have hx:=e
  obtain ⟨a,vs,e,h1,h2,h3,h4,h5⟩:=s.ow i b xs e
  have hap:a ≠ p:=fun z => npow ⟨i,b,xs,hx,by rw [e,z]⟩
  refine ⟨a,vs,e,by rw [aA hap]; exact h1,h2.mono m,h3,h4,?_⟩
  have h5':upd c.Z p o a = none:=h5
  show upd c.Z p o' a = none
  rw [aA hap] at h5' ⊢; exact h5'
 ·have:b ≠ p:=fun z => by
   have h2':c.H0 b = some u:=h2
   rw [z,h0] at h2'; cases h2'
  rw [aA this]; exact s.keep b u h1 h2
 ·have:b ≠ p:=fun z => hB (z ▸ hb)
  rw [aA this]; exact s.bb b hb
 ·have hz':upd c.Z p o' a = some u:=hz
  by_cases q:a = p
  ·subst q; rw [aV] at hz' ⊢; exact hz'
  ·rw [aA q] at hz' ⊢; exact s.zz a u (by show upd c.Z p o a = some u; rw [aA q]; exact hz')
theorem Sl.unhideL {p:Addr} {xs:List D} {vs:List V} (s:Sl { c with Z:=upd c.Z p (.lst vs) } δ (xs ++ S) σ (vs ++ T) H) (l:vs.length = xs.length) (hp:c.Z p = none):Sl c δ (.lst xs :: S) σ (.ref p :: T) H:= by
 have hpH:H p = some (.lst vs):=s.zz p _ aV
 have npow:=s.noOw
 have zc:∀ a u,c.Z a = some u -> upd c.Z p (.lst vs) a = some u:=fun a u h => by rw [aA fun q => by rw [q,hp] at h; cases h]; exact h
 have m:∀ b u,fS { c with Z:=upd c.Z p (.lst vs) } δ σ H b = some u -> fS c δ σ H b = some u:=bx (fun a u e z => by
  rcases z with ⟨w,z⟩ | z
  ·exact .inl ⟨w,zc a w z⟩
  ·exact .inr z) fun a u ha e => e
 refine ⟨s.len,fun i d e => ?_,fun i b xs e => ?_,s.ne,.cons (.mkL (.inl (fm.mpr ⟨fun z => ?_,hpH⟩)) ((s.st.left l).mono m)) ((s.st.right l).mono m),s.keep,s.bb,fun a u hz => s.zz a u (zc a u hz)⟩
 ·obtain ⟨v,e,r⟩:=s.pu i d e
  exact ⟨v,e,r.mono m⟩
 ·obtain ⟨a,vs',e,h1,h2,h3,h4,h5⟩:=s.ow i b xs e
  refine ⟨a,vs',e,h1,h2.mono m,h3,h4,?_⟩
  have h5':upd c.Z p (.lst vs) a = none:=h5
  by_cases q:a = p
  ·rw [q]; exact hp
  ·rwa [aA q] at h5'
 ·rcases z with ⟨u,z⟩ | z
  ·rw [hp] at z; cases z
  ·exact npow z
theorem Sl.setPu {d:D} {v:V} {i:Nat} (s:Sl c δ (d :: S) σ (v :: T) H) (hi:i < δ.length):Sl c (δ.set i (.pu d)) S (σ.set i (some v)) T H:= by
 have ow':∀ a,uM (δ.set i (.pu d)) (σ.set i (some v)) a -> uM δ σ a:=fun a ⟨j,b,xs,h1,h2⟩ => by
  by_cases e:i = j
  ·subst e; rw [List.getElem?_set_self hi] at h1; cases h1
  ·rw [List.getElem?_set_ne e] at h1 h2; exact ⟨j,b,xs,h1,h2⟩
 have m:∀ b u,fS c δ σ H b = some u -> fS c (δ.set i (.pu d)) (σ.set i (some v)) H b = some u:=bx (fun a u e z => z.elim .inl fun z => .inr (ow' a z)) fun a u _ e => e
 refine ⟨by simpa using s.len,fun j d' h => ?_,fun j b xs h => ?_,fun j k b b' xs ys a h1 h2 h3 h4 => ?_,s.st.tail.mono m,s.keep,s.bb,s.zz⟩
 ·by_cases e:i = j
  ·subst e
   rw [List.getElem?_set_self hi] at h; cases h
   exact ⟨v,by rw [List.getElem?_set_self (by rw [<- s.len]; exact hi)],s.st.head.mono m⟩
  ·rw [List.getElem?_set_ne e] at h ⊢
   obtain ⟨v',e',r⟩:=s.pu j d' h
   exact ⟨v',e',r.mono m⟩
 ·by_cases e:i = j
  ·subst e; rw [List.getElem?_set_self hi] at h; cases h
  ·rw [List.getElem?_set_ne e] at h ⊢
   obtain ⟨a,vs,e,h1,h2,h3⟩:=s.ow j b xs h
   exact ⟨a,vs,e,h1,h2.mono m,h3⟩
 ·by_cases e:i = j
  ·subst e; rw [List.getElem?_set_self hi] at h1; cases h1
  ·by_cases e':i = k
   ·subst e'; rw [List.getElem?_set_self hi] at h2; cases h2
   ·rw [List.getElem?_set_ne e] at h1 h3; rw [List.getElem?_set_ne e'] at h2 h4
    exact s.ne j k b b' xs ys a h1 h2 h3 h4
theorem Sl.setOw {p:Addr} {xs:List D} {vs:List V} {i:Nat} (s:Sl { c with Z:=upd c.Z p (.lst vs) } δ (xs ++ S) σ (vs ++ T) H) (l:vs.length = xs.length) (hp:c.Z p = none) (hB:p ∉ c.B) (h0:c.H0 p = none) (hi:i < δ.length) :
  Sl c (δ.set i (.ow false xs)) S (σ.set i (some (.ref p))) T H:= by
 have hpH:H p = some (.lst vs):=s.zz p _ aV
 have npow:∀ (j:Nat) b ys,δ[j]? = some (.ow b ys) -> σ[j]? ≠ some (some (.ref p)):=fun j b ys h1 h2 => s.noOw ⟨j,b,ys,h1,h2⟩
 have zc:∀ a u,c.Z a = some u -> upd c.Z p (.lst vs) a = some u:=fun a u h => by rw [aA fun q => by rw [q,hp] at h; cases h]; exact h
 have hiσ:i < σ.length:=by rw [<- s.len]; exact hi
 have m:∀ b u,fS { c with Z:=upd c.Z p (.lst vs) } δ σ H b = some u -> fS c (δ.set i (.ow false xs)) (σ.set i (some (.ref p))) H b = some u:=bx (fun a u e z => by
  rcases z with ⟨w,z⟩ | ⟨j,b,ys,h1,h2⟩
  ·exact .inl ⟨w,zc a w z⟩
  ·by_cases e:i = j
   ·subst e
    rw [List.getElem?_set_self hiσ] at h2; cases h2
    exact .inl ⟨_,aV⟩
   ·rw [List.getElem?_set_ne e] at h1 h2; exact .inr ⟨j,b,ys,h1,h2⟩) fun a u _ e => e
 refine ⟨by simpa using s.len,fun j d' h => ?_,fun j b ys h => ?_,fun j k b b' ys zs a h1 h2 h3 h4 => ?_,(s.st.right l).mono m,s.keep,s.bb,fun a u hz => s.zz a u (zc a u hz)⟩
 ·by_cases e:i = j
  ·subst e; rw [List.getElem?_set_self hi] at h; cases h
  ·rw [List.getElem?_set_ne e] at h ⊢
   obtain ⟨v',e',r⟩:=s.pu j d' h
   exact ⟨v',e',r.mono m⟩
 ·by_cases e:i = j
  ·subst e
   rw [List.getElem?_set_self hi] at h; cases h
   exact ⟨p,vs,by rw [List.getElem?_set_self hiσ],hpH,(s.st.left l).mono m,(fun z => absurd z Bool.false_ne_true),(fun _ => ⟨hB,h0⟩),hp⟩
  ·rw [List.getElem?_set_ne e] at h ⊢
   have hx:=h
   obtain ⟨a,ws,e,h1,h2,h3,h4,h5⟩:=s.ow j b ys h
   refine ⟨a,ws,e,h1,h2.mono m,h3,h4,?_⟩
   have h5':upd c.Z p (.lst vs) a = none:=h5
   rwa [aA fun q => npow j b ys hx (by rw [e,q])] at h5'
 ·by_cases e:i = j
  ·subst e
   rw [List.getElem?_set_self hiσ] at h3; cases h3
   by_cases e':i = k
   ·exact e'
   ·rw [List.getElem?_set_ne e'] at h2 h4
    exact absurd h4 (npow k b' zs h2)
  ·rw [List.getElem?_set_ne e] at h1 h3
   by_cases e':i = k
   ·subst e'
    rw [List.getElem?_set_self hiσ] at h4; cases h4
    exact absurd h3 (npow j b ys h1)
   ·rw [List.getElem?_set_ne e'] at h2 h4
    exact s.ne j k b b' ys zs a h1 h2 h3 h4
theorem Sl.giveOw {a:Addr} {xs:List D} {i:Nat} (s:Sl c δ S σ T H) (hi:δ[i]? = some (.ow false xs)) (ha:σ[i]? = some (some (.ref a))) :
  ∃ vs,vs.length = xs.length ∧ Sl { c with Z:=upd c.Z a (.lst vs) } (δ.set i .un) (xs ++ S) σ (vs ++ T) H ∧ c.Z a = none ∧ a ∉ c.B ∧ c.H0 a = none:= by
 have hiδ:i < δ.length:=(List.getElem?_eq_some_iff.mp hi).1
 obtain ⟨a',vs,e,hH,hv,_,hB,hZ⟩:=s.ow i false xs hi
 rw [ha] at e; cases e
 have owi:∀ b,uM (δ.set i .un) σ b -> uM δ σ b ∧ b ≠ a:=fun b ⟨j,bb,ys,h1,h2⟩ => by
  by_cases e:i = j
  ·subst e; rw [List.getElem?_set_self hiδ] at h1; cases h1
  ·rw [List.getElem?_set_ne e] at h1
   exact ⟨⟨j,bb,ys,h1,h2⟩,fun q => e (s.ne i j _ _ _ _ a hi h1 ha (by rw [h2,q]))⟩
 have m:∀ b u,fS c δ σ H b = some u -> fS { c with Z:=upd c.Z a (.lst vs) } (δ.set i .un) σ H b = some u:=bx (fun b u e z => by
  rcases z with ⟨w,z⟩ | z
  ·by_cases q:b = a
   ·subst q; exact .inr ⟨i,false,xs,hi,ha⟩
   ·exact .inl ⟨w,(show c.Z b = upd c.Z a (.lst vs) b from (aA q).symm).trans z⟩
  ·exact .inr (owi b z).1) fun b u _ e => e
 refine ⟨vs,hv.length,⟨by simpa using s.len,fun j d h => ?_,fun j b ys h => ?_,fun j k b b' ys zs x h1 h2 h3 h4 => ?_,(hv.append s.st).mono m,s.keep,s.bb,fun x u hz => ?_⟩,hZ,(hB rfl).1,(hB rfl).2⟩
 ·have e:i ≠ j:=fun e => by subst e; rw [List.getElem?_set_self hiδ] at h; cases h
  rw [List.getElem?_set_ne e] at h
  obtain ⟨v',e',r⟩:=s.pu j d h
  exact ⟨v',e',r.mono m⟩
 ·have e:i ≠ j:=fun e => by subst e; rw [List.getElem?_set_self hiδ] at h; cases h
  rw [List.getElem?_set_ne e] at h
  obtain ⟨b1,ws,e',h1,h2,h3,h4,h5⟩:=s.ow j b ys h
  refine ⟨b1,ws,e',h1,h2.mono m,h3,h4,?_⟩
  show upd c.Z a (.lst vs) b1 = none
  rw [aA fun q => e (s.ne i j _ _ _ _ a hi h ha (by rw [e',q]))]; exact h5
 ·have g:∀ (j:Nat) b ys,(δ.set i Slot.un)[j]? = some (.ow b ys) -> δ[j]? = some (.ow b ys):=fun j b ys h => by
   have e:i ≠ j:=fun e => by subst e; rw [List.getElem?_set_self hiδ] at h; cases h
   rwa [List.getElem?_set_ne e] at h
  exact s.ne j k b b' ys zs x (g _ _ _ h1) (g _ _ _ h2) h3 h4
 ·have hz':upd c.Z a (.lst vs) x = some u:=hz
  by_cases q:x = a
  ·subst q; rw [aV] at hz'; cases hz'; exact hH
  ·rw [aA q] at hz'; exact s.zz x u hz'
theorem Sl.mut {a:Addr} {b0:Bool} {xs xs':List D} {vs':List V} {i:Nat} (s:Sl c δ S σ T H) (hi:δ[i]? = some (.ow b0 xs)) (ha:σ[i]? = some (some (.ref a))) (hv:Rs (fS c δ σ H) xs' vs') :
  Sl c (δ.set i (.ow b0 xs')) S σ T (upd H a (.lst vs')):= by
 have hiδ:i < δ.length:=(List.getElem?_eq_some_iff.mp hi).1
 obtain ⟨a',vs,e,hH,_,hB,hB',hZ⟩:=s.ow i b0 xs hi
 rw [ha] at e; cases e
 have owi:∀ b,uM (δ.set i (.ow b0 xs')) σ b -> uM δ σ b:=fun b ⟨j,bb,ys,h1,h2⟩ => by
  by_cases e:i = j
  ·subst e; exact ⟨i,b0,xs,hi,h2⟩
  ·rw [List.getElem?_set_ne e] at h1; exact ⟨j,bb,ys,h1,h2⟩
 have m:∀ b u,fS c δ σ H b = some u -> fS c (δ.set i (.ow b0 xs')) σ (upd H a (.lst vs')) b = some u:=bx (fun b u e z => z.elim .inl fun z => .inr (owi b z)) fun b u hb e => by
  have:b ≠ a:=fun z => hb (.inr ⟨i,b0,xs,hi,by rw [z]; exact ha⟩)
  rw [aA this]; exact e
 refine ⟨by simpa using s.len,fun j d' h => ?_,fun j b ys h => ?_,fun j k b b' ys zs x h1 h2 h3 h4 => ?_,s.st.mono m,fun b u h1 h2 => ?_,fun b hb => ?_,fun x u hz => ?_⟩
 ·have e:i ≠ j:=fun e => by subst e; rw [List.getElem?_set_self hiδ] at h; cases h
  rw [List.getElem?_set_ne e] at h
  obtain ⟨v',e',r⟩:=s.pu j d' h
  exact ⟨v',e',r.mono m⟩
 ·by_cases e:i = j
  ·subst e
   rw [List.getElem?_set_self hiδ] at h; cases h
   exact ⟨a,vs',ha,aV,hv.mono m,hB,hB',hZ⟩
  ·rw [List.getElem?_set_ne e] at h
   obtain ⟨b1,ws,e',h1,h2,h3⟩:=s.ow j b ys h
   have:b1 ≠ a:=fun z => e (s.ne i j _ _ xs ys a hi h ha (by rw [e',z]))
   exact ⟨b1,ws,e',by rw [aA this]; exact h1,h2.mono m,h3⟩
 ·have g:∀ (j:Nat) b ys,(δ.set i (.ow b0 xs'))[j]? = some (.ow b ys) -> ∃ b ys,δ[j]? = some (.ow b ys):=fun j b ys h => by
   by_cases e:i = j
   ·subst e; exact ⟨b0,xs,hi⟩
   ·rw [List.getElem?_set_ne e] at h; exact ⟨b,ys,h⟩
  obtain ⟨c1,ys',h1⟩:=g j b ys h1
  obtain ⟨c2,zs',h2⟩:=g k b' zs h2
  exact s.ne j k c1 c2 ys' zs' x h1 h2 h3 h4
 ·have:b ≠ a:=fun z => by
   subst z
   cases b0 with
   | true => exact h1 (hB rfl)
   | false => rw [(hB' rfl).2] at h2; cases h2
  rw [aA this]; exact s.keep b u h1 h2
 ·by_cases e:b = a
  ·subst e; exact ⟨_,aV⟩
  ·rw [aA e]; exact s.bb b hb
 ·have:x ≠ a:=fun e => by rw [e,hZ] at hz; cases hz
  rw [aA this]; exact s.zz x u hz
theorem Sl.ext (s:Sl c δ S σ T H) (k:Nat):Sl c (δ ++ List.replicate k .un) S (σ ++ List.replicate k none) T H:= by
 have g:∀ (i:Nat) x,(δ ++ List.replicate k Slot.un)[i]? = some x -> x ≠ .un -> δ[i]? = some x:=fun i x h n => by
  by_cases hi:i < δ.length
  ·rwa [List.getElem?_append_left hi] at h
  ·rw [List.getElem?_append_right (by omega),List.getElem?_replicate] at h
   split at h
   ·exact absurd (Option.some.inj h).symm n
   ·cases h
 have gσ:∀ (i:Nat) x,δ[i]? = some x -> (σ ++ List.replicate k none)[i]? = σ[i]?:=fun i x h => by
  rw [List.getElem?_append_left (by rw [<- s.len]; exact (List.getElem?_eq_some_iff.mp h).1)]
 have ow':∀ a,uM (δ ++ List.replicate k .un) (σ ++ List.replicate k none) a -> uM δ σ a:=fun a ⟨j,b,xs,h1,h2⟩ => by
  have h1':=g j _ h1 (by simp)
  rw [gσ j _ h1'] at h2
  exact ⟨j,b,xs,h1',h2⟩
 have m:∀ b u,fS c δ σ H b = some u -> fS c (δ ++ List.replicate k .un) (σ ++ List.replicate k none) H b = some u:=bx (fun a u e z => z.elim .inl fun z => .inr (ow' a z)) fun a u _ e => e
 refine ⟨by simp [s.len],fun j d' h => ?_,fun j b xs h => ?_,fun j l b b' xs ys a h1 h2 h3 h4 => ?_,s.st.mono m,s.keep,s.bb,s.zz⟩
 ·have h':=g j _ h (by simp)
  obtain ⟨v,e,r⟩:=s.pu j d' h'
  exact ⟨v,by rw [gσ j _ h']; exact e,r.mono m⟩
 ·have h':=g j _ h (by simp)
  obtain ⟨a,vs,e,h1,h2,h3⟩:=s.ow j b xs h'
  exact ⟨a,vs,by rw [gσ j _ h']; exact e,h1,h2.mono m,h3⟩
 ·have h1':=g j _ h1 (by simp)
  have h2':=g l _ h2 (by simp)
  rw [gσ j _ h1'] at h3; rw [gσ l _ h2'] at h4
  exact s.ne j l b b' xs ys a h1' h2' h3 h4
theorem Sl.cut (s:Sl c δ S σ T H) (n:Nat):Sl c (δ.take n) S (σ.take n) T H:= by
 have g:∀ (i:Nat) x,(δ.take n)[i]? = some x -> i < n ∧ δ[i]? = some x:=fun i x h => by
  have hi:i < n:= by
   have:=(List.getElem?_eq_some_iff.mp h).1
   rw [List.length_take] at this; omega
  exact ⟨hi,by rwa [List.getElem?_take_of_lt hi] at h⟩
 have ow':∀ a,uM (δ.take n) (σ.take n) a -> uM δ σ a:=fun a ⟨j,b,xs,h1,h2⟩ => by
  obtain ⟨hj,h1'⟩:=g j _ h1
  rw [List.getElem?_take_of_lt hj] at h2
  exact ⟨j,b,xs,h1',h2⟩
 have m:∀ b u,fS c δ σ H b = some u -> fS c (δ.take n) (σ.take n) H b = some u:=bx (fun a u e z => z.elim .inl fun z => .inr (ow' a z)) fun a u _ e => e
 refine ⟨by simp [s.len],fun j d' h => ?_,fun j b xs h => ?_,fun j l b b' xs ys a h1 h2 h3 h4 => ?_,s.st.mono m,s.keep,s.bb,s.zz⟩
 ·obtain ⟨hj,h'⟩:=g j _ h
  obtain ⟨v,e,r⟩:=s.pu j d' h'
  exact ⟨v,by rw [List.getElem?_take_of_lt hj]; exact e,r.mono m⟩
 ·obtain ⟨hj,h'⟩:=g j _ h
  obtain ⟨a,vs,e,h1,h2,h3⟩:=s.ow j b xs h'
  exact ⟨a,vs,by rw [List.getElem?_take_of_lt hj]; exact e,h1,h2.mono m,h3⟩
 ·obtain ⟨hj,h1'⟩:=g j _ h1
  obtain ⟨hl,h2'⟩:=g l _ h2
  rw [List.getElem?_take_of_lt hj] at h3; rw [List.getElem?_take_of_lt hl] at h4
  exact s.ne j l b b' xs ys a h1' h2' h3 h4
end
end Jt
namespace Jt
open PySem L2
def M (α:Type):=DS -> Option (α × DS)
instance:Monad M where
 pure a:=fun s => some (a,s)
 bind x f:=fun s => match x s with
  | none => none
  | some (a,s') => f a s'
def lift {α:Type} (o:Option α):M α:=fun s => match o with
 | none => none
 | some a => some (a,s)
theorem M.bind_def {α β:Type} (x:M α) (f:α -> M β) (s:DS):(x >>= f) s = (match x s with | none => none | some (a,s') => f a s'):=rfl
theorem M.pure_def {α:Type} (a:α) (s:DS):(pure a:M α) s = some (a,s):=rfl
inductive J2 {α β:Type} (x:M α) (f:α -> M β) (s:DS) (b:β) (s2:DS):Prop
 | mk (a:α) (s1:DS) (e1:x s = some (a,s1)) (e2:f a s1 = some (b,s2)):J2 x f s b s2
theorem bind_some {α β:Type} {x:M α} {f:α -> M β} {s:DS} {b:β} {s2:DS} (h:(x >>= f) s = some (b,s2)):J2 x f s b s2:= by
 rw [M.bind_def] at h
 cases e:x s with
 | none => rw [e] at h; cases h
 | some p => obtain ⟨a,s1⟩:=p; rw [e] at h; exact ⟨a,s1,e,h⟩
theorem ar {α:Type} {a b:α} {s s':DS} (h:(pure a:M α) s = some (b,s')):a = b ∧ s = s':= by
 rw [M.pure_def] at h; cases h; exact ⟨rfl,rfl⟩
theorem aE {α:Type} {o:Option α} {b:α} {s s':DS} (h:lift o s = some (b,s')):o = some b ∧ s = s':= by
 unfold lift at h
 cases o with
 | none => cases h
 | some a => cases h; exact ⟨rfl,rfl⟩
theorem bo {p:Addr -> Prop} {H:Hp}:∀ b o,F9 p H b = some o -> H b = some o:=fun b o h => (fm.mp h).2
inductive tM (f:M D) (σ:St) (H:Hp) (Q:VK):Prop
 | mk (c:Ct) (δ:DS) (S:List D) (T:List V) (d:D) (δ':DS) (s:Sl c δ S σ T H) (e:f δ = some (d,δ')) (q:∀ v H',Sl c δ' (d :: S) σ (v :: T) H' -> Q v H'):tM f σ H Q
inductive Ay (f:M Bool) (σ:St) (H:Hp) (Q:Bool -> Hp -> Prop):Prop
 | mk (c:Ct) (δ:DS) (S:List D) (T:List V) (b:Bool) (δ':DS) (s:Sl c δ S σ T H) (e:f δ = some (b,δ')) (q:∀ H',Sl c δ' S σ T H' -> Q b H'):Ay f σ H Q
inductive IL (f:M (List D)) (σ:St) (H:Hp) (Q:List V -> Hp -> Prop):Prop
 | mk (c:Ct) (δ:DS) (S:List D) (T:List V) (ds:List D) (δ':DS) (s:Sl c δ S σ T H) (e:f δ = some (ds,δ')) (q:∀ vs H',vs.length = ds.length -> Sl c δ' (ds ++ S) σ (vs ++ T) H' -> Q vs H'):IL f σ H Q
inductive Gs (f:M (List D)) (σ:St) (H:Hp) (Q:VK):Prop
 | mk (c:Ct) (δ:DS) (S:List D) (T:List V) (xs:List D) (δ':DS) (s:Sl c δ S σ T H) (e:f δ = some (xs,δ')) (q:∀ l vs H',vs.length = xs.length -> Sl { c with Z:=upd c.Z l (.lst vs) } δ' (xs ++ S) σ (vs ++ T) H' -> c.Z l = none -> l ∉ c.B -> c.H0 l = none -> Q (.ref l) H'):Gs f σ H Q
abbrev DE (X:Cx) (e:Expr) (f:M D):Prop:=PE X e (tM f)
abbrev DT (X:Cx) (e:Expr) (f:M Bool):Prop:=PT X e (Ay f)
abbrev DW (X:Cx) (e:Expr) (f:M Bool):Prop:=PW X e (Ay f)
abbrev DA (X:Cx) (es:List Expr) (f:M (List D)):Prop:=PA X es (IL f)
abbrev DF (X:Cx) (e:Expr) (f:M (List D)):Prop:=PE X e (Gs f)
theorem cT {X:Cx} {e:Expr} {t t':TE} (h:PE X e t) (w:∀ σ H Q,t' σ H Q -> t σ H Q):PE X e t':=fun pins s σ H Q I q => h pins s σ H Q I (w σ H Q q)
theorem uu {X:Cx} {e:Expr} {t t':TT} (h:PT X e t) (w:∀ σ H Q,t' σ H Q -> t σ H Q):PT X e t':=fun pins s σ H Q I q => h pins s σ H Q I (w σ H Q q)
theorem GC {X:Cx} {e:Expr} {t t':TT} (h:PW X e t) (w:∀ σ H Q,t' σ H Q -> t σ H Q):PW X e t':=fun wh pins s σ H Q I q => h wh pins s σ H Q I (w σ H Q q)
theorem Hi {X:Cx} {e:List Expr} {t t':TA} (h:PA X e t) (w:∀ σ H Q,t' σ H Q -> t σ H Q):PA X e t':=fun ps pins s σ H Q I q => h ps pins s σ H Q I (w σ H Q q)
section
variable {X:Cx} {a b e:Expr} {fa fb:M D} {pos:Pos}
def ag (i:Nat):M D:=fun δ => match δ[i]? with
 | some (.pu d) => some (d,δ)
 | _ => none
theorem oH {i:Nat} {δ δ':DS} {d:D} (h:ag i δ = some (d,δ')):δ[i]? = some (.pu d) ∧ δ = δ':= by
 unfold ag at h
 split at h
 ·rename_i d0 e; cases h; exact ⟨e,rfl⟩
 ·cases h
theorem ab (i:Nat) {x:Str} {pos:Pos} (hN:X.N[i]? = some x:=by rfl) (hv:vd X.env.scope x:=by first | exact Or.inl rfl | exact Or.inr (Or.inl rfl) | exact Or.inr (Or.inr rfl)) (hd:(x == ("__debug__":Str)) = false:=by decide)
  (hcd:(x == ("__classdict__":Str)) = false:=by decide):DE X (.Name x pos) (ag i):=cT (eU hN hv hd hcd) fun σ H Q ⟨c,δ,S,T,d,δ',s,e,k⟩ => by
 obtain ⟨e',rfl⟩:=oH e
 obtain ⟨v,ev,r⟩:=s.pu i d e'
 exact ⟨v,ev,k v H (s.stk (.cons r s.st))⟩
theorem HR {e:Expr} {v:V} {d:D} (h:PE X e (tC v)) (r:∀ H,R H d v):DE X e (pure d):=cT h fun σ H Q ⟨c,δ,S,T,d',δ',s,e,k⟩ => by
 obtain ⟨rfl,rfl⟩:=ar e
 exact k v H (s.stk (.cons (r _) s.st))
theorem ak {i:Int} {j pos}:DE X (.Constant (.int i) j pos) (pure (.int i)):=HR tS fun _ => .mkI
theorem dj {i:Bool} {j pos}:DE X (.Constant (.bool i) j pos) (pure (.bl i)):=HR GJ fun _ => .mkB
theorem tQ {i:Str} {j pos}:DE X (.Constant (.str i) j pos) (pure (.str i)):=HR E3 fun _ => .mkS
theorem gH {j pos}:DE X (.Constant .none j pos) (pure .non):=HR D4 fun _ => .mkN
theorem az {f:M (List D)} (h:DF X e f):DE X e (do let xs <- f; pure (.lst xs)):=cT h fun σ H Q ⟨c,δ,S,T,d,δ',s,e,k⟩ => by
 obtain ⟨xs,δ1,e1,e2⟩:=bind_some e
 obtain ⟨rfl,rfl⟩:=ar e2
 exact ⟨c,δ,S,T,xs,δ1,s,e1,fun l vs H' hl s' hz _ _ => k _ _ (s'.unhideL hl hz)⟩
def qk (r:R2) (f:D -> D -> Option D):Prop:=∀ (c:Ct) (δ:DS) (S:List D) (σ:St) (T:List V) (H:Hp) (x y:D) (v u:V) (d:D) (Q:VK),Sl c δ (y :: x :: S) σ (u :: v :: T) H -> f x y = some d -> (∀ z H',Sl c δ (d :: S) σ (z :: T) H' -> Q z H') -> r v u H Q
def m2 (f:D -> D -> Option D) (fa fb:M D):M D:=do
 let x <- fa
 let y <- fb
 lift (f x y)
theorem vp {r:R2} {f:D -> D -> Option D} (hd:qk r f):∀ σ H Q,tM (m2 f fa fb) σ H Q -> DK r (tM fa) (tM fb) σ H Q:=fun σ H Q ⟨c,δ,S,T,d,δ',s,e,k⟩ => by
 obtain ⟨x,δ1,e1,e⟩:=bind_some e
 obtain ⟨y,δ2,e2,e⟩:=bind_some e
 obtain ⟨e3,rfl⟩:=aE e
 exact ⟨c,δ,S,T,x,δ1,s,e1,fun v H1 s1 => ⟨c,δ1,x :: S,v :: T,y,δ2,s1,e2,fun u H2 s2 => hd _ _ _ _ _ _ _ _ _ _ _ _ s2 e3 k⟩⟩
theorem kR {op:Operator} {r:R2} {f:D -> D -> Option D} (ho:gf X (binaryOp op) r) (hd:qk r f) (ha:DE X a fa) (hb:DE X b fb):DE X (.BinOp a op b pos) (m2 f fa fb):=cT (DU ho ha hb) (vp hd)
theorem pN {op:CmpOp} {r:R2} {f:D -> D -> Option D} (ho:gf X (compareOp op) r) (hd:qk r f) (ha:DE X a fa) (hb:DE X b fb) (hm:behindInMarks op b = false:=by first | exact kF _ | rfl):DE X (.Compare a [op] [b] pos) (m2 f fa fb):=cT (ll ho ha hb hm) (vp hd)
theorem Gx {r:R2} {f:D -> D -> Option D} (hr:AG X r) (hd:qk r f) (ha:DE X a fa) (hb:DE X b fb) (hs:lB b:=by exact fun _ _ => rfl):DE X (.Subscript a b pos) (m2 f fa fb):=cT (DD hr ha hb hs) (vp hd)
def cg (C:Int -> Int -> Bool) (g:Int -> Int -> D):D -> D -> Option D
 | .int i,.int j => if C i j = true then some (g i j) else none
 | _,_ => none
theorem eR {C:Int -> Int -> Bool} {g:Int -> Int -> D} {x y d:D} (h:cg C g x y = some d):∃ i j,x = .int i ∧ y = .int j ∧ C i j = true ∧ d = g i j:= by
 unfold cg at h
 split at h
 ·rename_i i j
  split at h
  ·cases h; exact ⟨i,j,rfl,rfl,‹_›,rfl⟩
  ·cases h
 ·cases h
theorem qE {C:Int -> Int -> Prop} {C':Int -> Int -> Bool} {g:Int -> Int -> V} {g':Int -> Int -> D} (hC:∀ i j,C' i j = true -> C i j) (hg:∀ H i j,R H (g' i j) (g i j)):qk (rI C g) (cg C' g'):=fun c δ S σ T H x y v u d Q s e k => by
 obtain ⟨i,j,rfl,rfl,e1,rfl⟩:=eR e
 have h1:=s.st.head.int
 have h2:=s.st.tail.head.int
 exact ⟨i,j,h2,h1,hC i j e1,k _ _ (s.stk (.cons (hg _ _ _) s.st.tail.tail))⟩
theorem j7 {g:Int -> Int -> V} {g':Int -> Int -> D} (hg:∀ H i j,R H (g' i j) (g i j)):qk (ud g) (cg (fun _ _ => true) g'):=fun c δ S σ T H x y v u d Q s e k => by
 obtain ⟨i,j,rfl,rfl,e1,rfl⟩:=eR e
 have h1:=s.st.head.int
 have h2:=s.st.tail.head.int
 exact ⟨i,j,h2,h1,k _ _ (s.stk (.cons (hg _ _ _) s.st.tail.tail))⟩
def dk:=cg (fun _ _ => true) fun i j => .int (i + j)
def kL:=cg (fun _ _ => true) fun i j => .int (i - j)
def nI:=cg (fun i j => (decide (-(2 ^ 64) < i) && decide (i < 2 ^ 64)) || (decide (-(2 ^ 64) < j) && decide (j < 2 ^ 64))) fun i j => .int (i * j)
def nD:=cg (fun _ j => decide (0 < j)) fun i j => .int (i % j)
def Ea:=cg (fun _ j => decide (0 < j) && decide (j < 1073741824)) fun i j => .int (i / j)
def mY:=cg (fun _ _ => true) fun i j => .bl (decide (i < j))
def Aw:=cg (fun _ _ => true) fun i j => .bl (decide (i ≤ j))
def vA:=cg (fun _ _ => true) fun i j => .bl (decide (j < i))
def IW:=cg (fun _ _ => true) fun i j => .bl (decide (j ≤ i))
theorem cY (ha:DE X a fa) (hb:DE X b fb):DE X (.BinOp a .Add b pos) (m2 dk fa fb):=kR F7 (j7 fun _ _ _ => .mkI) ha hb
theorem mE (ha:DE X a fa) (hb:DE X b fb):DE X (.BinOp a .Sub b pos) (m2 kL fa fb):=kR FK (j7 fun _ _ _ => .mkI) ha hb
theorem pj (ha:DE X a fa) (hb:DE X b fb):DE X (.BinOp a .Mult b pos) (m2 nI fa fb):=kR EE (qE (fun i j h => by
 simp only [Bool.or_eq_true,Bool.and_eq_true,decide_eq_true_eq] at h; exact h) fun _ _ _ => .mkI) ha hb
theorem mm (ha:DE X a fa) (hb:DE X b fb):DE X (.BinOp a .Mod b pos) (m2 nD fa fb):=kR F5 (qE (fun i j h => of_decide_eq_true h) fun _ _ _ => .mkI) ha hb
theorem Ft (ha:DE X a fa) (hb:DE X b fb):DE X (.BinOp a .FloorDiv b pos) (m2 Ea fa fb):=kR B_ (qE (fun i j h => by
 simp only [Bool.and_eq_true,decide_eq_true_eq] at h; exact h) fun _ _ _ => .mkI) ha hb
theorem HK (ha:DE X a fa) (hb:DE X b fb):DE X (.Compare a [.Gt] [b] pos) (m2 vA fa fb):=pN Dm (j7 fun _ _ _ => .mkB) ha hb
def cQ:D -> D -> Option D
 | .tup ds,.int i => jx ds i
 | .lst ds,.int i => jx ds i
 | _,_ => none
theorem tJ {H:Hp} {ds:List D} {vs:List V} {i:Int} {d:D} (h:Rs H ds vs) (e:jx ds i = some d):∃ v,jx vs i = some v ∧ R H d v:= by
 unfold jx at *
 rw [h.length]
 cases q:tD ds.length i with
 | none => rw [q] at e; cases e
 | some j =>
  rw [q] at e
  exact h.get e
theorem E9 {K:PySem.W.Frag}:qk (JT K) cQ:=fun c δ S σ T H x y v u d Q s e k => by
 cases x with
 | tup ds =>
  cases y with
  | int i =>
   have e':jx ds i = some d:=e
   obtain ⟨p,vs,rfl,h1,h2⟩:=s.st.tail.head.tup
   obtain ⟨z,e2,r⟩:=tJ h2 e'
   exact .inr (.inl ⟨p,vs,i,z,rfl,s.st.head.int,.of (bo _ _ h1),e2,k _ _ (s.stk (.cons r s.st.tail.tail))⟩)
  | _ => cases e
 | lst ds =>
  cases y with
  | int i =>
   have e':jx ds i = some d:=e
   obtain ⟨p,vs,rfl,h1,h2⟩:=s.st.tail.head.lst
   obtain ⟨z,e2,r⟩:=tJ h2 e'
   exact .inl ⟨p,vs,i,z,rfl,s.st.head.int,.inl (Rd.mono bo h1),e2,k _ _ (s.stk (.cons r s.st.tail.tail))⟩
  | _ => cases e
 | _ => cases e
theorem aB (ha:DE X a fa) (hb:DE X b fb) (hs:lB b:=by exact fun _ _ => rfl):DE X (.Subscript a b pos) (m2 cQ fa fb):=Gx Gp E9 ha hb hs
def cx:D -> M Bool
 | .bl b => pure b
 | _ => lift none
theorem jM {d:D} {b:Bool} {δ δ':DS} (h:cx d δ = some (b,δ')):d = .bl b ∧ δ = δ':= by
 unfold cx at h
 split at h
 ·obtain ⟨rfl,rfl⟩:=ar h; exact ⟨rfl,rfl⟩
 ·cases h
theorem fk {op:CmpOp} {r:R2} {f:D -> D -> Option D} (ho:gf X (compareOp op) r) (hd:qk r f) (ha:DE X a fa) (hb:DE X b fb) (hm:behindInMarks op b = false:=by first | exact kF _ | rfl):DT X (.Compare a [op] [b] pos) (m2 f fa fb >>= cx) :=
 uu (lu ho ha hb hm) fun σ H Q ⟨c,δ,S,T,d,δ',s,e,k⟩ => by
  obtain ⟨x,δ1,e1,e⟩:=bind_some e
  obtain ⟨rfl,rfl⟩:=jM e
  exact vp hd σ H _ ⟨c,δ,S,T,.bl d,δ1,s,e1,fun v H' s' => ⟨d,s'.st.head.bl,k _ s'.pop⟩⟩
theorem uz (ha:DE X a fa) (hb:DE X b fb):DT X (.Compare a [.Lt] [b] pos) (m2 mY fa fb >>= cx):=fk Ah (j7 fun _ _ _ => .mkB) ha hb
theorem zG (ha:DE X a fa) (hb:DE X b fb):DT X (.Compare a [.Gt] [b] pos) (m2 vA fa fb >>= cx):=fk Dm (j7 fun _ _ _ => .mkB) ha hb
theorem HU (ha:DE X a fa) (hb:DE X b fb):DT X (.Compare a [.GtE] [b] pos) (m2 IW fa fb >>= cx):=fk HH (j7 fun _ _ _ => .mkB) ha hb
def cm:D -> Option Bool
 | .non => some false
 | .bl b => some b
 | .int i => some (i != 0)
 | .str _ => none
 | .tup ds => some (!ds.isEmpty)
 | .lst ds => some (!ds.isEmpty)
 | .dct => none
theorem mq {H:Hp} {ds:List D} {vs:List V} (h:Rs H ds vs):(!ds.isEmpty) = !vs.isEmpty:= by
 cases ds with
 | nil => rw [h.inv0]; rfl
 | cons d ds => obtain ⟨v,r,e,_⟩:=h.inv; rw [e]; rfl
theorem u4 {K:PySem.W.Frag} {Hh H:Hp} {d:D} {v:V} {b:Bool} (m:∀ b o,Hh b = some o -> H b = some o) (r:R Hh d v) (e:cm d = some b):Er K v H b:= by
 cases d with
 | non => cases r.non; cases e; rfl
 | bl x => cases r.bl; cases e; rfl
 | int i => cases r.int; cases e; rfl
 | str x => cases e
 | dct => cases e
 | tup ds =>
  obtain ⟨p,vs,rfl,h1,h2⟩:=r.tup
  cases e
  exact .inr (.inl ⟨vs,.of (m _ _ h1),mq h2⟩)
 | lst ds =>
  obtain ⟨p,vs,rfl,h1,h2⟩:=r.lst
  cases e
  exact .inl ⟨vs,.inl (Rd.mono m h1),mq h2⟩
theorem cz (ha:DE X a fa) (he:∀ whole,isTrue a X.env whole = (do let v <- whole; standAt a.pos; holding [v] (truthy v)):=by intro _; rfl):DT X a (do let x <- fa; lift (cm x)) :=
 uu (zP ha he) fun σ H Q ⟨c,δ,S,T,d,δ',s,e,k⟩ => by
  obtain ⟨x,δ1,e1,e⟩:=bind_some e
  obtain ⟨e2,rfl⟩:=aE e
  exact ⟨c,δ,S,T,x,δ1,s,e1,fun v H' s' => ⟨d,u4 bo s'.st.head e2,k _ s'.pop⟩⟩
def my (fa fb:M Bool):M Bool:=do
 let x <- fa
 if x = true then fb else pure false
def oT (fa fb:M Bool):M Bool:=do
 let x <- fa
 if x = true then pure true else fb
def fQ (fa:M Bool):M Bool:=do
 let x <- fa
 pure (!x)
variable {ta tb:M Bool} {rest:List Expr}
theorem gN (ha:DT X a ta):DW X (.BoolOp .And [a] pos) ta:=CZ ha
theorem eI (ha:DT X a ta):DW X (.BoolOp .Or [a] pos) ta:=F6 ha
theorem iA (ha:DT X a ta) (hb:DW X (.BoolOp .And (b :: rest) pos) tb):DW X (.BoolOp .And (a :: b :: rest) pos) (my ta tb):=GC (Gk ha hb) fun σ H Q ⟨c,δ,S,T,d,δ',s,e,k⟩ => by
 obtain ⟨x,δ1,e1,e⟩:=bind_some e
 refine ⟨c,δ,S,T,x,δ1,s,e1,fun H' s' => ?_⟩
 cases x with
 | true => rw [if_pos rfl] at e ⊢; exact ⟨c,δ1,S,T,d,δ',s',e,k⟩
 | false =>
  rw [if_neg Bool.false_ne_true] at e ⊢
  obtain ⟨rfl,rfl⟩:=ar e
  exact k _ s'
theorem fV (ha:DT X a ta) (hb:DW X (.BoolOp .Or (b :: rest) pos) tb):DW X (.BoolOp .Or (a :: b :: rest) pos) (oT ta tb):=GC (H_ ha hb) fun σ H Q ⟨c,δ,S,T,d,δ',s,e,k⟩ => by
 obtain ⟨x,δ1,e1,e⟩:=bind_some e
 refine ⟨c,δ,S,T,x,δ1,s,e1,fun H' s' => ?_⟩
 cases x with
 | false => rw [if_neg Bool.false_ne_true] at e ⊢; exact ⟨c,δ1,S,T,d,δ',s',e,k⟩
 | true =>
  rw [if_pos rfl] at e ⊢
  obtain ⟨rfl,rfl⟩:=ar e
  exact k _ s'
theorem gF (h:DW X a ta):DT X a ta:=h.pt
theorem d9 (ha:DT X a ta):DT X (.UnaryOp .Not a pos) (fQ ta):=uu (D3 ha) fun σ H Q ⟨c,δ,S,T,d,δ',s,e,k⟩ => by
 obtain ⟨x,δ1,e1,e⟩:=bind_some e
 obtain ⟨rfl,rfl⟩:=ar e
 exact ⟨c,δ,S,T,x,δ1,s,e1,fun H' s' => k _ s'⟩
def qs (fa fb:M D):M D:=do
 let x <- fa
 match x with
 | .bl true => fb
 | .bl false => pure (.bl false)
 | _ => lift none
def yx (fa:M D):M D:=do
 let x <- fa
 match x with
 | .bl b => pure (.bl (!b))
 | _ => lift none
theorem j9 {op} (h:DE X a fa):DE X (.BoolOp op [a] pos) fa:=ER h
theorem lZ (ha:DE X a fa) (hb:DE X (.BoolOp .And (b :: rest) pos) fb):DE X (.BoolOp .And (a :: b :: rest) pos) (qs fa fb):=cT (EA ha hb) fun σ H Q ⟨c,δ,S,T,d,δ',s,e,k⟩ => by
 obtain ⟨x,δ1,e1,e⟩:=bind_some e
 refine ⟨c,δ,S,T,x,δ1,s,e1,fun v H' s' => ?_⟩
 cases x with
 | bl q =>
  cases q with
  | true => exact ⟨true,s'.st.head.bl,Gy ⟨c,δ1,S,T,d,δ',s'.pop,e,k⟩⟩
  | false =>
   obtain ⟨rfl,rfl⟩:=ar e
   exact ⟨false,s'.st.head.bl,Ij (k _ _ (s'.stk (.cons .mkB s'.st.tail)))⟩
 | _ => cases e
theorem zY (ha:DE X a fa):DE X (.UnaryOp .Not a pos) (yx fa):=cT (Gh ha) fun σ H Q ⟨c,δ,S,T,d,δ',s,e,k⟩ => by
 obtain ⟨x,δ1,e1,e⟩:=bind_some e
 refine ⟨c,δ,S,T,x,δ1,s,e1,fun v H' s' => ?_⟩
 cases x with
 | bl q =>
  obtain ⟨rfl,rfl⟩:=ar e
  exact ⟨q,s'.st.head.bl,k _ _ (s'.stk (.cons .mkB s'.st.tail))⟩
 | _ => cases e
def fT {α:Type} (t:M Bool) (fa fb:M α):M α:=do
 let x <- t
 if x = true then fa else fb
variable {es:List Expr} {fs:M (List D)}
theorem af:DA X [] (pure []):=Hi ir fun σ H Q ⟨c,δ,S,T,d,δ',s,e,k⟩ => by
 obtain ⟨rfl,rfl⟩:=ar e
 exact k [] H rfl s
def ae (fa:M D) (fs:M (List D)):M (List D):=do
 let x <- fa
 let xs <- fs
 pure (x :: xs)
theorem aa (ha:DE X a fa) (hr:DA X es fs) (hs:starEach (a :: es) X.env = (false,eval a X.env) :: starEach es X.env:=by rfl):DA X (a :: es) (ae fa fs):=Hi (er ha hr hs) fun σ H Q ⟨c,δ,S,T,d,δ',s,e,k⟩ => by
 obtain ⟨x,δ1,e1,e⟩:=bind_some e
 obtain ⟨xs,δ2,e2,e⟩:=bind_some e
 obtain ⟨rfl,rfl⟩:=ar e
 refine ⟨c,δ,S,T,x,δ1,s,e1,fun v H1 s1 => ⟨c,δ1,x :: S,v :: T,xs,δ2,s1,e2,fun vs H2 l s2 => k (v :: vs) H2 (by simp [l]) (s2.stk ?_)⟩⟩
 have h1:=s2.st.left l
 have h2:=s2.st.right l
 exact .cons h2.head (h1.append h2.tail)
def few (n:Nat):Option Unit:=if n ≤ 100000 then some () else none
theorem jC {n:Nat} {u:Unit} (h:few n = some u):n ≤ sizeLine ∧ n < sizeLine:= by
 unfold few at h
 split at h
 ·have:(100000:Nat) < sizeLine:=by rw [sizeLine_eq]; decide
  omega
 ·cases h
def cj (fs:M (List D)):M D:=do
 let ds <- fs
 let _ <- lift (few ds.length)
 pure (.tup ds)
def cK (fs:M (List D)):M (List D):=do
 let ds <- fs
 let _ <- lift (few ds.length)
 pure ds
theorem aW {x1} (h:DA X es fs):DE X (.Tuple es x1 pos) (cj fs):=cT (Eb h) fun σ H Q ⟨c,δ,S,T,d,δ',s,e,k⟩ => by
 obtain ⟨ds,δ1,e1,e⟩:=bind_some e
 obtain ⟨_,δ2,e2,e⟩:=bind_some e
 obtain ⟨e3,rfl⟩:=aE e2
 obtain ⟨rfl,rfl⟩:=ar e
 exact ⟨c,δ,S,T,ds,δ1,s,e1,fun vs H1 l s1 => ⟨by rw [l]; exact (jC e3).1,fun p hp => k _ _ (s1.newTup l hp)⟩⟩
theorem bh (h:DA X es fs):DF X (.List es pos) (cK fs):=cT (DY h) fun σ H Q ⟨c,δ,S,T,d,δ',s,e,k⟩ => by
 obtain ⟨ds,δ1,e1,e⟩:=bind_some e
 obtain ⟨_,δ2,e2,e⟩:=bind_some e
 obtain ⟨e3,rfl⟩:=aE e2
 obtain ⟨rfl,rfl⟩:=ar e
 refine ⟨c,δ,S,T,ds,δ1,s,e1,fun vs H1 l s1 => ⟨by rw [l]; exact (jC e3).1,fun p hp => ?_⟩⟩
 obtain ⟨f1,f2,f3⟩:=s1.fresh hp
 exact k p vs _ l (s1.hide hp) f1 f2 f3
def jV (r:List V -> Hp -> VK -> Prop) (f:List D -> Option D):Prop:=∀ (c:Ct) (δ:DS) (S:List D) (σ:St) (T:List V) (H:Hp) (ds:List D) (vs:List V) (d:D) (Q:VK),vs.length = ds.length -> Sl c δ (ds ++ S) σ (vs ++ T) H -> f ds = some d -> (∀ z H',Sl c δ (d :: S) σ (z :: T) H' -> Q z H') -> r vs H Q
def z_ (r:List V -> Hp -> VK -> Prop) (f:List D -> Option (List D)):Prop:=∀ (c:Ct) (δ:DS) (S:List D) (σ:St) (T:List V) (H:Hp) (ds:List D) (vs:List V) (xs:List D) (Q:VK),vs.length = ds.length -> Sl c δ (ds ++ S) σ (vs ++ T) H -> f ds = some xs ->
 (∀ l ws H',ws.length = xs.length -> Sl { c with Z:=upd c.Z l (.lst ws) } δ (xs ++ S) σ (ws ++ T) H' -> c.Z l = none -> l ∉ c.B -> c.H0 l = none -> Q (.ref l) H') -> r vs H Q
def mC {α:Type} (f:List D -> Option α) (fs:M (List D)):M α:=do
 let ds <- fs
 lift (f ds)
variable {x:Str} {p:Pos} {id T:String} {r:List V -> Hp -> VK -> Prop} {f:List D -> Option D} {g:List D -> Option (List D)}
theorem DR (hd:jV r f):∀ σ H Q,tM (mC f fs) σ H Q -> IQ r (IL fs) σ H Q:=fun σ H Q ⟨c,δ,S,T,d,δ',s,e,k⟩ => by
 obtain ⟨ds,δ1,e1,e⟩:=bind_some e
 obtain ⟨e2,rfl⟩:=aE e
 exact ⟨c,δ,S,T,ds,δ1,s,e1,fun vs H1 l s1 => hd _ _ _ _ _ _ _ _ _ _ l s1 e2 k⟩
theorem Fs (hd:z_ r g):∀ σ H Q,Gs (mC g fs) σ H Q -> IQ r (IL fs) σ H Q:=fun σ H Q ⟨c,δ,S,T,d,δ',s,e,k⟩ => by
 obtain ⟨ds,δ1,e1,e⟩:=bind_some e
 obtain ⟨e2,rfl⟩:=aE e
 exact ⟨c,δ,S,T,ds,δ1,s,e1,fun vs H1 l s1 => hd _ _ _ _ _ _ _ _ _ _ l s1 e2 k⟩
def br:List D -> Option D
 | [.tup ds] => some (.int ds.length)
 | [.lst ds] => some (.int ds.length)
 | _ => none
theorem wC {H:Hp} {d:D} {vs:List V} (h:Rs H [d] vs):∃ v,vs = [v] ∧ R H d v:= by
 obtain ⟨v,r,e,h1,h2⟩:=h.inv
 rw [h2.inv0] at e
 exact ⟨v,e,h1⟩
theorem HN {H:Hp} {d d':D} {vs:List V} (h:Rs H [d,d'] vs):∃ v u,vs = [v,u] ∧ R H d v ∧ R H d' u:= by
 obtain ⟨v,r,e,h1,h2⟩:=h.inv
 obtain ⟨u,rfl,h3⟩:=wC h2
 exact ⟨v,u,e,h1,h3⟩
theorem EL {K:PySem.W.Frag}:jV (fun xs H Q => ∃ p ys,xs = [.ref p] ∧ (iY K H p ys ∨ i4 K H p ys) ∧ Q (.int ys.length) H) br:=fun c δ S σ T H ds vs d Q l s e k => by
 have h:=s.st.left l
 have h2:=s.st.right l
 unfold br at e
 split at e
 ·obtain ⟨v,rfl,r⟩:=wC h
  obtain ⟨p,ws,rfl,h1,h3⟩:=r.tup
  cases e
  exact ⟨p,ws,rfl,.inr (.of (bo _ _ h1)),k _ _ (s.stk (.cons (by rw [h3.length]; exact .mkI) h2))⟩
 ·obtain ⟨v,rfl,r⟩:=wC h
  obtain ⟨p,ws,rfl,h1,h3⟩:=r.lst
  cases e
  exact ⟨p,ws,rfl,.inl (.inl (Rd.mono bo h1)),k _ _ (s.stk (.cons (by rw [h3.length]; exact .mkI) h2))⟩
 ·cases e
theorem iy {f:List D -> Option D} (hc:d4 X (.builtin id) r) (hd:jV r f) (hg:Gl X x) (hm:X.mg x = none) (hv:bootBuiltins x = some (.builtin id)) (ha:DA X (a :: es) fs) (hn:x ≠ "__name__":=by decide) (hdb:(x == ("__debug__":Str)) = false:=by decide)
  (he:starEach (a :: es) X.env = (false,eval a X.env) :: starEach es X.env:=by rfl) (hpl:(backTo pos (starEach es X.env)).any (·.1) = false:=by rfl):DE X (.Call (.Name x p) (a :: es) [] pos) (mC f fs) :=
 cT (g9 hc hg hm hv ha hn hdb he hpl) (DR hd)
end
end Jt
namespace Jt
open PySem L2
inductive Fl where
 | nx | bk | ct | rt (d:D) | rf (xs:List D)
def Fin (c:Ct) (δ:DS) (S:List D) (T:List V) (fl:Fl) (E:Ends):Prop :=
 match fl with
 | .nx => ∀ σ H,Sl c δ S σ T H -> E.nx σ H
 | .bk => ∀ σ H,Sl c δ S σ T H -> E.bk σ H
 | .ct => ∀ σ H,Sl c δ S σ T H -> E.ct σ H
 | .rt d => ∀ v σ H,Sl c δ (d :: S) σ (v :: T) H -> E.rt v H
 | .rf xs => ∀ l vs σ H,vs.length = xs.length -> Sl { c with Z:=upd c.Z l (.lst vs) } δ (xs ++ S) σ (vs ++ T) H -> c.Z l = none -> l ∉ c.B -> c.H0 l = none -> E.rt (.ref l) H
inductive G8 (f:M Fl) (E:Ends) (σ:St) (H:Hp):Prop
 | mk (c:Ct) (δ:DS) (S:List D) (T:List V) (fl:Fl) (δ':DS) (s:Sl c δ S σ T H) (e:f δ = some (fl,δ')) (q:Fin c δ' S T fl E):G8 f E σ H
abbrev ql (X:Cx) (st:Stmt) (f:M Fl):Prop:=PS X st (G8 f)
abbrev sx (X:Cx) (st:List Stmt) (f:M Fl):Prop:=sA X st (G8 f)
theorem kH {X:Cx} {e:Stmt} {t t':TS} (h:PS X e t) (w:∀ E σ H,t' E σ H -> t E σ H):PS X e t':=fun pins s σ H Q I q => h pins s σ H Q I (w Q σ H q)
theorem Dx {X:Cx} {e:List Stmt} {t t':TS} (h:sA X e t) (w:∀ E σ H,t' E σ H -> t E σ H):sA X e t':=fun pins s σ H Q I q => h pins s σ H Q I (w Q σ H q)
section
variable {X:Cx} {a b e:Expr} {fa fb:M D} {fF:M (List D)} {pos:Pos} {st:Stmt} {rest:List Stmt} {f g:M Fl} {tt:M Bool}
theorem bg:sx X [] (pure .nx):=Dx Bc fun E σ H ⟨c,δ,S,T,fl,δ',s,e,k⟩ => by
 obtain ⟨rfl,rfl⟩:=ar e
 exact k σ H s
def aJ (f g:M Fl):M Fl:=do
 let fl <- f
 match fl with
 | .nx => g
 | fl => pure fl
theorem ah (h1:ql X st f) (h2:sx X rest g):sx X (st :: rest) (aJ f g):=Dx (yr h1 h2) fun E σ H ⟨c,δ,S,T,fl,δ',s,e,k⟩ => by
 obtain ⟨fl1,δ1,e1,e⟩:=bind_some e
 refine ⟨c,δ,S,T,fl1,δ1,s,e1,?_⟩
 cases fl1 with
 | nx => exact fun σ' H' s' => ⟨c,δ1,S,T,fl,δ',s',e,k⟩
 | bk => obtain ⟨rfl,rfl⟩:=ar e; exact k
 | ct => obtain ⟨rfl,rfl⟩:=ar e; exact k
 | rt d => obtain ⟨rfl,rfl⟩:=ar e; exact k
 | rf xs => obtain ⟨rfl,rfl⟩:=ar e; exact k
theorem aq (h1:ql X st f):sx X [st] f:=C2 h1
theorem aQ (he:DE X e fa):ql X (.Return (some e) pos) (do let d <- fa; pure (.rt d)):=kH (xR he) fun E σ H ⟨c,δ,S,T,fl,δ',s,e,k⟩ => by
 obtain ⟨d,δ1,e1,e⟩:=bind_some e
 obtain ⟨rfl,rfl⟩:=ar e
 exact ⟨c,δ,S,T,d,δ1,s,e1,fun v H' s' => k v σ H' s'⟩
theorem iX (he:DF X e fF):ql X (.Return (some e) pos) (do let d <- fF; pure (.rf d)):=kH (xR he) fun E σ H ⟨c,δ,S,T,fl,δ',s,e,k⟩ => by
 obtain ⟨d,δ1,e1,e⟩:=bind_some e
 obtain ⟨rfl,rfl⟩:=ar e
 exact ⟨c,δ,S,T,d,δ1,s,e1,fun l vs H' h1 h2 h3 h4 h5 => k l vs σ H' h1 h2 h3 h4 h5⟩
def nX (i:Nat):M (List D):=fun δ => match δ[i]? with
 | some (.ow false xs) => some (xs,δ.set i .un)
 | _ => none
theorem Gd (i:Nat) {x:Str} {pos:Pos} (hN:X.N[i]? = some x:=by rfl) (hv:vd X.env.scope x:=by first | exact Or.inl rfl | exact Or.inr (Or.inl rfl) | exact Or.inr (Or.inr rfl)) (hd:(x == ("__debug__":Str)) = false:=by decide)
  (hcd:(x == ("__classdict__":Str)) = false:=by decide):DF X (.Name x pos) (nX i):=cT (eU hN hv hd hcd) fun σ H Q ⟨c,δ,S,T,xs,δ',s,e,k⟩ => by
 unfold nX at e
 split at e
 ·rename_i ys hi
  cases e
  obtain ⟨a,vs0,ea,_⟩:=s.ow i _ _ hi
  obtain ⟨vs,h1,h2,h3,h4,h5⟩:=s.giveOw hi ea
  exact ⟨_,ea,k a vs H h1 h2 h3 h4 h5⟩
 ·cases e
theorem cp {t:Expr} {as bs:List Stmt} (ht:DT X t tt) (ha:sx X as f) (hb:sx X bs g):ql X (.If t as bs pos) (fT tt f g):=kH (GZ ht ha hb) fun E σ H ⟨c,δ,S,T,fl,δ',s,e,k⟩ => by
 obtain ⟨x,δ1,e1,e⟩:=bind_some e
 refine ⟨c,δ,S,T,x,δ1,s,e1,fun H' s' => ?_⟩
 cases x with
 | true => rw [if_pos rfl] at e ⊢; exact ⟨c,δ1,S,T,fl,δ',s',e,k⟩
 | false => rw [if_neg Bool.false_ne_true] at e ⊢; exact ⟨c,δ1,S,T,fl,δ',s',e,k⟩
theorem vo (he:DE X e fa) (hs:swapsWith e none pos.line X.env = pure false:=by rfl):ql X (.Expr e pos) (do let _ <- fa; pure .nx):=kH (uJ he hs) fun E σ H ⟨c,δ,S,T,fl,δ',s,e,k⟩ => by
 obtain ⟨x,δ1,e1,e⟩:=bind_some e
 obtain ⟨rfl,rfl⟩:=ar e
 exact ⟨c,δ,S,T,x,δ1,s,e1,fun v H' s' => k _ _ s'.pop⟩
def aY (i:Nat) (d:D):M Unit:=fun δ => if i < δ.length then some ((),δ.set i (.pu d)) else none
def zg (i:Nat) (xs:List D):M Unit:=fun δ => if i < δ.length then some ((),δ.set i (.ow false xs)) else none
theorem kJ {i:Nat} {d:D} {δ δ':DS} {u:Unit} (h:aY i d δ = some (u,δ')):i < δ.length ∧ δ' = δ.set i (.pu d):= by
 unfold aY at h; split at h
 ·cases h; exact ⟨‹_›,rfl⟩
 ·cases h
theorem ou {i:Nat} {d:List D} {δ δ':DS} {u:Unit} (h:zg i d δ = some (u,δ')):i < δ.length ∧ δ' = δ.set i (.ow false d):= by
 unfold zg at h; split at h
 ·cases h; exact ⟨‹_›,rfl⟩
 ·cases h
def dY (i:Nat) (fa:M D):M Fl:=do
 let d <- fa
 aY i d
 pure .nx
def t_ (i:Nat) (fF:M (List D)):M Fl:=do
 let d <- fF
 zg i d
 pure .nx
theorem Hg {te:TE} {i:Nat} (w:∀ σ H Q,tM fa σ H Q -> te σ H Q):∀ E σ H,G8 (dY i fa) E σ H -> w_ te (qZ i) E σ H:=fun E σ H ⟨c,δ,S,T,fl,δ',s,e,k⟩ => by
 obtain ⟨d,δ1,e1,e⟩:=bind_some e
 obtain ⟨u,δ2,e2,e⟩:=bind_some e
 obtain ⟨rfl,rfl⟩:=ar e
 obtain ⟨hi,rfl⟩:=kJ e2
 exact w _ _ _ ⟨c,δ,S,T,d,δ1,s,e1,fun v H' s' => k _ _ (s'.setPu hi)⟩
theorem GX {te:TE} {i:Nat} (w:∀ σ H Q,Gs fF σ H Q -> te σ H Q):∀ E σ H,G8 (t_ i fF) E σ H -> w_ te (qZ i) E σ H:=fun E σ H ⟨c,δ,S,T,fl,δ',s,e,k⟩ => by
 obtain ⟨d,δ1,e1,e⟩:=bind_some e
 obtain ⟨u,δ2,e2,e⟩:=bind_some e
 obtain ⟨rfl,rfl⟩:=ar e
 obtain ⟨hi,rfl⟩:=ou e2
 exact w _ _ _ ⟨c,δ,S,T,d,δ1,s,e1,fun l vs H' h1 h2 h3 h4 h5 => k _ _ (h2.setOw h1 h3 h4 h5 hi)⟩
theorem bu (i:Nat) {x:Str} {pos':Pos} (hN:X.N.Nodup) (he:DE X e fa) (hi:X.N[i]? = some x:=by rfl) (hx:Loc X.env.scope x:=by first | exact Or.inl rfl | exact Or.inr rfl) (hs:swapsWith e (some (.Name x pos')) pos.line X.env = pure false:=by rfl)
  (hf:X.fn x = true ∨ X.env.scope.names.lookup x = some .local:=by first | exact .inl rfl | exact .inr rfl | assumption):ql X (.Assign [.Name x pos'] e pos) (dY i fa):=kH (xw hN hi hx he hs hf) (Hg fun _ _ _ h => h)
theorem eO (i:Nat) {x:Str} {pos':Pos} (hN:X.N.Nodup) (he:DF X e fF) (hi:X.N[i]? = some x:=by rfl) (hx:Loc X.env.scope x:=by first | exact Or.inl rfl | exact Or.inr rfl) (hs:swapsWith e (some (.Name x pos')) pos.line X.env = pure false:=by rfl)
  (hf:X.fn x = true ∨ X.env.scope.names.lookup x = some .local:=by first | exact .inl rfl | exact .inr rfl | assumption):ql X (.Assign [.Name x pos'] e pos) (t_ i fF):=kH (xw hN hi hx he hs hf) (GX fun _ _ _ h => h)
inductive JD (lo:Nat) (f:D -> M Unit) (v:V) (σ:St) (H:Hp) (Q:St -> Hp -> Prop):Prop
 | mk (c:Ct) (δ:DS) (S:List D) (T:List V) (d:D) (δ':DS) (s:Sl c δ (d :: S) σ (v :: T) H) (e:f d δ = some ((),δ')) (q:∀ σ' H',(∀ n,n ≤ lo -> σ'.take n = σ.take n) -> Sl c δ' S σ' T H' -> Q σ' H'):JD lo f v σ H Q
inductive Hx (lo:Nat) (f:List D -> M Unit) (vs:List V) (σ:St) (H:Hp) (Q:St -> Hp -> Prop):Prop
 | mk (c:Ct) (δ:DS) (S:List D) (T:List V) (ds:List D) (δ':DS) (l:vs.length = ds.length) (s:Sl c δ (ds ++ S) σ (vs ++ T) H) (e:f ds δ = some ((),δ')) (q:∀ σ' H',(∀ n,n ≤ lo -> σ'.take n = σ.take n) -> Sl c δ' S σ' T H' -> Q σ' H'):Hx lo f vs σ H Q
abbrev DG (X:Cx) (lo:Nat) (tg:Expr) (f:D -> M Unit):Prop:=PG X tg (JD lo f)
abbrev IZ (X:Cx) (lo:Nat) (tg:List Expr) (f:List D -> M Unit):Prop:=Eg X tg (Hx lo f)
theorem G4 {X:Cx} {e:Expr} {t t':TG} (h:PG X e t) (w:∀ v σ H Q,t' v σ H Q -> t v σ H Q):PG X e t':=fun pins s σ H v u Q I r q => h pins s σ H v u Q I r (w v σ H Q q)
theorem Dz {X:Cx} {e:List Expr} {t t':Dg} (h:Eg X e t) (w:∀ v σ H Q,t' v σ H Q -> t v σ H Q):Eg X e t':=fun pins s σ H v u Q I r q => h pins s σ H v u Q I r (w v σ H Q q)
theorem aw {lo:Nat} (i:Nat) {x:Str} {pos:Pos} (hN:X.N.Nodup) (hlo:lo ≤ i:=by decide) (hi:X.N[i]? = some x:=by rfl) (hx:Loc X.env.scope x:=by first | exact Or.inl rfl | exact Or.inr rfl)
  (hf:X.fn x = true ∨ X.env.scope.names.lookup x = some .local:=by first | exact .inl rfl | exact .inr rfl | assumption):DG X lo (.Name x pos) (aY i):=G4 (AW hN hi hx hf) fun v σ H Q ⟨c,δ,S,T,d,δ',s,e,k⟩ => by
 obtain ⟨hi,rfl⟩:=kJ e
 exact k _ _ (fun n hn => List.take_set_of_le (Nat.le_trans hn hlo)) (s.setPu hi)
def eY:List D -> M Unit
 | [] => pure ()
 | _ => lift none
def b4 (f:D -> M Unit) (g:List D -> M Unit):List D -> M Unit
 | d :: ds => do
  f d
  g ds
 | _ => lift none
theorem dD {lo:Nat}:IZ X lo [] eY:=Dz C0 fun v σ H Q ⟨c,δ,S,T,ds,δ',l,s,e,k⟩ => by
 cases ds with
 | nil =>
  obtain ⟨_,rfl⟩:=ar e
  have:v = []:=List.eq_nil_of_length_eq_zero l
  subst this
  exact ⟨rfl,k σ H (fun _ _ => rfl) s⟩
 | cons d ds => cases e
theorem bp {lo:Nat} {e:Expr} {es:List Expr} {f:D -> M Unit} {g:List D -> M Unit} (h1:DG X lo e f) (h2:IZ X lo es g)
  (hs:(assignEach (e :: es) X.env).map (·.2) = assign e X.env :: (assignEach es X.env).map (·.2):=by rfl):IZ X lo (e :: es) (b4 f g):=Dz (Ar h1 h2 hs) fun vs σ H Q ⟨c,δ,S,T,ds,δ',l,s,e,k⟩ => by
 cases ds with
 | nil => cases e
 | cons d ds =>
  cases vs with
  | nil => cases l
  | cons v vs =>
   obtain ⟨u,δ1,e1,e2⟩:=bind_some e
   exact ⟨v,vs,rfl,c,δ,ds ++ S,vs ++ T,d,δ1,s,e1,fun σ1 H1 t1 s1 => ⟨c,δ1,S,T,ds,δ',by simpa using l,s1,e2,fun σ2 H2 t2 s2 => k σ2 H2 (fun n hn => (t2 n hn).trans (t1 n hn)) s2⟩⟩
def ft (n:Nat) (g:List D -> M Unit):D -> M Unit
 | .tup ds => if ds.length = n then g ds else lift none
 | _ => lift none
theorem eJ {lo:Nat} {es:List Expr} {k:Nat} {g:List D -> M Unit} {n:Nat} (h:IZ X lo es g) (hc:X.calm = true:=by rfl)
  (hn:(assignEach es X.env).length = n:=by rfl) (hst:(assignEach es X.env).findIdx? (·.1) = none:=by rfl):DG X lo (.Tuple es k pos) (ft n g):=G4 (EB hc h hn hst) fun v σ H Q ⟨c,δ,S,T,d,δ',s,e,k⟩ => by
 cases d with
 | tup ds =>
  have e':(if ds.length = n then g ds else lift none) δ = some ((),δ'):=e
  split at e'
  ·rename_i hl
   obtain ⟨p,vs,rfl,h1,h2⟩:=s.st.head.tup
   exact ⟨p,vs,rfl,.of (bo _ _ h1),by rw [h2.length]; exact hl,c,δ,S,T,ds,δ',h2.length,s.stk (h2.append s.st.tail),e',k⟩
  ·cases e'
 | _ => cases e
theorem kr {tg:Expr} {g:D -> M Unit} (he:DE X e fa) (hg:DG X 0 tg g) (hs:swapsWithSole [tg] e pos.line X.env = pure false:=by rfl) (hw:swappedStores [tg] e X.env = pure none:=by rfl)
  (h1:(assignEach [tg] X.env).map (·.2) = [assign tg X.env]:=by rfl):ql X (.Assign [tg] e pos) (do let d <- fa; g d; pure .nx):=kH (yo he hg hs hw h1) fun E σ H ⟨c,δ,S,T,fl,δ',s,e,k⟩ => by
 obtain ⟨d,δ1,e1,e⟩:=bind_some e
 obtain ⟨u,δ2,e2,e⟩:=bind_some e
 obtain ⟨rfl,rfl⟩:=ar e
 exact ⟨c,δ,S,T,d,δ1,s,e1,fun v H' s' => ⟨c,δ1,S,T,d,δ2,s',e2,fun σ' H2 _ s2 => k _ _ s2⟩⟩
abbrev lg:=List (DS -> Option D) × (DS -> Bool)
def Gr (J:It) (its:lg) (Sx:List D) (Tx:List V):Prop:=∀ (c:Ct) (δ:DS) (S:List D) (σ:St) (T:List V) (H:Hp) (i:Nat),Sl c δ (Sx ++ S) σ (Tx ++ T) H ->
 (∀ act d,its.1[i]? = some act -> act δ = some d -> J.go i H ∧ ∀ x H',J.yld i H x H' -> Sl c δ (d :: (Sx ++ S)) σ (x :: (Tx ++ T)) H') ∧ (i = its.1.length -> its.2 δ = true -> J.stop i H)
inductive JV (f:M lg) (σ:St) (H:Hp) (R:It -> Hp -> Prop):Prop
 | mk (c:Ct) (δ:DS) (S:List D) (T:List V) (it:lg) (δ':DS) (s:Sl c δ S σ T H) (e:f δ = some (it,δ')) (q:∀ J Sx Tx H',Tx.length = Sx.length -> Gr J it Sx Tx -> Sl c δ' (Sx ++ S) σ (Tx ++ T) H' -> R J H'):JV f σ H R
abbrev DI (X:Cx) (tg iter:Expr) (f:M lg):Prop:=PI X tg iter (JV f)
theorem tp {X:Cx} {tg e:Expr} {t t':TI} (h:PI X tg e t) (w:∀ σ H Q,t' σ H Q -> t σ H Q):PI X tg e t':=fun pins s σ H Q I q => h pins s σ H Q I (w σ H Q q)
def a_ (ds:List D):lg:=(ds.map fun d _ => some d,fun _ => true)
theorem fU {ds:List D} {i:Nat} {act:DS -> Option D} {δ:DS} {d:D} (h:(a_ ds).1[i]? = some act) (e:act δ = some d):ds[i]? = some d:= by
 unfold a_ at h
 rw [List.getElem?_map] at h
 cases q:ds[i]? with
 | none => rw [q] at h; cases h
 | some d' => rw [q] at h; cases h; exact e
theorem AX {K:PySem.W.Frag} {X:Cx} (hK:X.K = K) {a:Addr} {ds:List D}:Gr (Jc K a) (a_ ds) [.tup ds] [.ref a]:=fun c δ S σ T H i s => by
 obtain ⟨p,vs,e,h1,h2⟩:=s.st.head.tup
 cases e
 have hq:i4 K H a vs:=.of (bo _ _ h1)
 refine ⟨fun act d ha hd => ?_,fun e _ => ⟨vs,hq,by rw [h2.length,e]; simp [a_]⟩⟩
 obtain ⟨v,hv,r⟩:=h2.get (fU ha hd)
 refine ⟨⟨vs,v,hq,hv⟩,fun x H' y => ?_⟩
 obtain ⟨rfl,y⟩:=y
 have:=y vs hq
 rw [hv] at this; cases this
 exact s.stk (.cons r s.st)
theorem Bh {K:PySem.W.Frag} {a:Addr} {ds:List D}:Gr (IV K a) (a_ ds) [.lst ds] [.ref a]:=fun c δ S σ T H i s => by
 obtain ⟨p,vs,e,h1,h2⟩:=s.st.head.lst
 cases e
 have hq:iY K H a vs:=.inl (Rd.mono bo h1)
 refine ⟨fun act d ha hd => ?_,fun e _ => ⟨vs,hq,by rw [h2.length,e]; simp [a_]⟩⟩
 obtain ⟨v,hv,r⟩:=h2.get (fU ha hd)
 refine ⟨⟨vs,v,hq,hv⟩,fun x H' y => ?_⟩
 obtain ⟨rfl,y⟩:=y
 have:=y vs hq
 rw [hv] at this; cases this
 exact s.stk (.cons r s.st)
def aF:D -> Option lg
 | .tup ds => some (a_ ds)
 | .lst ds => some (a_ ds)
 | _ => none
theorem Fu {tg l:Expr} {tl:TE} (hl:PE X l tl):PI X tg l (fun σ H R => tl σ H fun x H1 => ∃ a,x = .ref a ∧ (((∃ xs,iY X.K H1 a xs) ∧ R (IV X.K a) H1) ∨ ((∃ xs,i4 X.K H1 a xs) ∧ R (Jc X.K a) H1))):= by
 intro pins s σ H R I h
 refine cW (hl pins s σ H _ I h) fun v s1 ⟨x,H1,I1,r1,q1⟩ => ?_
 obtain ⟨a,e,q⟩:=q1
 subst e
 cases r1
 rcases q with ⟨⟨xs,hq⟩,q⟩ | ⟨⟨xs,hq⟩,q⟩
 ·obtain ⟨its,rv,p,hz⟩:=I1.list hq
  refine wpAny_pyIter_list p.isList ?_
  refine ⟨s1.heap.objs.size,[s1.heap.objs.size],_,_,H1,rfl,I1.kept (t':=s1.toks) fun b o e => Heap.get?_push_of_some _ e,om a _,⟨_,Heap.get?_push_size _ rfl,rfl,rfl⟩,fun b hb => ?_,q⟩
  have e:b = s1.heap.objs.size:=by simpa using hb
  subst e
  exact I1.fpOk (Nat.le_refl _) (I1.hok.fresh (Nat.le_refl _))
 ·obtain ⟨its,rv,p,hz⟩:=I1.tuple hq
  refine wpAny_pyIter_tuple (show s1.heap.IsTuple a its.toArray from p) ?_
  refine ⟨s1.heap.objs.size,[s1.heap.objs.size],_,_,H1,rfl,I1.kept (t':=s1.toks) fun b o e => Heap.get?_push_of_some _ e,sU a _,⟨_,Heap.get?_push_size _ rfl,rfl,rfl⟩,fun b hb => ?_,q⟩
  have e:b = s1.heap.objs.size:=by simpa using hb
  subst e
  exact I1.fpOk (Nat.le_refl _) (I1.hok.fresh (Nat.le_refl _))
theorem bK {tg l:Expr} (hl:DE X l fa):DI X tg l (do let x <- fa; lift (aF x)):=tp (Fu hl) fun σ H R ⟨c,δ,S,T,it,δ',s,e,k⟩ => by
 obtain ⟨x,δ1,e1,e⟩:=bind_some e
 obtain ⟨e2,rfl⟩:=aE e
 refine ⟨c,δ,S,T,x,δ1,s,e1,fun v H' s' => ?_⟩
 cases x with
 | tup ds =>
  cases e2
  obtain ⟨p,vs,rfl,h1,h2⟩:=s'.st.head.tup
  exact ⟨p,rfl,.inr ⟨⟨vs,.of (bo _ _ h1)⟩,k _ [.tup ds] [.ref p] H' rfl (AX rfl) s'⟩⟩
 | lst ds =>
  cases e2
  obtain ⟨p,vs,rfl,h1,h2⟩:=s'.st.head.lst
  exact ⟨p,rfl,.inl ⟨⟨vs,.inl (Rd.mono bo h1)⟩,k _ [.lst ds] [.ref p] H' rfl Bh s'⟩⟩
 | _ => cases e2
def bL (lo:Int) (n:Nat):List D:=(List.range n).map fun (i:Nat) => D.int (lo + (i:Int))
theorem uC {lo:Int} {n:Nat}:Gr (HB lo n) (a_ (bL lo n)) [] []:=fun c δ S σ T H i s => by
 refine ⟨fun act d ha hd => ?_,fun e _ => by
  have:(a_ (bL lo n)).1.length = n:=by simp [a_,bL]
  show n ≤ i
  omega⟩
 have h:=fU ha hd
 unfold bL at h
 rw [List.getElem?_map] at h
 have hi:i < n:= by
  by_cases hi:i < n
  ·exact hi
  ·rw [List.getElem?_eq_none (by simp; omega)] at h; cases h
 rw [List.getElem?_range hi] at h
 cases h
 refine ⟨hi,fun x H' y => ?_⟩
 obtain ⟨rfl,rfl⟩:=y
 exact s.stk (.cons .mkI s.st)
def bt (i:Int):Bool:=decide (-(2 ^ 62) ≤ i) && decide (i < 2 ^ 62)
def cZ:List D -> Option lg
 | [.int j] => if bt j = true then some (a_ (bL 0 j.toNat)) else none
 | _ => none
def xN:List D -> Option lg
 | [.int i,.int j] => if (bt i && bt j) = true then some (a_ (bL i (j - i).toNat)) else none
 | _ => none
theorem bH {tg a:Expr} {p:Pos} {fs:M (List D)} (hg:Gl X "range") (hm:X.mg "range" = none) (ha:DA X [a] fs) (hs:starEach [a] X.env = [(false,eval a X.env)]:=by rfl):DI X tg (.Call (.Name "range" p) [a] [] pos) (mC cZ fs) :=
 tp (wH hg hm ha hs) fun σ H R ⟨c,δ,S,T,it,δ',s,e,k⟩ => by
  obtain ⟨ds,δ1,e1,e⟩:=bind_some e
  obtain ⟨e2,rfl⟩:=aE e
  refine ⟨c,δ,S,T,ds,δ1,s,e1,fun vs H' l s' => ?_⟩
  unfold cZ at e2
  split at e2
  ·split at e2
   ·rename_i j hj
    cases e2
    obtain ⟨v,rfl,r⟩:=wC (s'.st.left l)
    cases r.int
    simp only [bt,Bool.and_eq_true,decide_eq_true_eq] at hj
    exact ⟨j,rfl,hj.1,hj.2,k _ [] [] H' rfl uC (s'.stk (s'.st.right l))⟩
   ·cases e2
  ·cases e2
theorem vO {tg a b:Expr} {p:Pos} {fs:M (List D)} (hg:Gl X "range") (hm:X.mg "range" = none) (ha:DA X [a,b] fs) (hs:starEach [a,b] X.env = [(false,eval a X.env),(false,eval b X.env)]:=by rfl) (hs2:starEach [b] X.env = [(false,eval b X.env)]:=by rfl) :
  DI X tg (.Call (.Name "range" p) [a,b] [] pos) (mC xN fs) :=
 tp (vU hg hm ha hs hs2) fun σ H R ⟨c,δ,S,T,it,δ',s,e,k⟩ => by
  obtain ⟨ds,δ1,e1,e⟩:=bind_some e
  obtain ⟨e2,rfl⟩:=aE e
  refine ⟨c,δ,S,T,ds,δ1,s,e1,fun vs H' l s' => ?_⟩
  unfold xN at e2
  split at e2
  ·split at e2
   ·rename_i i j hj
    cases e2
    obtain ⟨v,u,rfl,r1,r2⟩:=HN (s'.st.left l)
    cases r1.int
    cases r2.int
    simp only [bt,Bool.and_eq_true,decide_eq_true_eq] at hj
    exact ⟨i,j,rfl,⟨hj.1.1,hj.1.2,hj.2.1,hj.2.2⟩,k _ [] [] H' rfl uC (s'.stk (s'.st.right l))⟩
   ·cases e2
  ·cases e2
def c_ (i n:Nat):lg:=((List.range n).map fun (j:Nat) (δ:DS) => match δ[i]? with
 | some (.ow _ xs) => if xs.length = n then xs[j]? else none
 | _ => none,fun δ => match δ[i]? with
 | some (.ow _ xs) => decide (xs.length = n)
 | _ => false)
def aI (i:Nat):M (List D):=fun δ => match δ[i]? with
 | some (.ow _ xs) => some (xs,δ)
 | _ => none
theorem bZ {i:Nat} {xs:List D} {δ δ':DS} (h:aI i δ = some (xs,δ')):(∃ b,δ[i]? = some (.ow b xs)) ∧ δ = δ':= by
 unfold aI at h
 split at h
 ·rename_i b ys e; cases h; exact ⟨⟨b,e⟩,rfl⟩
 ·cases h
end
end Jt
namespace Jt
open PySem L2
section
variable {X:Cx} {a b e tg iter elt:Expr} {fa fb te:M D} {fF:M (List D)} {pos:Pos} {st:Stmt} {rest:List Stmt} {f g body:M Fl} {tt:M Bool} {fi:M lg} {gt:D -> M Unit}
theorem Sl.drop {c:Ct} {δ:DS} {A S:List D} {σ:St} {P T:List V} {H:Hp} (s:Sl c δ (A ++ S) σ (P ++ T) H) (l:P.length = A.length):Sl c δ S σ T H:=s.stk (s.st.right l)
theorem Sl.rot {c:Ct} {δ:DS} {A B S:List D} {σ:St} {P Q T:List V} {H:Hp} (s:Sl c δ (A ++ (B ++ S)) σ (P ++ (Q ++ T)) H) (l:P.length = A.length) (l2:Q.length = B.length):Sl c δ (B ++ (A ++ S)) σ (Q ++ (P ++ T)) H :=
 s.stk (((s.st.right l).left l2).append ((s.st.left l).append ((s.st.right l).right l2)))
def forM (gt:D -> M Unit) (body:M Fl) (fin:DS -> Bool):List (DS -> Option D) -> M Fl
 | [] => fun δ => if fin δ = true then some (.nx,δ) else none
 | a :: r => fun δ => match a δ with
  | none => none
  | some d => (do
   gt d
   let fl <- body
   match fl with
   | .nx => forM gt body fin r
   | .ct => forM gt body fin r
   | .bk => pure .nx
   | .rt d => pure (.rt d)
   | .rf d => pure (.rf d)) δ
theorem dN {sts:List Stmt} (hi:DI X tg iter fi) (hg:DG X 0 tg gt) (hb:sx X sts body) (hp:PassesOwn (model X.prog X.w) X.A X.env X.xe:=by exact PassesOwn.never) (hc:X.calm = true:=by rfl)
  (hs:∀ x,foldedSetIterable iter X.env x = pure x:=by intro _; rfl):ql X (.For tg iter sts [] pos) (do let it <- fi; forM gt body it.2 it.1):=kH (D7 hp hc hi hg hb hs) fun E σ0 H0 ⟨c,δ0,S,T,fl,δ',s0,e,k⟩ => by
 obtain ⟨it,δ1,e1,e⟩:=bind_some e
 refine ⟨c,δ0,S,T,it,δ1,s0,e1,fun J Sx Tx H1 l hJ s1 => ?_⟩
 obtain ⟨items,fin⟩:=it
 refine ⟨fun i m σ H => ∃ δi,m = items.length - i ∧ i ≤ items.length ∧ Sl c δi (Sx ++ S) σ (Tx ++ T) H ∧ forM gt body fin (items.drop i) δi = some (fl,δ'),⟨_,δ1,rfl,Nat.zero_le _,s1,e⟩,?_⟩
 rintro i m σ H ⟨δi,rfl,hi,s,em⟩
 by_cases hlt:i < items.length
 ·rw [List.drop_eq_getElem_cons hlt] at em
  unfold forM at em
  cases ea:items[i] δi with
  | none => rw [ea] at em; cases em
  | some d =>
   rw [ea] at em
   dsimp only at em
   obtain ⟨u,δ2,e2,em⟩:=bind_some em
   obtain ⟨fl1,δ3,e3,em⟩:=bind_some em
   obtain ⟨go,yld⟩:=(hJ c δi S σ T H i s).1 items[i] d (List.getElem?_eq_getElem hlt) ea
   refine .inr ⟨go,fun σ' H' => ∃ δi,Sl c δi (Sx ++ S) σ' (Tx ++ T) H' ∧ forM gt body fin (items.drop (i + 1)) δi = some (fl,δ'),fun σ' H' ⟨δj,sj,ej⟩ => ⟨items.length - (i + 1),by omega,δj,rfl,hlt,sj,ej⟩,fun x H' y => ?_⟩
   refine ⟨c,δi,Sx ++ S,Tx ++ T,d,δ2,yld x H' y,e2,fun σ2 H2 _ s2 => ⟨c,δ2,Sx ++ S,Tx ++ T,fl1,δ3,s2,e3,?_⟩⟩
   cases fl1 with
   | nx => exact fun σ' H' s' => ⟨δ3,s',em⟩
   | ct => exact fun σ' H' s' => ⟨δ3,s',em⟩
   | bk =>
    obtain ⟨rfl,rfl⟩:=ar em
    exact fun σ' H' s' => k _ _ (s'.drop l)
   | rt d' =>
    obtain ⟨rfl,rfl⟩:=ar em
    exact fun v σ' H' s' => k v σ' H' (s'.stk (.cons s'.st.head (s'.st.tail.right l)))
   | rf xs =>
    obtain ⟨rfl,rfl⟩:=ar em
    exact fun q vs σ' H' h1 h2 h3 h4 h5 => k q vs σ' H' h1 (h2.stk ((h2.st.left h1).append ((h2.st.right h1).right l))) h3 h4 h5
 ·have ei:i = items.length:=by omega
  subst ei
  rw [List.drop_length] at em
  unfold forM at em
  by_cases hf:fin δi = true
  ·rw [if_pos hf] at em
   cases em
   exact .inl ⟨(hJ c _ S σ T H _ s).2 rfl hf,k _ _ (s.drop l)⟩
  ·rw [if_neg hf] at em; cases em
def Kb (J:It) (its:lg) (Sx:List D) (Tx:List V) (σ:St):Prop:=∀ (c:Ct) (δ:DS) (S:List D) (T:List V) (H:Hp) (i:Nat),Sl c δ (Sx ++ S) σ (Tx ++ T) H ->
 (∀ act d,its.1[i]? = some act -> act δ = some d -> J.go i H ∧ ∀ x H',J.yld i H x H' -> Sl c δ (d :: (Sx ++ S)) σ (x :: (Tx ++ T)) H') ∧ (i = its.1.length -> its.2 δ = true -> J.stop i H)
inductive I_ (f:M lg) (σ:St) (H:Hp) (R:It -> Hp -> Prop):Prop
 | mk (c:Ct) (δ:DS) (S:List D) (T:List V) (it:lg) (δ':DS) (s:Sl c δ S σ T H) (e:f δ = some (it,δ')) (q:∀ J Sx Tx H',Tx.length = Sx.length -> Kb J it Sx Tx σ -> Sl c δ' (Sx ++ S) σ (Tx ++ T) H' -> R J H'):I_ f σ H R
abbrev DC (X:Cx) (tg iter:Expr) (f:M lg):Prop:=PI X tg iter (I_ f)
theorem bT (h:DI X tg iter fi):DC X tg iter fi:=tp h fun σ H R ⟨c,δ,S,T,it,δ',s,e,k⟩ => ⟨c,δ,S,T,it,δ',s,e,fun J Sx Tx H' l hJ s' => k J Sx Tx H' l (fun c δ S T H i => hJ c δ S σ T H i) s'⟩
theorem Fq (i:Nat) {x:Str} {pos:Pos} (hN:X.N[i]? = some x:=by rfl) (hv:vd X.env.scope x:=by first | exact Or.inl rfl | exact Or.inr (Or.inl rfl) | exact Or.inr (Or.inr rfl)) (hd:(x == ("__debug__":Str)) = false:=by decide)
  (hcd:(x == ("__classdict__":Str)) = false:=by decide):DC X tg (.Name x pos) (do let xs <- aI i; pure (c_ i xs.length)):=tp (Bk (eU hN hv hd hcd)) fun σ H R ⟨c,δ,S,T,it,δ',s,e,k⟩ => by
 obtain ⟨xs,δ1,e1,e⟩:=bind_some e
 obtain ⟨rfl,rfl⟩:=ar e
 obtain ⟨⟨b,hi⟩,rfl⟩:=bZ e1
 obtain ⟨a,vs,ea,hH,hv,_⟩:=s.ow i b xs hi
 refine ⟨_,ea,a,rfl,⟨vs,.of hH⟩,k _ [] [] H rfl ?_ s⟩
 intro c δ S T H j s
 refine ⟨fun act d ha hd => ?_,fun ej hf => ?_⟩
 ·unfold c_ at ha
  rw [List.getElem?_map] at ha
  have hj:j < xs.length:= by
   by_cases hj:j < xs.length
   ·exact hj
   ·rw [List.getElem?_eq_none (by simp; omega)] at ha; cases ha
  rw [List.getElem?_range hj] at ha
  cases ha
  dsimp only at hd
  split at hd
  ·rename_i b' ys hy
   split at hd
   ·obtain ⟨a',ws,ea',hH',hv',_⟩:=s.ow i b' ys hy
    rw [ea] at ea'; cases ea'
    obtain ⟨v,hv2,r⟩:=hv'.get hd
    refine ⟨⟨ws,v,.of hH',hv2⟩,fun x H' y => ?_⟩
    obtain ⟨rfl,y⟩:=y
    have:=y ws (.of hH')
    rw [hv2] at this; cases this
    exact s.stk (.cons r s.st)
   ·cases hd
  ·cases hd
 ·unfold c_ at hf ej
  dsimp only at hf
  split at hf
  ·rename_i b' ys hy
   obtain ⟨a',ws,ea',hH',hv',_⟩:=s.ow i b' ys hy
   rw [ea] at ea'; cases ea'
   have hl:ys.length = xs.length:=of_decide_eq_true hf
   refine ⟨ws,.of hH',?_⟩
   rw [hv'.length,ej]
   simp
   omega
  ·cases hf
def aZ (gt:D -> M Unit) (tt:M Bool) (te:M D) (d:D):M (Option D):=do
 gt d
 let b <- tt
 if b = true then do
  let x <- te
  pure (some x)
 else pure none
def d3 (own:Nat) (turn:D -> M (Option D)) (fin:DS -> Bool):List (DS -> Option D) -> M (List D)
 | [] => fun δ => if fin δ = true then some ([],δ) else none
 | a :: r => fun δ => match a δ with
  | none => none
  | some d => match turn d (δ ++ List.replicate own .un) with
   | none => none
   | some (o,δ2) => match d3 own turn fin r (δ2.take δ.length) with
    | none => none
    | some (xs,δ3) => some (o.toList ++ xs,δ3)
def i9 (n:Nat):M Unit:=fun δ => if δ.length = n then some ((),δ) else none
def aU (lo own:Nat) (fi:M lg) (turn:D -> M (Option D)):M (List D):=do
 i9 lo
 let it <- fi
 let _ <- lift (few it.1.length)
 d3 own turn it.2 it.1
theorem nq {lo own:Nat}:∀ σ H Q,Gs (aU lo own fi (aZ gt tt te)) σ H Q -> vf (I_ fi) own (JD lo gt) (Ay tt) (tM te) σ H Q:=fun σ H Q ⟨c,δ0,S,T,xs,δ',s0,e,k⟩ => by
 obtain ⟨u,δ1,e0,e⟩:=bind_some e
 have hlo:σ.length = lo ∧ δ0 = δ1:= by
  unfold i9 at e0
  split at e0
  ·cases e0; exact ⟨by rw [<- s0.len]; assumption,rfl⟩
  ·cases e0
 obtain ⟨hlo,rfl⟩:=hlo
 obtain ⟨it,δ2,e1,e⟩:=bind_some e
 obtain ⟨u',δ3,e2,e⟩:=bind_some e
 obtain ⟨e3,rfl⟩:=aE e2
 have hfew:=(jC e3).2
 refine ⟨c,δ0,S,T,it,δ2,s0,e1,fun J Sx Tx H1 l hJ s1 q hq => ?_⟩
 obtain ⟨items,fin⟩:=it
 dsimp only at e hfew
 obtain ⟨f1,f2,f3⟩:=s1.fresh hq
 refine ⟨fun i m acc H => ∃ δi accD xsR,m = items.length - i ∧ i ≤ items.length ∧ acc.length = accD.length ∧ acc.length ≤ i ∧ Sl { c with Z:=upd c.Z q (.lst acc) } δi (accD ++ (Sx ++ S)) σ (acc ++ (Tx ++ T)) H ∧
  d3 own (aZ gt tt te) fin (items.drop i) δi = some (xsR,δ') ∧ accD ++ xsR = xs,⟨_,δ2,[],xs,rfl,Nat.zero_le _,rfl,Nat.le_refl _,s1.hide hq,e,rfl⟩,?_⟩
 rintro i m acc H ⟨δi,accD,xsR,rfl,hi,la,li,s,em,ex⟩
 have hacc:H q = some (.lst acc):=s.zz q _ aV
 refine ⟨hacc,?_⟩
 have sr:=s.rot la l
 by_cases hlt:i < items.length
 ·rw [List.drop_eq_getElem_cons hlt] at em
  unfold d3 at em
  cases ea:items[i] δi with
  | none => rw [ea] at em; cases em
  | some d =>
   rw [ea] at em
   dsimp only at em
   cases et:aZ gt tt te d (δi ++ List.replicate own .un) with
   | none => rw [et] at em; cases em
   | some p =>
    obtain ⟨o,δt⟩:=p
    rw [et] at em
    dsimp only at em
    cases ec:d3 own (aZ gt tt te) fin (items.drop (i + 1)) (δt.take δi.length) with
    | none => rw [ec] at em; cases em
    | some p =>
     obtain ⟨xs3,δ3⟩:=p
     rw [ec] at em
     cases em
     obtain ⟨u1,δa,ea1,et⟩:=bind_some et
     obtain ⟨b,δb,eb1,et⟩:=bind_some et
     obtain ⟨go,yld⟩:=(hJ { c with Z:=upd c.Z q (.lst acc) } δi (accD ++ S) (acc ++ T) H i sr).1 items[i] d (List.getElem?_eq_getElem hlt) ea
     refine .inr ⟨go,fun x H' y => ?_⟩
     refine ⟨{ c with Z:=upd c.Z q (.lst acc) },δi ++ List.replicate own .un,Sx ++ (accD ++ S),Tx ++ (acc ++ T),d,δa,(yld x H' y).ext own,ea1,fun σ2 H2 hn s2 => ?_⟩
     have ht:σ2.take σ.length = σ:= by
      rw [hn _ (Nat.le_of_eq hlo)]
      exact List.take_left' rfl
     refine ⟨ht,{ c with Z:=upd c.Z q (.lst acc) },δa,Sx ++ (accD ++ S),Tx ++ (acc ++ T),b,δb,s2,eb1,fun H3 s3 => ?_⟩
     have cutL:δi.length = σ.length:=s.len
     cases b with
     | true =>
      rw [if_pos rfl] at et
      refine Gy ?_
      obtain ⟨y1,δy,ey,et⟩:=bind_some et
      obtain ⟨rfl,rfl⟩:=ar et
      refine ⟨{ c with Z:=upd c.Z q (.lst acc) },δb,Sx ++ (accD ++ S),Tx ++ (acc ++ T),y1,δy,s3,ey,fun v H4 s4 => ?_⟩
      refine ⟨s4.zz q _ aV,by omega,items.length - (i + 1),by omega,δy.take δi.length,accD ++ [y1],xs3,rfl,hlt,by simp [la],by simp; omega,?_,ec,by rw [<- ex]; simp⟩
      have s5:=s4.cut σ.length
      rw [ht,<- cutL] at s5
      have s6:=Sl.hideSet (.lst (acc ++ [v])) s5 f2 f3
      refine s6.stk ?_
      have h1:=s6.st.head
      have h2:=s6.st.tail.left l
      have h3:=s6.st.tail.right l
      have h4:=h3.left la
      have h5:=h3.right la
      exact (h4.append (.cons h1 .nil)).append (h2.append h5)
     | false =>
      rw [if_neg Bool.false_ne_true] at et
      refine Ij ?_
      obtain ⟨rfl,rfl⟩:=ar et
      refine ⟨items.length - (i + 1),by omega,δb.take δi.length,accD,xs3,rfl,hlt,la,by omega,?_,ec,ex⟩
      have s5:=s3.cut σ.length
      rw [ht,<- cutL] at s5
      exact s5.rot l la
 ·have ei:i = items.length:=by omega
  subst ei
  rw [List.drop_length] at em
  unfold d3 at em
  by_cases hf:fin δi = true
  ·rw [if_pos hf] at em
   cases em
   rw [List.append_nil] at ex
   subst ex
   refine .inl ⟨(hJ { c with Z:=upd c.Z q (.lst acc) } _ (accD ++ S) (acc ++ T) H _ sr).2 rfl hf,k q acc H la ?_ f1 f2 f3⟩
   exact s.stk ((s.st.left la).append ((s.st.right la).right l))
  ·rw [if_neg hf] at em; cases em
theorem c9:AB X [] (Ay (pure true)):=fun pins s σ H Q I ⟨c,δ,S,T,b,δ',sl,e,k⟩ => by
 obtain ⟨rfl,rfl⟩:=ar e
 exact Bg pins s σ H Q I (k H sl)
theorem bF {t:Expr} (h:DT X t tt):AB X [t] (Ay tt):=BC h
variable {N' own:List Str} {scope:Scope} {ifs:List Expr} {lo:Nat}
theorem bw (hi:DC X tg iter fi) (hg:∀ s H fp pins,DG (blk X N' own scope s H fp pins) lo tg gt) (ht:∀ s H fp pins,AB (blk X N' own scope s H fp pins) ifs (Ay tt)) (he:∀ s H fp pins,DE (blk X N' own scope s H fp pins) elt te)
  (hS:iu N' own X.env.scope scope = true:=by rfl) (hM:ic X.N N' scope = true:=by rfl) (hk:scope.kind = .function:=by rfl) (hc:X.calm = true:=by rfl) (hs:∀ x,foldedSetIterable iter X.env x = pure x:=by intro _; rfl) :
  DF X (.ListComp elt [⟨tg,iter,ifs,0⟩] scope pos) (aU lo own.length fi (aZ gt tt te)):=cT (Bj hi hg ht he hS hM hk hc hs) nq
theorem B8 (i:Nat) {x:Str} {pos'' pos1:Pos} (hN:X.N.Nodup) (hi:DC X tg iter fi) (hg:∀ s H fp pins,DG (blk X N' own scope s H fp pins) lo tg gt) (ht:∀ s H fp pins,AB (blk X N' own scope s H fp pins) ifs (Ay tt)) (he:∀ s H fp pins,DE (blk X N' own scope s H fp pins) elt te)
  (hx0:X.N[i]? = some x:=by rfl) (hx:X.env.scope.names.lookup x = some .local:=by rfl)
  (hsw:swapsWith (.ListComp elt [⟨tg,iter,ifs,0⟩] scope pos) (some (.Name x pos'')) pos1.line X.env = pure true:=by rfl)
  (hS:iu N' own X.env.scope scope = true:=by rfl) (hM:ic X.N N' scope = true:=by rfl) (hk:scope.kind = .function:=by rfl) (hc:X.calm = true:=by rfl) (hs:∀ x,foldedSetIterable iter X.env x = pure x:=by intro _; rfl) :
  ql X (.Assign [.Name x pos''] (.ListComp elt [⟨tg,iter,ifs,0⟩] scope pos) pos1) (t_ i (aU lo own.length fi (aZ gt tt te))) :=
 kH (vh hN hx0 hx hi hg ht he hsw hS hM hk hc hs) (GX nq)
theorem J7 {te:TE} {f:M (List D)} (w:∀ σ H Q,Gs f σ H Q -> te σ H Q):∀ σ H Q,tM (do let xs <- f; pure (.lst xs)) σ H Q -> te σ H Q:=fun σ H Q ⟨c,δ,S,T,d,δ',s,e,k⟩ => by
 obtain ⟨xs,δ1,e1,e2⟩:=bind_some e
 obtain ⟨rfl,rfl⟩:=ar e2
 exact w _ _ _ ⟨c,δ,S,T,xs,δ1,s,e1,fun l vs H' hl s' hz _ _ => k _ _ (s'.unhideL hl hz)⟩
theorem dC (i:Nat) {x:Str} {pos'' pos1:Pos} (hN:X.N.Nodup) (hi:DC X tg iter fi) (hg:∀ s H fp pins,DG (blk X N' own scope s H fp pins) lo tg gt) (ht:∀ s H fp pins,AB (blk X N' own scope s H fp pins) ifs (Ay tt)) (he:∀ s H fp pins,DE (blk X N' own scope s H fp pins) elt te)
  (hx0:X.N[i]? = some x:=by rfl) (hx:X.env.scope.names.lookup x = some .local:=by rfl)
  (hsw:swapsWith (.ListComp elt [⟨tg,iter,ifs,0⟩] scope pos) (some (.Name x pos'')) pos1.line X.env = pure true:=by rfl)
  (hS:iu N' own X.env.scope scope = true:=by rfl) (hM:ic X.N N' scope = true:=by rfl) (hk:scope.kind = .function:=by rfl) (hc:X.calm = true:=by rfl) (hs:∀ x,foldedSetIterable iter X.env x = pure x:=by intro _; rfl) :
  ql X (.Assign [.Name x pos''] (.ListComp elt [⟨tg,iter,ifs,0⟩] scope pos) pos1) (dY i (do let xs <- aU lo own.length fi (aZ gt tt te); pure (.lst xs))) :=
 kH (vh hN hx0 hx hi hg ht he hsw hS hM hk hc hs) (Hg (J7 nq))
end
end Jt
namespace Jt
open PySem L2
def hz (Z H:Hp):Hp:=F9 (fun a => ∃ o,Z a = some o) H
def jw (n:Nat) (mf:List D -> Option D):Sp:=fun vs H Q _ => vs.length = n ∧ ∃ (Z:Hp) (ds:List D) (d:D),(∀ a o,Z a = some o -> H a = some o) ∧ Rs (hz Z H) ds vs ∧ mf ds = some d ∧ ∀ v H',yX H H' -> R (hz Z H') d v -> Q v H'
def AU (n:Nat) (mf:List D -> Option (List D)):Sp:=fun vs H Q _ => vs.length = n ∧ ∃ (Z:Hp) (ds:List D) (xs:List D),(∀ a o,Z a = some o -> H a = some o) ∧ Rs (hz Z H) ds vs ∧ mf ds = some xs ∧
 ∀ l ws H',yX H H' -> H l = none -> H' l = some (.lst ws) -> Rs (hz (upd Z l (.lst ws)) H') xs ws -> Q (.ref l) H'
def vP (n:Nat) (mf:List D -> List D -> Option (D × List D)):Sp:=fun vs H Q _ => vs.length = n ∧ ∃ (Z:Hp) (a:Addr) (ws:List V) (xs:List D) (us:List V) (ds:List D) (d:D) (xs':List D),vs = .ref a :: us ∧ (∀ b o,Z b = some o -> H b = some o) ∧ Z a = none ∧ H a = some (.lst ws) ∧
 Rs (hz (upd Z a (.lst ws)) H) xs ws ∧ Rs (hz (upd Z a (.lst ws)) H) ds us ∧ mf xs ds = some (d,xs') ∧
 ∀ v ws' H',(∀ b o,b ≠ a -> H b = some o -> H' b = some o) -> H' a = some (.lst ws') -> Rs (hz (upd Z a (.lst ws')) H') xs' ws' -> R (hz (upd Z a (.lst ws')) H') d v -> Q v H'
section
variable {c:Ct} {δ:DS} {S:List D} {σ:St} {T:List V} {H:Hp}
open Classical in
def Cb (c:Ct) (δ:DS) (σ:St) (H:Hp):Hp:=fun a => if Hd c δ σ a then H a else none
theorem iW (s:Sl c δ S σ T H) (a:Addr):(∃ o,Cb c δ σ H a = some o) ↔ Hd c δ σ a:= by
 unfold Cb
 by_cases h:Hd c δ σ a
 ·rw [if_pos h]; exact Iff.intro (fun _ => h) fun _ => s.hdSome h
 ·rw [if_neg h]; exact Iff.intro (fun ⟨o,z⟩ => nomatch z) fun z => absurd z h
theorem tm (a:Addr) (o:HO) (h:Cb c δ σ H a = some o):H a = some o:= by
 unfold Cb at h
 split at h
 ·exact h
 ·cases h
end
section
variable {X:Cx} {a b e:Expr} {fa fb:M D} {fs:M (List D)} {pos p:Pos} {es:List Expr} {x:Str} {k:Nat} {f:Addr} {fd:FuncData} {ps:List Str}
theorem AR {mf:List D -> Option D} {n:Nat} (F:d7 X.prog X.w X.K X.mg X.base du k f fd ps (jw n mf)) (hr:c5 k X.A) (hm:X.mg x = some (.ref f)) (hk:PySem.W.keepIn X.K (.ref f) = true) (hb:Binds X.K fd ps []) (ha:DA X (a :: es) fs)
  (hg:Gl X x:=by rfl) (hdb:(x == ("__debug__":Str)) = false:=by decide) (he:starEach (a :: es) X.env = (false,eval a X.env) :: starEach es X.env:=by rfl) (hpl:(backTo pos (starEach es X.env)).any (·.1) = false:=by rfl) :
  DE X (.Call (.Name x p) (a :: es) [] pos) (mC (fun ds => if ds.length = n then mf ds else none) fs):=cT (pF F hr hg hm hk hb .nil x9 ha hdb he hpl) fun σ H Q ⟨c,δ,S,T,d,δ',s,e,k⟩ => by
 obtain ⟨ds,δ1,e1,e⟩:=bind_some e
 obtain ⟨e2,rfl⟩:=aE e
 refine ⟨c,δ,S,T,ds,δ1,s,e1,fun vs H1 l s1 => ?_⟩
 dsimp only at e2 ⊢
 split at e2
 ·rename_i hn
  rw [List.append_nil]
  refine ⟨l.trans hn,Cb c δ1 σ H1,ds,d,tm,(s1.st.left l).mono (bx (fun a o _ z => (iW s1 a).mp z) fun _ _ _ h => h),e2,fun v H' g r => k v H' ?_⟩
  have s2:=s1.grow g
  exact s2.stk (.cons (r.mono (bx (fun a o _ z => (iW s1 a).mpr z) fun _ _ _ h => h)) (s2.st.right l))
 ·cases e2
theorem Cc {mf:List D -> Option (List D)} {n:Nat} (F:d7 X.prog X.w X.K X.mg X.base du k f fd ps (AU n mf)) (hr:c5 k X.A) (hm:X.mg x = some (.ref f)) (hk:PySem.W.keepIn X.K (.ref f) = true) (hb:Binds X.K fd ps []) (ha:DA X (a :: es) fs)
  (hg:Gl X x:=by rfl) (hdb:(x == ("__debug__":Str)) = false:=by decide) (he:starEach (a :: es) X.env = (false,eval a X.env) :: starEach es X.env:=by rfl) (hpl:(backTo pos (starEach es X.env)).any (·.1) = false:=by rfl) :
  DF X (.Call (.Name x p) (a :: es) [] pos) (mC (fun ds => if ds.length = n then mf ds else none) fs):=cT (pF F hr hg hm hk hb .nil x9 ha hdb he hpl) fun σ H Q ⟨c,δ,S,T,d,δ',s,e,k⟩ => by
 obtain ⟨ds,δ1,e1,e⟩:=bind_some e
 obtain ⟨e2,rfl⟩:=aE e
 refine ⟨c,δ,S,T,ds,δ1,s,e1,fun vs H1 l s1 => ?_⟩
 dsimp only at e2 ⊢
 split at e2
 ·rename_i hn
  rw [List.append_nil]
  refine ⟨l.trans hn,Cb c δ1 σ H1,ds,d,tm,(s1.st.left l).mono (bx (fun a o _ z => (iW s1 a).mp z) fun _ _ _ h => h),e2,fun q ws H' g hq hq' r => ?_⟩
  obtain ⟨f1,f2,f3⟩:=s1.fresh hq
  have s2:Sl { c with Z:=upd c.Z q (.lst ws) } δ1 S σ T H':= by
   have h0:=(s1.drop l).hide (o:=.lst ws) hq
   refine h0.grow fun b o hb => ?_
   by_cases eb:b = q
   ·subst eb; rw [aV] at hb; cases hb; exact hq'
   ·rw [aA eb] at hb; exact g b o hb
  refine k q ws H' r.length (s2.stk ((r.mono (bx (fun a o ha z => ?_) fun _ _ _ h => h)).append s2.st)) f1 f2 f3
  rcases z with ⟨w,z⟩ | z
  ·have z':upd c.Z q (.lst ws) a = some w:=z
   by_cases ea:a = q
   ·subst ea; exact ⟨_,aV⟩
   ·rw [aA ea] at z'
    obtain ⟨o',h'⟩:=(iW s1 a).mpr (.inl ⟨w,z'⟩)
    exact ⟨o',by rw [aA ea]; exact h'⟩
  ·have ea:a ≠ q:=fun ea => s1.hdNew hq (.inr (by rw [<- ea]; exact z))
   obtain ⟨o',h'⟩:=(iW s1 a).mpr (.inr z)
   exact ⟨o',by rw [aA ea]; exact h'⟩
 ·cases e2
def cf (i n:Nat) (mf:List D -> List D -> Option (D × List D)) (fs:M (List D)):M D:=fun δ => match fs δ with
 | none => none
 | some (ds,δ1) => match δ1[i]? with
  | some (.ow b xs) => if ds.length + 1 = n then (match mf xs ds with
   | none => none
   | some (d,xs') => some (d,δ1.set i (.ow b xs'))) else none
  | _ => none
theorem vH (i:Nat) {mf:List D -> List D -> Option (D × List D)} {n:Nat} {y:Str} {py:Pos} (F:d7 X.prog X.w X.K X.mg X.base du k f fd ps (vP n mf)) (hr:c5 k X.A) (hm:X.mg x = some (.ref f)) (hk:PySem.W.keepIn X.K (.ref f) = true) (hb:Binds X.K fd ps []) (ha:DA X es fs)
  (hN:X.N[i]? = some y:=by rfl) (hv:vd X.env.scope y:=by first | exact Or.inl rfl | exact Or.inr (Or.inl rfl) | exact Or.inr (Or.inr rfl)) (hd:(y == ("__debug__":Str)) = false:=by decide) (hcd:(y == ("__classdict__":Str)) = false:=by decide)
  (hg:Gl X x:=by rfl) (hdb:(x == ("__debug__":Str)) = false:=by decide) (he:starEach (.Name y py :: es) X.env = (false,eval (.Name y py) X.env) :: starEach es X.env:=by rfl) (hpl:(backTo pos (starEach es X.env)).any (·.1) = false:=by rfl) :
  DE X (.Call (.Name x p) (.Name y py :: es) [] pos) (do let _ <- aI i; cf i n mf fs):=cT (pF F hr hg hm hk hb .nil x9 (er (eU hN hv hd hcd) ha he) hdb he hpl) fun σ H Q ⟨c,δ,S,T,d,δ',s,e,k⟩ => by
 obtain ⟨xs0,δ0,e0,e⟩:=bind_some e
 obtain ⟨⟨b0,hi0⟩,rfl⟩:=bZ e0
 obtain ⟨a,vs0,ea,_⟩:=s.ow i b0 xs0 hi0
 unfold cf at e
 cases e1:fs δ with
 | none => rw [e1] at e; cases e
 | some q =>
  obtain ⟨ds,δ1⟩:=q
  rw [e1] at e
  dsimp only at e
  split at e
  ·rename_i b xs hi
   split at e
   ·rename_i hn
    cases e2:mf xs ds with
    | none => rw [e2] at e; cases e
    | some q =>
     obtain ⟨d',xs'⟩:=q
     rw [e2] at e
     cases e
     refine ⟨_,ea,c,δ,S,T,ds,δ1,s,e1,fun vs H1 l s1 => ?_⟩
     dsimp only
     rw [List.append_nil]
     obtain ⟨a',ws,ea',hH,hxs,hB,hB',hZ⟩:=s1.ow i b xs hi
     rw [ea] at ea'; cases ea'
     have hda:Hd c δ1 σ a:=.inr ⟨i,b,xs,hi,ea⟩
     have zi:∀ (o:HO) (y:Addr),(∃ u,upd (fun z => if z = a then none else Cb c δ1 σ H1 z) a o y = some u) ↔ Hd c δ1 σ y:=fun o y => by
      by_cases ey:y = a
      ·subst ey; rw [aV]; exact Iff.intro (fun _ => hda) fun _ => ⟨o,rfl⟩
      ·rw [aA ey,if_neg ey]; exact iW s1 y
     refine ⟨by simp [l]; omega,fun z => if z = a then none else Cb c δ1 σ H1 z,a,ws,xs,vs,ds,d,xs',rfl,fun b o h => ?_,if_pos rfl,hH,hxs.mono (bx (fun y o _ z => (zi _ y).mp z) fun _ _ _ h => h),
      (s1.st.left l).mono (bx (fun y o _ z => (zi _ y).mp z) fun _ _ _ h => h),e2,fun v ws' H' g ga r1 r2 => k v H' ?_⟩
     ·dsimp only at h; split at h
      ·cases h
      ·exact tm _ _ h
     ·have gr:yX H1 (upd H' a (.lst ws)):=fun y o hy => by
       by_cases ey:y = a
       ·subst ey; rw [hH] at hy; cases hy; exact aV
       ·rw [aA ey]; exact g y o ey hy
      have s2:=(s1.drop l).grow gr
      have m2:∀ y o,hz (upd (fun z => if z = a then none else Cb c δ1 σ H1 z) a (.lst ws')) H' y = some o -> fS c δ1 σ (upd H' a (.lst ws)) y = some o :=
       bx (fun y o _ z => (zi _ y).mpr z) fun y o hy h => by
        have:y ≠ a:=fun ey => hy (by rw [ey]; exact ⟨_,aV⟩)
        rw [aA this]; exact h
      have s3:=(s2.stk (.cons (r2.mono m2) s2.st)).mut hi ea (r1.mono m2)
      have eH:upd (upd H' a (.lst ws)) a (.lst ws') = H':= by
       rw [Br]
       funext y
       by_cases ey:y = a
       ·subst ey; rw [aV,ga]
       ·rw [aA ey]
      rw [eH] at s3
      exact s3
   ·cases e
  ·cases e
end
def entry (N:List Str) (ds:List D):DS:=ds.map .pu ++ List.replicate (N.length - ds.length) .un
def bf (N:List Str) (body:M Fl) (ds:List D):Option D:=match body (entry N ds) with
 | some (.rt d,_) => some d
 | some (.nx,_) => some .non
 | _ => none
def eL (N:List Str) (body:M Fl) (ds:List D):Option (List D):=match body (entry N ds) with
 | some (.rf xs,_) => some xs
 | _ => none
def eZ (N:List Str) (xs ds:List D):DS:=.ow true xs :: (ds.map .pu ++ List.replicate (N.length - (ds.length + 1)) .un)
def bz (N:List Str) (body:M Fl) (xs ds:List D):Option (D × List D):=match body (eZ N xs ds) with
 | some (.rt d,δ) => (match (show DS from δ)[0]? with
  | some (Slot.ow true xs') => some (d,xs')
  | _ => none)
 | _ => none
theorem eB {ds:List D} {n:Nat} {i:Nat} {x:Slot} (h:(ds.map Slot.pu ++ List.replicate n .un)[i]? = some x):(∃ d,x = .pu d ∧ ds[i]? = some d) ∨ x = .un:= by
 by_cases hi:i < ds.length
 ·rw [List.getElem?_append_left (by simpa using hi),List.getElem?_map] at h
  cases q:ds[i]? with
  | none => rw [q] at h; cases h
  | some d => rw [q] at h; cases h; exact .inl ⟨d,rfl,rfl⟩
 ·rw [List.getElem?_append_right (by simpa using hi),List.getElem?_replicate] at h
  split at h
  ·cases h; exact .inr rfl
  ·cases h
theorem qI {Z H:Hp} {N:List Str} {ds:List D} {vs:List V} (hZ:∀ a o,Z a = some o -> H a = some o) (r:Rs (hz Z H) ds vs) (hl:vs.length ≤ N.length):Sl ⟨Z,[],H⟩ (entry N ds) [] (L2.start N vs) [] H:= by
 have noow:∀ a,¬ uM (entry N ds) (L2.start N vs) a:=fun a ⟨i,b,xs,h1,_⟩ => by
  rcases eB h1 with ⟨d,e,_⟩ | e <;> cases e
 have m:∀ b o,hz Z H b = some o -> fS ⟨Z,[],H⟩ (entry N ds) (L2.start N vs) H b = some o:=bx (fun a o _ z => z.elim (fun z => z) fun z => absurd z (noow a)) fun _ _ _ h => h
 refine ⟨?_,fun i d h => ?_,fun i b xs h => ?_,fun i j b b' xs ys a h => ?_,.nil,fun b o _ h => h,fun b hb => (nomatch hb),hZ⟩
 ·have:=r.length
  simp only [entry,L2.start,List.length_append,List.length_map,List.length_replicate]
  omega
 ·rcases eB h with ⟨d',e,hd⟩ | e
  ·cases e
   obtain ⟨v,hv,rv⟩:=r.get hd
   refine ⟨v,?_,rv.mono m⟩
   have hi:i < vs.length:=(List.getElem?_eq_some_iff.mp hv).1
   unfold L2.start
   rw [List.getElem?_append_left (by simpa using hi),List.getElem?_map,hv]; rfl
  ·cases e
 ·rcases eB h with ⟨d',e,hd⟩ | e <;> cases e
 ·rcases eB h with ⟨d',e,hd⟩ | e <;> cases e
section
variable {P:Program} {w:World} {K:PySem.W.Frag} {mg:Str -> Option Value} {base:Heap} {x qual:Str} {st:Stmt} {f:Addr} {fd:FuncData} {N ps:List Str} {k:Nat} {body:M Fl}
theorem JU (F:BQ K x qual st f fd) (S:aH N ps (ao st)) (hb:∀ (cdv:Value) (A:Around) (outer:List Env) (s:Shared) (H:Hp) (E:XK),c5 k (A.deeper (PyProof.Rows.envOfC qual (ao st) s.heap.objs.size f cdv)) -> sx (jW du P w K mg base N qual (ao st) f cdv A outer s H E).nox (cF st) body) :
  d7 P w K mg base du (k + 1) f fd ps (jw ps.length (bf N body)):= by
 refine F.ok S (fun vs H Q E h => h.1) (fun cdv A outer s H vs Q E hr h => ⟨_,hb cdv A outer s H E hr,?_⟩)
 obtain ⟨hl,Z,ds,d,hZ,r,e,q⟩:=h
 have hpl:ps.length ≤ N.length:=by have:=congrArg List.length S.pre; rw [List.length_take] at this; omega
 have s0:=qI (N:=N) hZ r (by rw [hl]; exact hpl)
 have fin:∀ {δ':DS} {σ':St} {v:V} {H':Hp},Sl ⟨Z,[],H⟩ δ' [d] σ' [v] H' -> Q v H':=fun {δ' σ' v H'} s' =>
  q v H' (fun b o hb => s'.keep b o (by simp) hb) (s'.st.head.mono (bx (fun a o _ z => .inl z) fun _ _ _ h => h))
 unfold bf at e
 split at e
 ·rename_i d' δ' eb
  cases e
  exact ⟨_,_,_,_,_,_,s0,eb,fun v σ' H' s' => fin s'⟩
 ·rename_i δ' eb
  cases e
  exact ⟨_,_,_,_,_,_,s0,eb,fun σ' H' s' => fin (v:=.non) (s'.stk (.cons .mkN .nil))⟩
 ·cases e
theorem J6 (F:BQ K x qual st f fd) (S:aH N ps (ao st)) (hb:∀ (cdv:Value) (A:Around) (outer:List Env) (s:Shared) (H:Hp) (E:XK),c5 k (A.deeper (PyProof.Rows.envOfC qual (ao st) s.heap.objs.size f cdv)) -> sx (jW du P w K mg base N qual (ao st) f cdv A outer s H E).nox (cF st) body) :
  d7 P w K mg base du (k + 1) f fd ps (AU ps.length (eL N body)):= by
 refine F.ok S (fun vs H Q E h => h.1) (fun cdv A outer s H vs Q E hr h => ⟨_,hb cdv A outer s H E hr,?_⟩)
 obtain ⟨hl,Z,ds,d,hZ,r,e,q⟩:=h
 have hpl:ps.length ≤ N.length:=by have:=congrArg List.length S.pre; rw [List.length_take] at this; omega
 have s0:=qI (N:=N) hZ r (by rw [hl]; exact hpl)
 unfold eL at e
 split at e
 ·rename_i d' δ' eb
  cases e
  refine ⟨_,_,_,_,_,_,s0,eb,fun l vs' σ' H' h1 s' h3 h4 h5 => ?_⟩
  refine q l vs' H' (fun b o hb => s'.keep b o (by simp) hb) h5 (s'.zz l _ aV) ?_
  exact (s'.st.left h1).mono (bx (fun a o _ z => .inl z) fun _ _ _ h => h)
 ·cases e
theorem Ke (F:BQ K x qual st f fd) (S:aH N ps (ao st)) (hb:∀ (cdv:Value) (A:Around) (outer:List Env) (s:Shared) (H:Hp) (E:XK),c5 k (A.deeper (PyProof.Rows.envOfC qual (ao st) s.heap.objs.size f cdv)) -> sx (jW du P w K mg base N qual (ao st) f cdv A outer s H E).nox (cF st) body) :
  d7 P w K mg base du (k + 1) f fd ps (vP ps.length (bz N body)):= by
 refine F.ok S (fun vs H Q E h => h.1) (fun cdv A outer s H vs Q E hr h => ⟨_,hb cdv A outer s H E hr,?_⟩)
 obtain ⟨hl,Z,a,ws,xs,us,ds,d,xs',rfl,hZ,hZa,hH,hxs,hds,e,q⟩:=h
 have hpl:ps.length ≤ N.length:=by have:=congrArg List.length S.pre; rw [List.length_take] at this; omega
 have hlu:us.length + 1 ≤ N.length:=by rw [<- hl] at hpl; simpa using hpl
 have ld:=hds.length
 have ow0:∀ b,uM (eZ N xs ds) (L2.start N (.ref a :: us)) b -> b = a:=fun b ⟨i,bb,ys,h1,h2⟩ => by
  cases i with
  | zero => cases h2; rfl
  | succ i =>
   have h1':(ds.map Slot.pu ++ List.replicate (N.length - (ds.length + 1)) .un)[i]? = some (.ow bb ys):=by simpa [eZ] using h1
   rcases eB h1' with ⟨d,e,_⟩ | e <;> cases e
 have m:∀ b o,hz (upd Z a (.lst ws)) H b = some o -> fS ⟨Z,[a],H⟩ (eZ N xs ds) (L2.start N (.ref a :: us)) H b = some o:=bx (fun b o _ z => by
  rcases z with ⟨o',z⟩ | z
  ·have z':Z b = some o':=z
   by_cases eb:b = a
   ·rw [eb,hZa] at z'; cases z'
   ·exact ⟨o',by rw [aA eb]; exact z'⟩
  ·rw [ow0 b z]; exact ⟨_,aV⟩) fun _ _ _ h => h
 have s0:Sl ⟨Z,[a],H⟩ (eZ N xs ds) [] (L2.start N (.ref a :: us)) [] H:= by
  refine ⟨?_,fun i d h => ?_,fun i b ys h => ?_,fun i j b b' ys zs y h h' => ?_,.nil,fun b o _ h => h,fun b hb => ?_,hZ⟩
  ·simp only [eZ,L2.start,List.length_append,List.length_map,List.length_replicate,List.length_cons]
   omega
  ·cases i with
   | zero => cases h
   | succ i =>
    have h':(ds.map Slot.pu ++ List.replicate (N.length - (ds.length + 1)) .un)[i]? = some (.pu d):=by simpa [eZ] using h
    rcases eB h' with ⟨d',e,hd⟩ | e
    ·cases e
     obtain ⟨v,hv,rv⟩:=hds.get hd
     refine ⟨v,?_,rv.mono m⟩
     have hi:i < us.length:=(List.getElem?_eq_some_iff.mp hv).1
     have:(L2.start N (.ref a :: us))[i + 1]? = some (some v):= by
      unfold L2.start
      rw [List.getElem?_append_left (by simpa using hi),List.getElem?_map,List.getElem?_cons_succ,hv]; rfl
     exact this
    ·cases e
  ·cases i with
   | zero =>
    cases h
    exact ⟨a,ws,rfl,hH,hxs.mono m,(fun _ => List.mem_singleton.mpr rfl),(fun z => absurd z (by simp)),hZa⟩
   | succ i =>
    have h':(ds.map Slot.pu ++ List.replicate (N.length - (ds.length + 1)) .un)[i]? = some (.ow b ys):=by simpa [eZ] using h
    rcases eB h' with ⟨d',e,hd⟩ | e <;> cases e
  ·intro _ _
   have z:∀ (i:Nat) b ys,(eZ N xs ds)[i]? = some (.ow b ys) -> i = 0:=fun i b ys h => by
    cases i with
    | zero => rfl
    | succ i =>
     have h':(ds.map Slot.pu ++ List.replicate (N.length - (ds.length + 1)) .un)[i]? = some (.ow b ys):=by simpa [eZ] using h
     rcases eB h' with ⟨d',e,hd⟩ | e <;> cases e
   rw [z i b ys h,z j b' zs h']
  ·rw [List.mem_singleton.mp hb]; exact ⟨_,hH⟩
 unfold bz at e
 split at e
 ·rename_i d' δ' eb
  split at e
  ·rename_i ys hy
   cases e
   refine ⟨_,_,_,_,_,_,s0,eb,fun v σ' H' s' => ?_⟩
   obtain ⟨a',ws',ea,hH',hv',hB',_,_⟩:=s'.ow 0 true _ hy
   have ea2:a' = a:=List.mem_singleton.mp (hB' rfl)
   subst ea2
   have m':∀ b o,fS ⟨Z,[a'],H⟩ δ' σ' H' b = some o -> hz (upd Z a' (.lst ws')) H' b = some o:=bx (fun b o _ z => by
    obtain ⟨o',z⟩:=z
    by_cases eb:b = a'
    ·subst eb; exact .inr ⟨0,true,_,hy,ea⟩
    ·rw [aA eb] at z; exact .inl ⟨o',z⟩) fun _ _ _ h => h
   exact q v ws' H' (fun b o hb h => s'.keep b o (fun z => hb (List.mem_singleton.mp z)) h) hH' (hv'.mono m') (s'.st.head.mono m')
  ·cases e
 ·cases e
end
end Jt
namespace Jt
open PySem L2
section
variable {X:Cx} {a b e:Expr} {fa fb:M D} {fs:M (List D)} {pos p apos cpos:Pos} {es:List Expr} {x:Str}
theorem Sl.own {c:Ct} {δ:DS} {S:List D} {σ:St} {T:List V} {H:Hp} (s:Sl c δ S σ T H) {i:Nat} {b:Bool} {xs:List D} (hi:δ[i]? = some (.ow b xs)):∃ a vs,σ[i]? = some (some (.ref a)) ∧ H a = some (.lst vs) ∧ Rs (fS c δ σ H) xs vs:= by
 obtain ⟨a,vs,h1,h2,h3,_⟩:=s.ow i b xs hi
 exact ⟨a,vs,h1,h2,h3⟩
def setOw (i:Nat) (xs:List D):M Unit:=fun δ => match δ[i]? with
 | some (.ow b _) => some ((),δ.set i (.ow b xs))
 | _ => none
theorem gg {i:Nat} {xs:List D} {δ δ':DS} {u:Unit} (h:setOw i xs δ = some (u,δ')):∃ b ys,δ[i]? = some (.ow b ys) ∧ δ' = δ.set i (.ow b xs):= by
 unfold setOw at h
 split at h
 ·rename_i b ys e; cases h; exact ⟨b,ys,e,rfl⟩
 ·cases h
def c8 (i:Nat) (fs:M (List D)):M Fl:=do
 let _ <- aI i
 let ds <- fs
 match ds with
 | [d] => do
  let xs <- aI i
  let _ <- lift (few xs.length)
  setOw i (xs ++ [d])
  pure .nx
 | _ => lift none
theorem c6 (i:Nat) (ha:DA X [a] fs) (hN:X.N[i]? = some x:=by rfl) (hv:vd X.env.scope x:=by first | exact Or.inl rfl | exact Or.inr (Or.inl rfl) | exact Or.inr (Or.inr rfl)) (hd:(x == ("__debug__":Str)) = false:=by decide) (hcd:(x == ("__classdict__":Str)) = false:=by decide)
  (hfew:((backTo cpos (starEach [a] X.env)).all (fun x => !x.1) && (backToKw cpos (keywordEach [] X.env)).all (fun x => x.1.isSome)
   && decide (([a]:List Expr).length + ([]:List Keyword).length + (if ([]:List Keyword).isEmpty then 0 else 1) < 30)) = true:=by rfl)
  (hline:(apos.endLine == cpos.line) = true:=by rfl) (hs:starEach [a] X.env = [(false,eval a X.env)]:=by rfl) (hsw:swapsWith (.Call (.Attribute (.Name x p) "append" apos) [a] [] cpos) none pos.line X.env = pure false:=by rfl) :
  ql X (.Expr (.Call (.Attribute (.Name x p) "append" apos) [a] [] cpos) pos) (c8 i fs) :=
 kH (uJ (Dn PySem.F.plainAttrs_list PySem.F.slot_list_append PySem.F.type_list_append o7 (eU hN hv hd hcd) ha rfl hfew hline hs rfl) hsw) fun E σ H ⟨c,δ,S,T,fl,δ',s,e,k⟩ => by
  obtain ⟨xs0,δ0,e0,e⟩:=bind_some e
  obtain ⟨⟨b0,hi0⟩,rfl⟩:=bZ e0
  obtain ⟨q,vs0,eq,hq,_⟩:=s.own hi0
  obtain ⟨ds,δ1,e1,e⟩:=bind_some e
  refine ⟨_,eq,.inl ⟨rfl,vs0,.of hq⟩,c,δ,S,T,ds,δ1,s,e1,fun vs H1 l s1 => ?_⟩
  split at e
  ·rename_i d
   obtain ⟨xs,δ2,e2,e⟩:=bind_some e
   obtain ⟨⟨b1,hi1⟩,rfl⟩:=bZ e2
   obtain ⟨_,δ3,e3,e⟩:=bind_some e
   obtain ⟨e4,rfl⟩:=aE e3
   obtain ⟨_,δ4,e5,e⟩:=bind_some e
   obtain ⟨rfl,rfl⟩:=ar e
   obtain ⟨b2,ys,hi2,rfl⟩:=gg e5
   rw [hi1] at hi2; cases hi2
   obtain ⟨q',ws,eq',hq',hx⟩:=s1.own hi1
   rw [eq] at eq'; cases eq'
   obtain ⟨v,rfl,r⟩:=wC (s1.st.left l)
   refine ⟨q,ws,v,rfl,rfl,hq',by rw [hx.length]; exact (jC e4).2,k _ _ ?_⟩
   exact (s1.drop l).mut hi1 eq (hx.append (.cons r .nil))
  ·cases e
def yS (i:Nat) (fs:M (List D)):M D:=do
 let _ <- aI i
 let ds <- fs
 match ds with
 | [.int j] => do
  let xs <- aI i
  let d <- lift (if 0 ≤ j ∧ j < 100000 then xs[j.toNat]? else none)
  setOw i (xs.eraseIdx j.toNat)
  pure d
 | _ => lift none
theorem Rs.erase {H:Hp}:∀ {ds:List D} {vs:List V} (i:Nat),Rs H ds vs -> Rs H (ds.eraseIdx i) (vs.eraseIdx i)
 | [],vs,i,h => by rw [h.inv0]; simpa using Rs.nil
 | d :: ds,vs,0,h => by obtain ⟨v,r,e,_,h2⟩:=h.inv; subst e; exact h2
 | d :: ds,vs,i + 1,h => by obtain ⟨v,r,e,h1,h2⟩:=h.inv; subst e; exact .cons h1 (Rs.erase i h2)
theorem xg (i:Nat) (ha:DA X [a] fs) (hN:X.N[i]? = some x:=by rfl) (hv:vd X.env.scope x:=by first | exact Or.inl rfl | exact Or.inr (Or.inl rfl) | exact Or.inr (Or.inr rfl)) (hd:(x == ("__debug__":Str)) = false:=by decide) (hcd:(x == ("__classdict__":Str)) = false:=by decide)
  (hfew:((backTo cpos (starEach [a] X.env)).all (fun x => !x.1) && (backToKw cpos (keywordEach [] X.env)).all (fun x => x.1.isSome)
   && decide (([a]:List Expr).length + ([]:List Keyword).length + (if ([]:List Keyword).isEmpty then 0 else 1) < 30)) = true:=by rfl)
  (hline:(apos.endLine == cpos.line) = true:=by rfl) (hs:starEach [a] X.env = [(false,eval a X.env)]:=by rfl) :
  DE X (.Call (.Attribute (.Name x p) "pop" apos) [a] [] cpos) (yS i fs) :=
 cT (Dn PySem.F.plainAttrs_list PySem.F.slot_list_pop PySem.F.type_list_pop Ag (eU hN hv hd hcd) ha rfl hfew hline hs rfl) fun σ H Q ⟨c,δ,S,T,fl,δ',s,e,k⟩ => by
  obtain ⟨xs0,δ0,e0,e⟩:=bind_some e
  obtain ⟨⟨b0,hi0⟩,rfl⟩:=bZ e0
  obtain ⟨q,vs0,eq,hq,_⟩:=s.own hi0
  obtain ⟨ds,δ1,e1,e⟩:=bind_some e
  refine ⟨_,eq,.inl ⟨rfl,vs0,.of hq⟩,c,δ,S,T,ds,δ1,s,e1,fun vs H1 l s1 => ?_⟩
  split at e
  ·rename_i j
   obtain ⟨xs,δ2,e2,e⟩:=bind_some e
   obtain ⟨⟨b1,hi1⟩,rfl⟩:=bZ e2
   obtain ⟨d,δ3,e3,e⟩:=bind_some e
   obtain ⟨e4,rfl⟩:=aE e3
   obtain ⟨_,δ4,e5,e⟩:=bind_some e
   obtain ⟨rfl,rfl⟩:=ar e
   obtain ⟨b2,ys,hi2,rfl⟩:=gg e5
   rw [hi1] at hi2; cases hi2
   obtain ⟨q',ws,eq',hq',hx⟩:=s1.own hi1
   rw [eq] at eq'; cases eq'
   obtain ⟨v,rfl,r⟩:=wC (s1.st.left l)
   cases r.int
   split at e4
   ·rename_i hj
    obtain ⟨y,hy,ry⟩:=hx.get e4
    have hjl:j.toNat < ws.length:=(List.getElem?_eq_some_iff.mp hy).1
    refine ⟨q,ws,j,j.toNat,y,rfl,rfl,hq',by omega,by omega,?_,hy,k _ _ ?_⟩
    ·unfold seqIndex?
     have h1:¬ j < 0:=by omega
     simp only [h1,if_false]
     rw [if_pos]
     simp only [Bool.and_eq_true,decide_eq_true_eq]
     omega
    ·have s2:=s1.drop l
     exact (s2.stk (.cons ry s2.st)).mut hi1 eq (hx.erase j.toNat)
   ·cases e4
  ·cases e
def p9 (i:Nat) (fa:M D) (k:Int):M Fl:=do
 let d <- fa
 let xs <- aI i
 let j <- lift (tD xs.length k)
 setOw i (xs.set j d)
 pure .nx
theorem Rs.set {H:Hp} {d:D} {v:V} (r:R H d v):∀ {ds:List D} {vs:List V} (i:Nat),Rs H ds vs -> Rs H (ds.set i d) (vs.set i v)
 | [],vs,i,h => by rw [h.inv0]; simpa using Rs.nil
 | d :: ds,vs,0,h => by obtain ⟨v,q,e,_,h2⟩:=h.inv; subst e; exact .cons r h2
 | d :: ds,vs,i + 1,h => by obtain ⟨v,q,e,h1,h2⟩:=h.inv; subst e; exact .cons h1 (Rs.set r i h2)
theorem yc (i:Nat) {k:Int} {j:Nat} {pc psub:Pos} (he:DE X e fa) (hN:X.N[i]? = some x:=by rfl) (hv:vd X.env.scope x:=by first | exact Or.inl rfl | exact Or.inr (Or.inl rfl) | exact Or.inr (Or.inr rfl)) (hd:(x == ("__debug__":Str)) = false:=by decide) (hcd:(x == ("__classdict__":Str)) = false:=by decide)
  (ha:∀ v,assign (.Subscript (.Name x p) (.Constant (.int k) j pc) psub) X.env v = (do
   let ov <- holding [v] (eval (.Name x p) X.env)
   let iv <- holding [v,ov] (eval (.Constant (.int k) j pc) X.env)
   standAt psub
   holding [v,ov,iv] (setItem ov iv v)
   release [v,ov,iv] []):=by intro _; rfl)
  (hs:swapsWithSole [.Subscript (.Name x p) (.Constant (.int k) j pc) psub] e pos.line X.env = pure false:=by rfl) (hw:swappedStores [.Subscript (.Name x p) (.Constant (.int k) j pc) psub] e X.env = pure none:=by rfl)
  (h1:(assignEach [.Subscript (.Name x p) (.Constant (.int k) j pc) psub] X.env).map (·.2) = [assign (.Subscript (.Name x p) (.Constant (.int k) j pc) psub) X.env]:=by rfl) :
  ql X (.Assign [.Subscript (.Name x p) (.Constant (.int k) j pc) psub] e pos) (p9 i fa k) :=
 kH (yo he (ET (eU hN hv hd hcd) tS set_list ha) hs hw h1) fun E σ H ⟨c,δ,S,T,fl,δ',s,e,kk⟩ => by
  obtain ⟨d,δ1,e1,e⟩:=bind_some e
  obtain ⟨xs,δ2,e2,e⟩:=bind_some e
  obtain ⟨⟨b1,hi1⟩,rfl⟩:=bZ e2
  obtain ⟨jj,δ3,e3,e⟩:=bind_some e
  obtain ⟨e4,rfl⟩:=aE e3
  obtain ⟨_,δ4,e5,e⟩:=bind_some e
  obtain ⟨rfl,rfl⟩:=ar e
  obtain ⟨b2,ys,hi2,rfl⟩:=gg e5
  rw [hi1] at hi2; cases hi2
  refine ⟨c,δ,S,T,d,δ1,s,e1,fun v H1 s1 => ?_⟩
  obtain ⟨q,ws,eq,hq,hx⟩:=s1.own hi1
  refine ⟨_,eq,q,ws,k,jj,rfl,rfl,hq,by rw [hx.length]; exact e4,kk _ _ ?_⟩
  exact s1.pop.mut hi1 eq (hx.set s1.st.head jj)
def pW (i:Nat) (fb:M D):M D:=do
 let _ <- aI i
 let y <- fb
 let xs <- aI i
 lift (cQ (.lst xs) y)
theorem kb (i:Nat) {px:Pos} (hb:DE X b fb) (hN:X.N[i]? = some x:=by rfl) (hv:vd X.env.scope x:=by first | exact Or.inl rfl | exact Or.inr (Or.inl rfl) | exact Or.inr (Or.inr rfl)) (hd:(x == ("__debug__":Str)) = false:=by decide) (hcd:(x == ("__classdict__":Str)) = false:=by decide)
  (hs:lB b:=by exact fun _ _ => rfl):DE X (.Subscript (.Name x px) b pos) (pW i fb):=cT (DD uB (eU hN hv hd hcd) hb hs) fun σ H Q ⟨c,δ,S,T,fl,δ',s,e,k⟩ => by
 obtain ⟨xs0,δ0,e0,e⟩:=bind_some e
 obtain ⟨⟨b0,hi0⟩,rfl⟩:=bZ e0
 obtain ⟨q,vs0,eq,hq,_⟩:=s.own hi0
 obtain ⟨y,δ1,e1,e⟩:=bind_some e
 obtain ⟨xs,δ2,e2,e⟩:=bind_some e
 obtain ⟨⟨b1,hi1⟩,rfl⟩:=bZ e2
 obtain ⟨e3,rfl⟩:=aE e
 refine ⟨_,eq,c,δ,S,T,y,δ1,s,e1,fun u H2 s2 => ?_⟩
 obtain ⟨q',ws,eq',hq',hx⟩:=s2.own hi1
 rw [eq] at eq'; cases eq'
 cases y with
 | int j =>
  have e':jx xs j = some fl:=e3
  obtain ⟨z,e4,r⟩:=tJ hx e'
  exact ⟨q,ws,j,z,rfl,s2.st.head.int,.of hq',e4,k _ _ (s2.stk (.cons r s2.st.tail))⟩
 | _ => cases e3
def jQ (i:Nat):M D:=do
 let xs <- aI i
 pure (.int xs.length)
theorem i3 (i:Nat) {px:Pos} (hm:X.mg "len" = none) (hg:Gl X "len":=by rfl) (hN:X.N[i]? = some x:=by rfl) (hv:vd X.env.scope x:=by first | exact Or.inl rfl | exact Or.inr (Or.inl rfl) | exact Or.inr (Or.inr rfl)) (hd:(x == ("__debug__":Str)) = false:=by decide) (hcd:(x == ("__classdict__":Str)) = false:=by decide) :
  DE X (.Call (.Name "len" p) [.Name x px] [] pos) (jQ i):=cT (g9 jR hg hm PySem.boot_len (er (eU hN hv hd hcd) ir) (by decide) (by decide) rfl rfl) fun σ H Q ⟨c,δ,S,T,fl,δ',s,e,k⟩ => by
 obtain ⟨xs,δ1,e1,e⟩:=bind_some e
 obtain ⟨rfl,rfl⟩:=ar e
 obtain ⟨⟨b1,hi1⟩,rfl⟩:=bZ e1
 obtain ⟨q,ws,eq,hq,hx⟩:=s.own hi1
 refine ⟨_,eq,q,ws,rfl,.inl (.of hq),k _ _ (s.stk (.cons ?_ s.st))⟩
 rw [hx.length]; exact .mkI
theorem bG (hm:X.mg "len" = none) (ha:DA X [a] fs) (hg:Gl X "len":=by rfl) (he:starEach [a] X.env = [(false,eval a X.env)]:=by rfl):DE X (.Call (.Name "len" p) [a] [] pos) (mC br fs) :=
 iy jR EL hg hm PySem.boot_len ha (by decide) (by decide) he rfl
theorem wz:∀ {bs:List Bool} {its:List Value} {i:Nat} {v:Value},Vals (bs.map V.bl) its -> its[i]? = some v -> ∃ b,bs[i]? = some b ∧ v = .bool b:=fun {bs its i v} h e => by
 have hl:=h.length
 rw [List.length_map] at hl
 have hi:i < bs.length:=by rw [hl]; exact (List.getElem?_eq_some_iff.mp e).1
 obtain ⟨u,eu,r⟩:=h.get (i:=i) (x:=V.bl bs[i]) (by rw [List.getElem?_map,List.getElem?_eq_getElem hi]; rfl)
 rw [e] at eu; cases eu
 exact ⟨bs[i],List.getElem?_eq_getElem hi,r⟩
theorem uh (bs:List Bool):((List.range bs.length).all fun i => (bs[i]?).getD true) = bs.all id:= by
 rw [Bool.eq_iff_iff,List.all_eq_true,List.all_eq_true]
 constructor
 ·intro h b hb
  obtain ⟨i,hi,rfl⟩:=List.getElem_of_mem hb
  simpa [List.getElem?_eq_getElem hi] using h i (List.mem_range.mpr hi)
 ·intro h i hi
  have hi':=List.mem_range.mp hi
  simpa [List.getElem?_eq_getElem hi'] using h _ (List.getElem_mem hi')
theorem yt (hc:X.calm = true):d4 X (.builtin "all") (fun xs H Q => ∃ (p:Addr) (bs:List Bool),xs = [.ref p] ∧ iY X.K H p (bs.map V.bl) ∧ Q (.bl (bs.all id)) H):= by
 intro pins s σ H xs us Q I r h
 obtain ⟨p,bs,rfl,hq,q⟩:=h
 obtain ⟨u,rfl,rx⟩:=r.one
 cases rx
 obtain ⟨its,rv,pl,hz⟩:=I.list hq
 have hlt:p < s.heap.objs.size:=by obtain ⟨_,e,_⟩:=pl.isList; exact Heap.lt_size e
 refine call_all_walk (wpAny_pyIter_list pl.isList ?_)
 refine ⟨s.heap.objs.size,[s.heap.objs.size,p],[s.heap.objs.size],its.toArray.size,_,_,fun i => (bs[i]?).getD true,rfl,Walks.list (A:=X.A.in1) (I.ok.hd hc) _ p (Nat.ne_of_lt hlt) its.toArray,
  ⟨⟨_,Heap.get?_push_size _ rfl,rfl,rfl⟩,pl.isList.push _⟩,fun i v s' Q' E' hP hQ => ?_,fun h' tk hk => ?_⟩
 ·obtain ⟨b,e,rfl⟩:=wz rv (by simpa using hP)
  simp only [e,Option.getD_some] at hQ
  exact wpAny_truthy_bool hQ
 ·have e:((List.range its.toArray.size).all fun i => (bs[i]?).getD true) = bs.all id:= by
   rw [List.size_toArray,<- rv.length,List.length_map]; exact uh bs
  rw [e]
  exact ⟨.bl _,H,I.kept fun b o eb => hk b o (fun hm => absurd (Heap.lt_size eb) (by rw [List.mem_singleton.mp hm]; exact Nat.lt_irrefl _)) (Heap.get?_push_of_some _ eb),rfl,q⟩
def boolsOf:List D -> Option (List Bool)
 | [] => some []
 | .bl b :: r => (boolsOf r).map (b :: ·)
 | _ => none
theorem su {H:Hp}:∀ {ds:List D} {vs:List V} {bs:List Bool},Rs H ds vs -> boolsOf ds = some bs -> vs = bs.map V.bl
 | [],vs,bs,h,e => by cases e; exact h.inv0
 | d :: ds,vs,bs,h,e => by
  obtain ⟨v,r,ev,h1,h2⟩:=h.inv
  cases d with
  | bl b =>
   unfold boolsOf at e
   cases q:boolsOf ds with
   | none => rw [q] at e; cases e
   | some bs' =>
    rw [q] at e; cases e
    rw [ev,h1.bl,su h2 q]; rfl
  | _ => cases e
def jm:List D -> Option D
 | [.lst ds] => (boolsOf ds).map fun bs => .bl (bs.all id)
 | _ => none
theorem za {K:PySem.W.Frag} (g:List Bool -> Bool) (f:List D -> Option D) (hf:∀ ds d,f ds = some d -> ∃ es bs,ds = [.lst es] ∧ boolsOf es = some bs ∧ d = .bl (g bs)) :
  jV (fun xs H Q => ∃ (p:Addr) (bs:List Bool),xs = [.ref p] ∧ iY K H p (bs.map V.bl) ∧ Q (.bl (g bs)) H) f:=fun c δ S σ T H ds vs d Q l s e k => by
 obtain ⟨es,bs,rfl,e2,rfl⟩:=hf _ _ e
 have h:=s.st.left l
 have h2:=s.st.right l
 obtain ⟨v,rfl,r⟩:=wC h
 obtain ⟨p,ws,rfl,h1,h3⟩:=r.lst
 have:=su h3 e2
 subst this
 exact ⟨p,bs,rfl,.inl (Rd.mono bo h1),k _ _ (s.stk (.cons .mkB h2))⟩
theorem vL (ds:List D) (d:D) (h:jm ds = some d):∃ es bs,ds = [.lst es] ∧ boolsOf es = some bs ∧ d = .bl (bs.all id):= by
 unfold jm at h
 split at h
 ·rename_i es
  cases q:boolsOf es with
  | none => rw [q] at h; cases h
  | some bs => rw [q] at h; cases h; exact ⟨es,bs,rfl,q,rfl⟩
 ·cases h
theorem ph (hm:X.mg "all" = none) (ha:DA X [a] fs) (hg:Gl X "all":=by rfl) (hc:X.calm = true:=by rfl) (he:starEach [a] X.env = [(false,eval a X.env)]:=by rfl):DE X (.Call (.Name "all" p) [a] [] pos) (mC jm fs) :=
 iy (yt hc) (za _ jm vL) hg hm PyProof.Rows.boot_all ha (by decide) (by decide) he rfl
theorem oJ {T:String} {r:List V -> Hp -> VK -> Prop} {f:List D -> Option D} (hc:d4 X (.type T) r) (hd:jV r f) (hg:Gl X x) (hm:X.mg x = none) (hv:bootBuiltins x = some (.type T)) (ha:DA X (a :: es) fs) (hn:x ≠ "__name__":=by decide) (hdb:(x == ("__debug__":Str)) = false:=by decide)
  (he:starEach (a :: es) X.env = (false,eval a X.env) :: starEach es X.env:=by rfl) (hpl:(backTo pos (starEach es X.env)).any (·.1) = false:=by rfl):DE X (.Call (.Name x p) (a :: es) [] pos) (mC f fs) :=
 cT (fX hc hg hm hv ha hn hdb he hpl) (DR hd)
theorem wu {T:String} {r:List V -> Hp -> VK -> Prop} {f:List D -> Option (List D)} (hc:d4 X (.type T) r) (hd:z_ r f) (hg:Gl X x) (hm:X.mg x = none) (hv:bootBuiltins x = some (.type T)) (ha:DA X (a :: es) fs) (hn:x ≠ "__name__":=by decide) (hdb:(x == ("__debug__":Str)) = false:=by decide)
  (he:starEach (a :: es) X.env = (false,eval a X.env) :: starEach es X.env:=by rfl) (hpl:(backTo pos (starEach es X.env)).any (·.1) = false:=by rfl):DF X (.Call (.Name x p) (a :: es) [] pos) (mC f fs) :=
 cT (fX hc hg hm hv ha hn hdb he hpl) (Fs hd)
def fK:D -> Option (List D)
 | .tup ds => some ds
 | .lst ds => some ds
 | _ => none
def cX:List D -> Option D
 | [x] => (fK x).map .tup
 | _ => none
theorem xn {K:PySem.W.Frag}:jV (fun xs H Q => ∃ p ys,xs = [.ref p] ∧ ((iY K H p ys ∧ ∀ l,H l = none -> Q (.ref l) (upd H l (.tup ys))) ∨ (i4 K H p ys ∧ Q (.ref p) H))) cX:=fun c δ S σ T H ds vs d Q l s e k => by
 unfold cX at e
 split at e
 ·rename_i x
  have h:=s.st.left l
  have h2:=s.st.right l
  obtain ⟨v,rfl,r⟩:=wC h
  cases x with
  | tup es =>
   cases e
   obtain ⟨p,ws,rfl,h1,h3⟩:=r.tup
   exact ⟨p,ws,rfl,.inr ⟨.of (bo _ _ h1),k _ _ (s.stk (.cons (.mkT h1 h3) h2))⟩⟩
  | lst es =>
   cases e
   obtain ⟨p,ws,rfl,h1,h3⟩:=r.lst
   exact ⟨p,ws,rfl,.inl ⟨.inl (Rd.mono bo h1),fun q hq => k _ _ ((s.stk (h3.append h2)).newTup h3.length hq)⟩⟩
  | _ => cases e
 ·cases e
theorem dQ (hm:X.mg "tuple" = none) (ha:DA X [a] fs) (hg:Gl X "tuple":=by rfl) (he:starEach [a] X.env = [(false,eval a X.env)]:=by rfl):DE X (.Call (.Name "tuple" p) [a] [] pos) (mC cX fs) :=
 oJ jd xn hg hm (by decide +kernel) ha (by decide) (by decide) he rfl
def dList:List D -> Option (List D)
 | [x] => fK x
 | _ => none
theorem CM {K:PySem.W.Frag}:z_ (fun xs H Q => ∃ p ys,xs = [.ref p] ∧ (iY K H p ys ∨ i4 K H p ys) ∧ ∀ l,H l = none -> Q (.ref l) (upd H l (.lst ys))) dList:=fun c δ S σ T H ds vs d Q l s e k => by
 unfold dList at e
 split at e
 ·rename_i x
  have h:=s.st.left l
  have h2:=s.st.right l
  obtain ⟨v,rfl,r⟩:=wC h
  cases x with
  | tup es =>
   cases e
   obtain ⟨p,ws,rfl,h1,h3⟩:=r.tup
   refine ⟨p,ws,rfl,.inr (.of (bo _ _ h1)),fun q hq => ?_⟩
   have s1:=s.stk (h3.append h2)
   obtain ⟨f1,f2,f3⟩:=s1.fresh hq
   exact k q ws _ h3.length (s1.hide hq) f1 f2 f3
  | lst es =>
   cases e
   obtain ⟨p,ws,rfl,h1,h3⟩:=r.lst
   refine ⟨p,ws,rfl,.inl (.inl (Rd.mono bo h1)),fun q hq => ?_⟩
   have s1:=s.stk (h3.append h2)
   obtain ⟨f1,f2,f3⟩:=s1.fresh hq
   exact k q ws _ h3.length (s1.hide hq) f1 f2 f3
  | _ => cases e
 ·cases e
theorem uZ (hm:X.mg "list" = none) (ha:DA X [a] fs) (hg:Gl X "list":=by rfl) (he:starEach [a] X.env = [(false,eval a X.env)]:=by rfl):DF X (.Call (.Name "list" p) [a] [] pos) (mC dList fs) :=
 wu pB CM hg hm (by decide +kernel) ha (by decide) (by decide) he rfl
def flat:D -> Option V
 | .non => some .non
 | .bl b => some (.bl b)
 | .int i => some (.int i)
 | .str x => some (.str x)
 | _ => none
theorem dJ {H:Hp} {d:D} {v u:V} (r:R H d v) (e:flat d = some u):v = u ∧ iJ u = true:= by
 cases d with
 | non => cases e; exact ⟨r.non,rfl⟩
 | bl b => cases e; exact ⟨r.bl,rfl⟩
 | int b => cases e; exact ⟨r.int,rfl⟩
 | str b => cases e; exact ⟨r.str,rfl⟩
 | _ => cases e
def kY:List D -> Option (List V)
 | [] => some []
 | d :: ds => match flat d,kY ds with
  | some v,some vs => some (v :: vs)
  | _,_ => none
theorem iP {H:Hp}:∀ {ds:List D} {vs us:List V},Rs H ds vs -> kY ds = some us -> vs = us ∧ us.all iJ = true
 | [],vs,us,h,e => by cases e; exact ⟨h.inv0,rfl⟩
 | d :: ds,vs,us,h,e => by
  obtain ⟨v,r,ev,h1,h2⟩:=h.inv
  unfold kY at e
  split at e
  ·rename_i w ws e1 e2
   cases e
   obtain ⟨a1,a2⟩:=dJ h1 e1
   obtain ⟨b1,b2⟩:=iP h2 e2
   refine ⟨by rw [ev,a1,b1],?_⟩
   rw [List.all_cons,a2,b2]; rfl
  ·cases e
def i7 (neg:Bool) (x y:D):Option D:=match flat x,fK y with
 | some v,some ds => (kY ds).map fun vs => .bl (if neg then !Gq v vs else Gq v vs)
 | _,_ => none
theorem tB {K:PySem.W.Frag} {neg:Bool}:qk (IB K neg) (i7 neg):=fun c δ S σ T H x y v u d Q s e k => by
 unfold i7 at e
 split at e
 ·rename_i w ds e1 e2
  cases e3:kY ds with
  | none => rw [e3] at e; cases e
  | some vs =>
   rw [e3] at e; cases e
   obtain ⟨rfl,f1⟩:=dJ s.st.tail.head e1
   cases y with
   | tup es =>
    cases e2
    obtain ⟨p,ws,rfl,h1,h3⟩:=s.st.head.tup
    obtain ⟨rfl,f2⟩:=iP h3 e3
    exact ⟨p,ws,rfl,.inr (.of (bo _ _ h1)),f1,f2,k _ _ (s.stk (.cons .mkB s.st.tail.tail))⟩
   | lst es =>
    cases e2
    obtain ⟨p,ws,rfl,h1,h3⟩:=s.st.head.lst
    obtain ⟨rfl,f2⟩:=iP h3 e3
    exact ⟨p,ws,rfl,.inl (.inl (Rd.mono bo h1)),f1,f2,k _ _ (s.stk (.cons .mkB s.st.tail.tail))⟩
   | _ => cases e2
 ·cases e
theorem HC (ha:DE X a fa) (hb:DE X b fb) (hm:behindInMarks .In b = false:=by rfl):DE X (.Compare a [.In] [b] pos) (m2 (i7 false) fa fb):=pN o6 tB ha hb hm
theorem iE (ha:DE X a fa) (hb:DE X b fb) (hm:behindInMarks .In b = false:=by rfl):DT X (.Compare a [.In] [b] pos) (m2 (i7 false) fa fb >>= cx):=fk o6 tB ha hb hm
theorem f9 (ha:DE X a fa) (hb:DE X b fb) (hm:behindInMarks .NotIn b = false:=by rfl):DT X (.Compare a [.NotIn] [b] pos) (m2 (i7 true) fa fb >>= cx):=fk gx tB ha hb hm
def dg (neg:Bool) (x y:D):Option D:=match flat x,flat y with
 | some v,some u => if q0 v u = true then some (.bl (if neg then !decide (v = u) else decide (v = u))) else none
 | _,_ => none
theorem pL:qk JE (dg false):=fun c δ S σ T H x y v u d Q s e k => by
 unfold dg at e
 split at e
 ·rename_i w z e1 e2
  split at e
  ·rename_i hs
   cases e
   obtain ⟨rfl,_⟩:=dJ s.st.tail.head e1
   obtain ⟨rfl,_⟩:=dJ s.st.head e2
   exact ⟨hs,k _ _ (s.stk (.cons .mkB s.st.tail.tail))⟩
  ·cases e
 ·cases e
theorem u9:qk JQ (dg true):=fun c δ S σ T H x y v u d Q s e k => by
 unfold dg at e
 split at e
 ·rename_i w z e1 e2
  split at e
  ·rename_i hs
   cases e
   obtain ⟨rfl,_⟩:=dJ s.st.tail.head e1
   obtain ⟨rfl,_⟩:=dJ s.st.head e2
   exact ⟨hs,k _ _ (s.stk (.cons .mkB s.st.tail.tail))⟩
  ·cases e
 ·cases e
theorem y9 (ha:DE X a fa) (hb:DE X b fb):DE X (.Compare a [.Eq] [b] pos) (m2 (dg false) fa fb):=pN zM pL ha hb
theorem iC (ha:DE X a fa) (hb:DE X b fb):DT X (.Compare a [.Eq] [b] pos) (m2 (dg false) fa fb >>= cx):=fk zM pL ha hb
theorem ku (ha:DE X a fa) (hb:DE X b fb):DT X (.Compare a [.NotEq] [b] pos) (m2 (dg true) fa fb >>= cx):=fk Dp u9 ha hb
end
end Jt
namespace Jt
open PySem L2
section
variable {X:Cx} {a b e:Expr} {fa fb:M D} {fs:M (List D)} {fF:M (List D)} {pos p apos cpos:Pos} {es rest:List Expr} {x:Str}
def nj:List D -> Option D
 | [.int i,.int j] => some (.int (if j < i then j else i))
 | _ => none
def qF:List D -> Option D
 | [.int i,.int j] => some (.int (if j > i then j else i))
 | _ => none
theorem Dv (g:Int -> Int -> Int) (f:List D -> Option D) (hf:∀ ds d,f ds = some d -> ∃ i j,ds = [.int i,.int j] ∧ d = .int (g i j)):jV (fun xs H Q => ∃ i j,xs = [.int i,.int j] ∧ Q (.int (g i j)) H) f:=fun c δ S σ T H ds vs d Q l s e k => by
 obtain ⟨i,j,rfl,rfl⟩:=hf _ _ e
 obtain ⟨v,u,rfl,r1,r2⟩:=HN (s.st.left l)
 cases r1.int
 cases r2.int
 exact ⟨i,j,rfl,k _ _ (s.stk (.cons .mkI (s.st.right l)))⟩
theorem v3 (ds:List D) (d:D) (h:nj ds = some d):∃ i j,ds = [.int i,.int j] ∧ d = .int (if j < i then j else i):= by
 unfold nj at h
 split at h
 ·cases h; exact ⟨_,_,rfl,rfl⟩
 ·cases h
theorem wM (ds:List D) (d:D) (h:qF ds = some d):∃ i j,ds = [.int i,.int j] ∧ d = .int (if j > i then j else i):= by
 unfold qF at h
 split at h
 ·cases h; exact ⟨_,_,rfl,rfl⟩
 ·cases h
theorem tV (hm:X.mg "min" = none) (ha:DA X [a,b] fs) (hg:Gl X "min":=by rfl) (hc:X.calm = true:=by rfl) (he:starEach [a,b] X.env = (false,eval a X.env) :: starEach [b] X.env:=by rfl) (hp:(backTo pos (starEach [b] X.env)).any (·.1) = false:=by rfl):DE X (.Call (.Name "min" p) [a,b] [] pos) (mC nj fs) :=
 iy (vN hc) (Dv _ nj v3) hg hm (by decide +kernel) ha (by decide) (by decide) he hp
theorem ze (hm:X.mg "max" = none) (ha:DA X [a,b] fs) (hg:Gl X "max":=by rfl) (hc:X.calm = true:=by rfl) (he:starEach [a,b] X.env = (false,eval a X.env) :: starEach [b] X.env:=by rfl) (hp:(backTo pos (starEach [b] X.env)).any (·.1) = false:=by rfl):DE X (.Call (.Name "max" p) [a,b] [] pos) (mC qF fs) :=
 iy (vV hc) (Dv _ qF wM) hg hm (by decide +kernel) ha (by decide) (by decide) he hp
def GP (fa fb:M D):M D:=do
 let v <- fa
 let t <- lift (cm v)
 if t = true then pure v else fb
theorem Gn (ha:DE X a fa) (hb:DE X (.BoolOp .Or (b :: rest) pos) fb):DE X (.BoolOp .Or (a :: b :: rest) pos) (GP fa fb):=fun pins s σ H Q I ⟨c,δ,S,T,d,δ',sl,e,k⟩ => by
 obtain ⟨v,δ1,e1,e⟩:=bind_some e
 obtain ⟨t,δ2,e2,e⟩:=bind_some e
 obtain ⟨e3,rfl⟩:=aE e2
 refine PyProof.Rows.BoolOp_or (cW (ha pins s σ H (fun y H1 => Sl c δ1 (v :: S) σ (y :: T) H1) I ⟨c,δ,S,T,v,δ1,sl,e1,fun y H1 s1 => s1⟩) fun u s1 ⟨y,H1,I1,r1,q1⟩ => ?_)
 refine cW (zo pins s1 σ H1 y u (fun k' H2 => k' = t ∧ H2 = H1) I1 r1 ⟨t,u4 bo q1.st.head e3,rfl,rfl⟩) fun k' s2 ⟨H2,I2,ek,eH⟩ => ?_
 subst ek eH
 cases k' with
 | true =>
  rw [if_pos rfl] at e
  obtain ⟨rfl,rfl⟩:=ar e
  rw [if_pos rfl]
  exact ⟨y,H2,I2,r1,k _ _ q1⟩
 | false =>
  rw [if_neg Bool.false_ne_true] at e
  rw [if_neg Bool.false_ne_true]
  exact hb pins s2 σ H2 Q I2 ⟨c,δ1,S,T,d,δ',q1.pop,e,k⟩
def Dt:D -> D -> Option D
 | .tup (x :: xs),.tup ys => if xs.length + 1 + ys.length ≤ 100000 then some (.tup ((x :: xs) ++ ys)) else none
 | _,_ => none
theorem yk {K:PySem.W.Frag}:qk (xr K) Dt:=fun c δ S σ T H x y v u d Q s e k => by
 unfold Dt at e
 split at e
 ·rename_i x xs ys
  split at e
  ·rename_i hn
   cases e
   obtain ⟨p,ws,rfl,h1,h3⟩:=s.st.tail.head.tup
   obtain ⟨q,zs,rfl,h4,h5⟩:=s.st.head.tup
   have hl:(100000:Nat) < sizeLine:=by rw [sizeLine_eq]; decide
   have l1:=h3.length
   have l2:=h5.length
   rw [List.length_cons] at l1
   refine ⟨p,q,ws,zs,rfl,rfl,.of (bo _ _ h1),.of (bo _ _ h4),fun z => (by rw [z] at l1; simp at l1),by omega,fun z => ?_,fun z r hr => ?_⟩
   ·rw [z] at h5
    cases ys with
    | nil =>
     rw [List.append_nil] at k
     exact k _ _ (s.stk (.cons s.st.tail.head s.st.tail.tail))
    | cons y ys => obtain ⟨_,_,e,_⟩:=h5.inv; cases e
   ·have s1:=s.stk ((h3.append h5).append s.st.tail.tail)
    exact k _ _ (s1.newTup (by rw [List.length_append,List.length_append,h5.length,h3.length]) hr)
  ·cases e
 ·cases e
def eF:Nat -> D -> D -> Option Bool
 | 0,_,_ => none
 | n + 1,.tup xs,.tup ys => (go n xs ys).map fun b => b && xs.length == ys.length
 | n + 1,.lst xs,.lst ys => if xs.length = ys.length then go n xs ys else some false
 | _ + 1,x,y => match flat x,flat y with
  | some v,some u => some (zu v u)
  | _,_ => none
where
 go (n:Nat):List D -> List D -> Option Bool
  | x :: xs,y :: ys => match eF n x y,go n xs ys with
   | some a,some b => some (a && b)
   | _,_ => none
  | _,_ => some true
mutual
theorem R.inj {H:Hp}:∀ (x y:D) (v:V),R H x v -> R H y v -> x = y
 | .non,y,v,h,g => by
  cases h.non
  cases y with
  | non => rfl
  | bl b => cases g.bl
  | int b => cases g.int
  | str b => cases g.str
  | tup b => obtain ⟨_,_,e,_⟩:=g.tup; cases e
  | lst b => obtain ⟨_,_,e,_⟩:=g.lst; cases e
  | dct => obtain ⟨_,e,_⟩:=g.dct; cases e
 | .bl x,y,v,h,g => by
  cases h.bl
  cases y with
  | non => cases g.non
  | bl b => cases g.bl; rfl
  | int b => cases g.int
  | str b => cases g.str
  | tup b => obtain ⟨_,_,e,_⟩:=g.tup; cases e
  | lst b => obtain ⟨_,_,e,_⟩:=g.lst; cases e
  | dct => obtain ⟨_,e,_⟩:=g.dct; cases e
 | .int x,y,v,h,g => by
  cases h.int
  cases y with
  | non => cases g.non
  | bl b => cases g.bl
  | int b => cases g.int; rfl
  | str b => cases g.str
  | tup b => obtain ⟨_,_,e,_⟩:=g.tup; cases e
  | lst b => obtain ⟨_,_,e,_⟩:=g.lst; cases e
  | dct => obtain ⟨_,e,_⟩:=g.dct; cases e
 | .str x,y,v,h,g => by
  cases h.str
  cases y with
  | non => cases g.non
  | bl b => cases g.bl
  | int b => cases g.int
  | str b => cases g.str; rfl
  | tup b => obtain ⟨_,_,e,_⟩:=g.tup; cases e
  | lst b => obtain ⟨_,_,e,_⟩:=g.lst; cases e
  | dct => obtain ⟨_,e,_⟩:=g.dct; cases e
 | .tup xs,y,v,h,g => by
  obtain ⟨a,vs,rfl,h1,h2⟩:=h.tup
  cases y with
  | non => cases g.non
  | bl b => cases g.bl
  | int b => cases g.int
  | str b => cases g.str
  | tup ys =>
   obtain ⟨a',vs',e,g1,g2⟩:=g.tup
   cases e
   rw [h1] at g1; cases g1
   rw [Rs.inj xs ys vs h2 g2]
  | lst ys =>
   obtain ⟨a',vs',e,g1,g2⟩:=g.lst
   cases e
   rcases g1 with g1 | ⟨o,g1⟩ <;> (rw [h1] at g1; cases g1)
  | dct =>
   obtain ⟨a',e,g1⟩:=g.dct
   cases e
   rw [h1] at g1; cases g1
 | .lst xs,y,v,h,g => by
  obtain ⟨a,vs,rfl,h1,h2⟩:=h.lst
  cases y with
  | non => cases g.non
  | bl b => cases g.bl
  | int b => cases g.int
  | str b => cases g.str
  | tup ys =>
   obtain ⟨a',vs',e,g1,g2⟩:=g.tup
   cases e
   rcases h1 with h1 | ⟨o,h1⟩ <;> (rw [h1] at g1; cases g1)
  | lst ys =>
   obtain ⟨a',vs',e,g1,g2⟩:=g.lst
   cases e
   have:vs' = vs:= by
    rcases h1 with h1 | ⟨o,h1⟩ <;> rcases g1 with g1 | ⟨o',g1⟩ <;> (rw [h1] at g1; first | (cases g1; rfl) | cases g1)
   subst this
   rw [Rs.inj xs ys _ h2 g2]
  | dct =>
   obtain ⟨a',e,g1⟩:=g.dct
   cases e
   rcases h1 with h1 | ⟨o,h1⟩ <;> (rw [h1] at g1; cases g1)
 | .dct,y,v,h,g => by
  obtain ⟨a,rfl,h1⟩:=h.dct
  cases y with
  | non => cases g.non
  | bl b => cases g.bl
  | int b => cases g.int
  | str b => cases g.str
  | tup ys =>
   obtain ⟨a',vs',e,g1,g2⟩:=g.tup
   cases e
   rw [h1] at g1; cases g1
  | lst ys =>
   obtain ⟨a',vs',e,g1,g2⟩:=g.lst
   cases e
   rcases g1 with g1 | ⟨o,g1⟩ <;> (rw [h1] at g1; cases g1)
  | dct => rfl
theorem Rs.inj {H:Hp}:∀ (xs ys:List D) (vs:List V),Rs H xs vs -> Rs H ys vs -> xs = ys
 | [],ys,vs,h,g => by
  cases h.inv0
  cases ys with
  | nil => rfl
  | cons y ys => obtain ⟨_,_,e,_⟩:=g.inv; cases e
 | x :: xs,ys,vs,h,g => by
  obtain ⟨v,r,rfl,h1,h2⟩:=h.inv
  cases ys with
  | nil => cases g.inv0
  | cons y ys => rw [R.inj x y v h1 g.head,Rs.inj xs ys r h2 g.tail]
end
theorem kq {n:Nat}:∀ {xs ys:List D} {b:Bool},eF.go n xs ys = some b -> ∃ e:Nat -> Bool,(∀ (j:Nat) x y,xs[j]? = some x -> ys[j]? = some y -> eF n x y = some (e j)) ∧ b = (List.range (min xs.length ys.length)).all e
 | [],ys,b,h => by
  unfold eF.go at h
  cases h; exact ⟨fun _ => true,fun j x y h1 => by simp at h1,by simp⟩
 | x :: xs,[],b,h => by
  unfold eF.go at h
  cases h; exact ⟨fun _ => true,fun j x y h1 h2 => by simp at h2,by simp⟩
 | x :: xs,y :: ys,b,h => by
  unfold eF.go at h
  split at h
  ·rename_i b1 b2 e1 e2
   cases h
   obtain ⟨e,he,hb⟩:=kq e2
   refine ⟨fun j => match j with | 0 => b1 | j + 1 => e j,fun j x' y' h1 h2 => ?_,?_⟩
   ·cases j with
    | zero => cases h1; cases h2; exact e1
    | succ j => exact he j x' y' (by simpa using h1) (by simpa using h2)
   ·rw [List.length_cons,List.length_cons,Nat.add_min_add_right,List.range_succ_eq_map,List.all_cons,List.all_map,hb]; rfl
  ·cases h
theorem jB {v:V} (h:iJ v = true):zu v v = true:= by
 cases v with
 | non => rfl
 | bl b => cases b <;> rfl
 | int i => exact beq_self_eq_true i
 | str x => exact beq_self_eq_true x
 | _ => cases h
theorem zO:∀ (n:Nat) (x:D) (b:Bool),eF n x x = some b -> b = true:= by
 intro n
 induction n with
 | zero => intro x b h; simp [eF] at h
 | succ n ih =>
  have go:∀ (xs:List D) (b:Bool),eF.go n xs xs = some b -> b = true:=fun xs b h => by
   obtain ⟨e,he,hb⟩:=kq h
   rw [Nat.min_self] at hb
   subst hb
   rw [List.all_eq_true]
   intro j hj
   have hj':=List.mem_range.mp hj
   exact ih _ _ (he j _ _ (List.getElem?_eq_getElem hj') (List.getElem?_eq_getElem hj'))
  intro x b h
  cases x with
  | tup xs =>
   unfold eF at h
   cases q:eF.go n xs xs with
   | none => rw [q] at h; cases h
   | some b' => rw [q] at h; cases h; rw [go xs b' q]; simp
  | lst xs => unfold eF at h; rw [if_pos rfl] at h; exact go xs b h
  | non => simp [eF,flat] at h; rw [<- h]; exact jB rfl
  | bl q => simp [eF,flat] at h; rw [<- h]; exact jB rfl
  | int q => simp [eF,flat] at h; rw [<- h]; exact jB rfl
  | str q => simp [eF,flat] at h; rw [<- h]; exact jB rfl
  | dct => simp [eF,flat] at h
open SeqAt in
theorem t8 {pins:List (Addr × Obj)} {σ:St} {H Hh:Hp} {s:Shared} (I:Inv X pins σ H s) (m:∀ b o,Hh b = some o -> H b = some o):∀ (n:Nat) (A:Around),A.units + n < cLine -> ∀ (x y:D) (v w:V) (u z:Value) (b:Bool),R Hh x v -> R Hh y w -> RelV v u -> RelV w z -> eF n x y = some b ->
  EqAt A s u z b ∧ ((∃ xs,x = .tup xs ∨ x = .lst xs) -> RcAt A s u z b):= by
 intro n
 induction n with
 | zero => intro A _ x y v w u z b _ _ _ _ h; simp [eF] at h
 | succ n ih =>
  intro A hu x y v w u z b rx ry ru rz h
  have hu':A.units < cLine:=by omega
  have items:∀ {xs ys:List D} {vs ws:List V} {is js:List Value} {e:Nat -> Bool},Rs Hh xs vs -> Rs Hh ys ws -> Vals vs is -> Vals ws js -> (∀ (j:Nat) x y,xs[j]? = some x -> ys[j]? = some y -> eF n x y = some (e j)) ->
    ∀ j (h1:j < is.toArray.size) (h2:j < js.toArray.size),EqAt A.in1 s is.toArray[j] js.toArray[j] (e j):=fun {xs ys vs ws is js e} r1 r2 v1 v2 he j h1 h2 => by
   have l1:j < xs.length:=by rw [<- r1.length,v1.length]; simpa using h1
   have l2:j < ys.length:=by rw [<- r2.length,v2.length]; simpa using h2
   obtain ⟨v',e1,q1⟩:=r1.get (List.getElem?_eq_getElem l1)
   obtain ⟨w',e2,q2⟩:=r2.get (List.getElem?_eq_getElem l2)
   obtain ⟨u',e3,q3⟩:=v1.get e1
   obtain ⟨z',e4,q4⟩:=v2.get e2
   have:=(ih A.in1 (by show A.units + 1 + n < _; omega) _ _ v' w' u' z' (e j) q1 q2 q3 q4 (he j _ _ (List.getElem?_eq_getElem l1) (List.getElem?_eq_getElem l2))).1
   have a1:is.toArray[j] = u':= by
    have:=(List.getElem?_eq_some_iff.mp e3).2
    simpa using this
   have a2:js.toArray[j] = z':= by
    have:=(List.getElem?_eq_some_iff.mp e4).2
    simpa using this
   rw [a1,a2]; exact this
  have refs:∀ {l k:Addr},u = .ref l -> z = .ref k -> v = .ref l -> w = .ref k -> RcAt A s u z b -> EqAt A s u z b:=fun {l k} eu ez ev ew rc => by
   by_cases hlk:l = k
   ·subst hlk
    rw [ev] at rx; rw [ew] at ry
    have:=R.inj x y _ rx ry
    subst this
    rw [zO _ _ _ h,eu,ez]
    exact EqAt.same _
   ·rw [eu,ez] at rc ⊢; exact EqAt.of_refs hlk rc
  have flatCase:∀ {p q:V},flat x = some p -> flat y = some q -> b = zu p q -> EqAt A s u z b:=fun {p q} e1 e2 eb => by
   obtain ⟨rfl,f1⟩:=dJ rx e1
   obtain ⟨rfl,f2⟩:=dJ ry e2
   rw [eb]; exact zT ru rz f1 f2
  have flatAll:(∀ xs,x ≠ .tup xs) -> (∀ xs,x ≠ .lst xs) -> ∀ p,flat x = some p -> EqAt A s u z b:=fun _ _ p e1 => by
   cases y with
   | tup ys => cases x <;> first | (simp [eF,flat] at h; done) | (cases e1; done)
   | lst ys => cases x <;> first | (simp [eF,flat] at h; done) | (cases e1; done)
   | dct => cases x <;> first | (simp [eF,flat] at h; done) | (cases e1; done)
   | non => exact flatCase e1 rfl (by cases x <;> first | (cases e1; simpa [eF,flat] using h.symm) | cases e1)
   | bl q => exact flatCase e1 rfl (by cases x <;> first | (cases e1; simpa [eF,flat] using h.symm) | cases e1)
   | int q => exact flatCase e1 rfl (by cases x <;> first | (cases e1; simpa [eF,flat] using h.symm) | cases e1)
   | str q => exact flatCase e1 rfl (by cases x <;> first | (cases e1; simpa [eF,flat] using h.symm) | cases e1)
  cases x with
  | dct => simp [eF,flat] at h
  | non => exact ⟨flatAll (fun _ z => nomatch z) (fun _ z => nomatch z) _ rfl,fun ⟨xs,z⟩ => by rcases z with z | z <;> cases z⟩
  | bl q => exact ⟨flatAll (fun _ z => nomatch z) (fun _ z => nomatch z) _ rfl,fun ⟨xs,z⟩ => by rcases z with z | z <;> cases z⟩
  | int q => exact ⟨flatAll (fun _ z => nomatch z) (fun _ z => nomatch z) _ rfl,fun ⟨xs,z⟩ => by rcases z with z | z <;> cases z⟩
  | str q => exact ⟨flatAll (fun _ z => nomatch z) (fun _ z => nomatch z) _ rfl,fun ⟨xs,z⟩ => by rcases z with z | z <;> cases z⟩
  | tup xs =>
   cases y with
   | tup ys =>
    obtain ⟨l,vs,rfl,h1,h2⟩:=rx.tup
    obtain ⟨k,ws,rfl,g1,g2⟩:=ry.tup
    cases ru; cases rz
    obtain ⟨is,v1,p1,_⟩:=I.tuple (.of (m _ _ h1))
    obtain ⟨js,v2,p2,_⟩:=I.tuple (.of (m _ _ g1))
    have s1:is.toArray.size = xs.length:=by rw [List.size_toArray,<- v1.length,h2.length]
    have s2:js.toArray.size = ys.length:=by rw [List.size_toArray,<- v2.length,g2.length]
    have rc:RcAt A s (.ref l) (.ref k) b:= by
     unfold eF at h
     cases q:eF.go n xs ys with
     | none => rw [q] at h; cases h
     | some b' =>
      rw [q] at h; cases h
      obtain ⟨e,he,hb⟩:=kq q
      have:=RcAt.tuples p1 p2 hu' (items h2 g2 v1 v2 he)
      rw [s1,s2,<- hb] at this
      exact this
    exact ⟨refs rfl rfl rfl rfl rc,fun _ => rc⟩
   | _ => simp [eF,flat] at h
  | lst xs =>
   cases y with
   | lst ys =>
    obtain ⟨l,vs,rfl,h1,h2⟩:=rx.lst
    obtain ⟨k,ws,rfl,g1,g2⟩:=ry.lst
    cases ru; cases rz
    obtain ⟨is,v1,p1,_⟩:=I.list (.inl (Rd.mono m h1))
    obtain ⟨js,v2,p2,_⟩:=I.list (.inl (Rd.mono m g1))
    have s1:is.toArray.size = xs.length:=by rw [List.size_toArray,<- v1.length,h2.length]
    have s2:js.toArray.size = ys.length:=by rw [List.size_toArray,<- v2.length,g2.length]
    have rc:RcAt A s (.ref l) (.ref k) b:= by
     unfold eF at h
     split at h
     ·rename_i hl
      obtain ⟨e,he,hb⟩:=kq h
      have:=RcAt.lists p1.isList p2.isList (by rw [s1,s2,hl]) hu' (items h2 g2 v1 v2 he)
      rw [hb,<- hl,Nat.min_self,<- s1]; exact this
     ·rename_i hl
      cases h
      exact RcAt.lists_lengths p1.isList p2.isList (by rw [s1,s2]; simpa using hl) hu'
    exact ⟨refs rfl rfl rfl rfl rc,fun _ => rc⟩
   | _ => simp [eF,flat] at h
theorem jk {k:Nat} {A:Around} (hr:c5 k A):A.units + 20 < cLine:=by have:=hr.un; omega
def ng:D -> D -> Bool
 | .tup _,.tup _ => true
 | .lst _,.lst _ => true
 | _,_ => false
def i_ (neg:Bool) (x y:D):Option D:=if ng x y = true then (eF 9 x y).map fun b => .bl (if neg then !b else b) else dg neg x y
def G7:R2:=fun v u H Q => JE v u H Q ∨ ∃ (Hh:Hp) (x y:D) (b:Bool),(∀ b o,Hh b = some o -> H b = some o) ∧ R Hh x v ∧ R Hh y u ∧ ng x y = true ∧ eF 9 x y = some b ∧ Q (.bl b) H
theorem sR (hu:X.A.units + 20 < cLine):gf X (compareOp .Eq) G7:= by
 intro pins s σ H v w u z Q I ru rz h
 rcases h with h | ⟨Hh,x,y,b,m,rx,ry,hs,e,q⟩
 ·exact zM pins s σ H v w u z Q I ru rz h
 ·have:=(t8 I m 9 X.A (by omega) x y v w u z b rx ry ru rz e).2 (by
   cases x <;> first | exact ⟨_,.inl rfl⟩ | exact ⟨_,.inr rfl⟩ | (simp [ng] at hs))
  exact this _ _ _ _ ⟨.bl b,H,I,rfl,q⟩
theorem BO:qk G7 (i_ false):=fun c δ S σ T H x y v u d Q s e k => by
 unfold i_ at e
 split at e
 ·rename_i hs
  cases q:eF 9 x y with
  | none => rw [q] at e; cases e
  | some b =>
   rw [q] at e; cases e
   exact .inr ⟨_,x,y,b,bo,s.st.tail.head,s.st.head,hs,q,k _ _ (s.stk (.cons .mkB s.st.tail.tail))⟩
 ·exact .inl (pL c δ S σ T H x y v u d Q s e k)
theorem x8 {k:Nat} (hr:c5 k X.A) (ha:DE X a fa) (hb:DE X b fb):DT X (.Compare a [.Eq] [b] pos) (m2 (i_ false) fa fb >>= cx):=fk (sR (jk hr)) BO ha hb
end
end Jt
namespace Jt
open PySem L2
section
variable {X:Cx} {a b e:Expr} {fa fb:M D} {fs:M (List D)} {pos p apos cpos:Pos} {es rest:List Expr} {x:Str}
open SeqAt in
theorem Ec {pins:List (Addr × Obj)} {σ:St} {H Hh:Hp} {s:Shared} (I:Inv X pins σ H s) (m:∀ b o,Hh b = some o -> H b = some o) {n:Nat} {A:Around} (hu:A.units + (n + 1) < cLine) {x y:D} {v w:V} {u z:Value} {b:Bool} (rx:R Hh x v) (ry:R Hh y w) (ru:RelV v u) (rz:RelV w z)
  (hs:ng x y = true) (h:eF (n + 1) x y = some b):RcNeAt A s u z (!b):= by
 have hu':A.units < cLine:=by omega
 have items:∀ {xs ys:List D} {vs ws:List V} {is js:List Value} {e:Nat -> Bool},Rs Hh xs vs -> Rs Hh ys ws -> Vals vs is -> Vals ws js -> (∀ (j:Nat) x y,xs[j]? = some x -> ys[j]? = some y -> eF n x y = some (e j)) ->
   ∀ j (h1:j < is.toArray.size) (h2:j < js.toArray.size),EqAt A.in1 s is.toArray[j] js.toArray[j] (e j):=fun {xs ys vs ws is js e} r1 r2 v1 v2 he j h1 h2 => by
  have l1:j < xs.length:=by rw [<- r1.length,v1.length]; simpa using h1
  have l2:j < ys.length:=by rw [<- r2.length,v2.length]; simpa using h2
  obtain ⟨v',e1,q1⟩:=r1.get (List.getElem?_eq_getElem l1)
  obtain ⟨w',e2,q2⟩:=r2.get (List.getElem?_eq_getElem l2)
  obtain ⟨u',e3,q3⟩:=v1.get e1
  obtain ⟨z',e4,q4⟩:=v2.get e2
  have:=(t8 I m n A.in1 (by show A.units + 1 + n < _; omega) _ _ v' w' u' z' (e j) q1 q2 q3 q4 (he j _ _ (List.getElem?_eq_getElem l1) (List.getElem?_eq_getElem l2))).1
  have a1:is.toArray[j] = u':= by
   have:=(List.getElem?_eq_some_iff.mp e3).2
   simpa using this
  have a2:js.toArray[j] = z':= by
   have:=(List.getElem?_eq_some_iff.mp e4).2
   simpa using this
  rw [a1,a2]; exact this
 cases x with
 | tup xs =>
  cases y with
  | tup ys =>
   obtain ⟨l,vs,rfl,h1,h2⟩:=rx.tup
   obtain ⟨k,ws,rfl,g1,g2⟩:=ry.tup
   cases ru; cases rz
   obtain ⟨is,v1,p1,_⟩:=I.tuple (.of (m _ _ h1))
   obtain ⟨js,v2,p2,_⟩:=I.tuple (.of (m _ _ g1))
   have s1:is.toArray.size = xs.length:=by rw [List.size_toArray,<- v1.length,h2.length]
   have s2:js.toArray.size = ys.length:=by rw [List.size_toArray,<- v2.length,g2.length]
   unfold eF at h
   cases q:eF.go n xs ys with
   | none => rw [q] at h; cases h
   | some b' =>
    rw [q] at h; cases h
    obtain ⟨e,he,hb⟩:=kq q
    have:=RcNeAt.tuples p1 p2 hu' (items h2 g2 v1 v2 he)
    rw [s1,s2,<- hb] at this
    exact this
  | _ => simp [ng] at hs
 | lst xs =>
  cases y with
  | lst ys =>
   obtain ⟨l,vs,rfl,h1,h2⟩:=rx.lst
   obtain ⟨k,ws,rfl,g1,g2⟩:=ry.lst
   cases ru; cases rz
   obtain ⟨is,v1,p1,_⟩:=I.list (.inl (Rd.mono m h1))
   obtain ⟨js,v2,p2,_⟩:=I.list (.inl (Rd.mono m g1))
   have s1:is.toArray.size = xs.length:=by rw [List.size_toArray,<- v1.length,h2.length]
   have s2:js.toArray.size = ys.length:=by rw [List.size_toArray,<- v2.length,g2.length]
   unfold eF at h
   split at h
   ·rename_i hl
    obtain ⟨e,he,hb⟩:=kq h
    have:=RcNeAt.lists p1.isList p2.isList (by rw [s1,s2,hl]) hu' (items h2 g2 v1 v2 he)
    rw [hb,<- hl,Nat.min_self,<- s1]; exact this
   ·rename_i hl
    cases h
    exact RcNeAt.lists_lengths p1.isList p2.isList (by rw [s1,s2]; simpa using hl) hu'
  | _ => simp [ng] at hs
 | _ => simp [ng] at hs
def Iq:R2:=fun v u H Q => JQ v u H Q ∨ ∃ (Hh:Hp) (x y:D) (b:Bool),(∀ b o,Hh b = some o -> H b = some o) ∧ R Hh x v ∧ R Hh y u ∧ ng x y = true ∧ eF 9 x y = some b ∧ Q (.bl (!b)) H
theorem tP (hu:X.A.units + 20 < cLine):gf X (compareOp .NotEq) Iq:= by
 intro pins s σ H v w u z Q I ru rz h
 rcases h with h | ⟨Hh,x,y,b,m,rx,ry,hs,e,q⟩
 ·exact Dp pins s σ H v w u z Q I ru rz h
 ·exact Ec I m (n:=8) (A:=X.A) (by omega) rx ry ru rz hs e _ _ _ _ ⟨.bl (!b),H,I,rfl,q⟩
theorem BP:qk Iq (i_ true):=fun c δ S σ T H x y v u d Q s e k => by
 unfold i_ at e
 split at e
 ·rename_i hs
  cases q:eF 9 x y with
  | none => rw [q] at e; cases e
  | some b =>
   rw [q] at e; cases e
   exact .inr ⟨_,x,y,b,bo,s.st.tail.head,s.st.head,hs,q,k _ _ (s.stk (.cons .mkB s.st.tail.tail))⟩
 ·exact .inl (u9 c δ S σ T H x y v u d Q s e k)
theorem gY {k:Nat} (hr:c5 k X.A) (ha:DE X a fa) (hb:DE X b fb):DT X (.Compare a [.NotEq] [b] pos) (m2 (i_ true) fa fb >>= cx):=fk (tP (jk hr)) BP ha hb
def Iz (ta:TA):TE:=fun σ H Q => ta σ H fun vs H1 => ∃ j:Int,vs = [.int j] ∧ ∀ q,H1 q = none -> Q (.ref q) (upd H1 q (.rng 0 j))
theorem wy {ta:TA} (hg:Gl X "range") (hm:X.mg "range" = none) (ha:PA X [a] ta) (hs:starEach [a] X.env = [(false,eval a X.env)]:=by rfl):PE X (.Call (.Name "range" p) [a] [] pos) (Iz ta):= by
 intro pins s σ H Q I h
 refine PyProof.Rows.Call_ (fO I hg hm (show bootBuiltins "range" = some (.type "range") by decide +kernel) (PyProof.Rows.callWith_type1 (cW (ha pos pins s σ H _ I h) fun us s1 ⟨vs,H1,I1,r1,q1⟩ => ?_) hs rfl))
 obtain ⟨j,e,q⟩:=q1
 subst e
 cases r1 with
 | cons r rr =>
  cases rr
  obtain ⟨t,rfl⟩:=r
  refine call_range_1 ⟨.ref s1.heap.objs.size,upd H1 s1.heap.objs.size (.rng 0 j),I1.laid (fun b u e => Heap.get?_push_of_some _ e) (Nat.le_refl _) ?_,rfl,q _ I1.fresh⟩
  exact ⟨_,_,_,Heap.get?_push_size _ rfl⟩
theorem tR {lo:Int} {n:Nat} {acc:Array Value} (h:ItemsOf (fun i v => ∃ t,v = .int (lo + i * 1) t) acc n):Vals ((List.range n).map fun (i:Nat) => V.int (lo + (i:Int))) acc.toList:= by
 obtain ⟨hn,hi⟩:=h
 have gen:∀ (us:List Value) (k:Nat),(∀ (j:Nat) v,us[j]? = some v -> ∃ t,v = .int (lo + ((k + j:Nat):Int)) t) -> Vals ((List.range us.length).map fun (i:Nat) => V.int (lo + ((k + i:Nat):Int))) us:= by
  intro us
  induction us with
  | nil => intro k _; exact .nil
  | cons u us ih =>
   intro k hk
   rw [List.length_cons,List.range_succ_eq_map,List.map_cons,List.map_map]
   obtain ⟨t,e⟩:=hk 0 u rfl
   refine .cons ⟨t,by simpa using e⟩ ?_
   have:=ih (k + 1) fun j v hj => by
    obtain ⟨t,e⟩:=hk (j + 1) v (by simpa using hj)
    exact ⟨t,by rw [e]; congr 2; omega⟩
   have e2:((fun (i:Nat) => V.int (lo + ((k + i:Nat):Int))) ∘ Nat.succ) = fun (i:Nat) => V.int (lo + ((k + 1 + i:Nat):Int)):= by
    funext i; show V.int _ = V.int _; congr 2; omega
   rw [e2]; exact this
 have:=gen acc.toList 0 fun j v hj => by
  obtain ⟨t,e⟩:=hi j v (by simpa using hj)
  exact ⟨t,by rw [e]; simp⟩
 simpa [hn] using this
theorem sJ (hc:X.calm = true):d4 X (.type "list") (fun xs H Q => ∃ q j,xs = [.ref q] ∧ H q = some (.rng 0 j) ∧ j < 100000 ∧ -(2 ^ 62) ≤ j ∧ ∀ l,H l = none -> Q (.ref l) (upd H l (.lst ((List.range j.toNat).map fun (i:Nat) => V.int (0 + (i:Int)))))):= by
 intro pins s σ H xs us Q I r h
 obtain ⟨q,j,rfl,hq,hj,hj2,k⟩:=h
 obtain ⟨u,rfl,rx⟩:=r.one
 cases rx
 obtain ⟨t,u',v,hr⟩:=I.hok q _ hq
 refine call_list_range (n:=j.toNat) (I.ok.hd hc) hr (small_one (by omega) (by omega) hj2 (by omega)) (by rw [rangeSize_one]; split <;> omega) (by omega) fun h' tk acc' c' kp e hi => ?_
 refine ⟨.ref s.heap.objs.size,_,I.laid (t':=tk) kp (Nat.le_refl _) (show eD X.prog X.w _ h' _ (.lst _) from ⟨?_,acc'.toList,c',tR hi,by simpa using e⟩),rfl,k _ I.fresh⟩
 have:(100000:Nat) < sizeLine:=by rw [sizeLine_eq]; decide
 simp; omega
def C6:List D -> Option (List D)
 | [.int j] => if j < 100000 ∧ -(2 ^ 62) ≤ j then some (bL 0 j.toNat) else none
 | _ => none
theorem xJ {H:Hp} {lo:Int} {n:Nat}:Rs H (bL lo n) ((List.range n).map fun (i:Nat) => V.int (lo + (i:Int))):= by
 unfold bL
 induction (List.range n) with
 | nil => exact .nil
 | cons i r ih => exact .cons .mkI ih
theorem yW {p2 pos2:Pos} (hml:X.mg "list" = none) (hmr:X.mg "range" = none) (ha:DA X [a] fs) (hgl:Gl X "list":=by rfl) (hgr:Gl X "range":=by rfl) (hc:X.calm = true:=by rfl) (hs:starEach [a] X.env = [(false,eval a X.env)]:=by rfl) :
  DF X (.Call (.Name "list" p) [.Call (.Name "range" p2) [a] [] pos2] [] pos) (mC C6 fs) :=
 cT (fX (sJ hc) hgl hml (by decide +kernel) (er (wy hgr hmr ha hs) ir) (by decide) (by decide) rfl rfl) fun σ H Q ⟨c,δ,S,T,d,δ',s,e,k⟩ => by
  obtain ⟨ds,δ1,e1,e⟩:=bind_some e
  obtain ⟨e2,rfl⟩:=aE e
  refine ⟨c,δ,S,T,ds,δ1,s,e1,fun vs H1 l s1 => ?_⟩
  unfold C6 at e2
  split at e2
  ·rename_i j
   split at e2
   ·rename_i hj
    cases e2
    obtain ⟨v,rfl,r⟩:=wC (s1.st.left l)
    cases r.int
    refine ⟨j,rfl,fun q hq => ⟨q,j,rfl,aV,hj.1,hj.2,fun m hm => ?_⟩⟩
    have s2:=(s1.drop l).grow (il hq (.rng 0 j))
    obtain ⟨f1,f2,f3⟩:=s2.fresh hm
    refine k m _ _ (xJ (H:=H)).length ((s2.hide hm).stk ?_) f1 f2 f3
    exact xJ.append (s2.hide hm).st
   ·cases e2
  ·cases e2
end
end Jt
namespace Jt
open PySem L2
section
variable {prog:Program} {w:World} {A:Around} {E:Value -> Shared -> Prop} {s:Shared}
end
section
variable {X:Cx} {a b e:Expr} {fa fb:M D} {fs:M (List D)} {pos p apos cpos:Pos}
end
end Jt
namespace Jt
open PySem L2
section
variable {X:Cx} {a b e:Expr} {fa fb:M D} {fs:M (List D)} {pos p apos cpos:Pos}
inductive Ty where
 | int | bool | tup | lst | str
def Ty.name:Ty -> String
 | .int => "int"
 | .bool => "bool"
 | .tup => "tuple"
 | .lst => "list"
 | .str => "str"
def pJ:Ty -> D -> Option Bool
 | .int,.int _ => some true
 | .int,.bl _ => some true
 | .bool,.bl _ => some true
 | .tup,.tup _ => some true
 | .lst,.lst _ => some true
 | .str,.str _ => some true
 | _,_ => some false
theorem dictAt {pins:List (Addr × Obj)} {σ:St} {H:Hp} {s:Shared} {a:Addr} (I:Inv X pins σ H s) (h:H a = some (mU a)):∃ o,s.heap.get? a = some o ∧ o.cls = .type "dict":= by
 obtain ⟨⟨_,o,_,h1,h2,_⟩,_⟩:=I.hok a _ h
 exact ⟨o,h1,h2⟩
theorem x_:d4 X (.builtin "isinstance") (fun xs H Q => ∃ (Hh:Hp) (d:D) (v:V) (T:Ty) (k:Bool),xs = [v,.ty T.name] ∧ (∀ b o,Hh b = some o -> H b = some o) ∧ R Hh d v ∧ pJ T d = some k ∧ Q (.bl k) H):= by
 intro pins s σ H xs us Q I r h
 obtain ⟨Hh,d,v,T,k,rfl,m,rd,ek,q⟩:=h
 obtain ⟨u,z,rfl,ru,rz⟩:=r.two
 cases rz
 have fin:∀ tk,EP X pins σ Q (.bool k) { s with toks:=tk }:=fun tk => ⟨.bl k,H,I.tok _,rfl,q⟩
 have fin0:EP X pins σ Q (.bool k) s:=⟨.bl k,H,I,rfl,q⟩
 cases d with
 | non =>
  cases rd.non
  cases ru
  cases T <;> cases ek
  ·exact IsiPair.NoneType_int (fin _)
  ·exact IsiPair.NoneType_bool (fin _)
  ·exact IsiPair.NoneType_tuple (fin _)
  ·exact IsiPair.NoneType_list (fin _)
  ·exact IsiPair.NoneType_str (fin _)
 | int i =>
  cases rd.int
  obtain ⟨t,rfl⟩:=ru
  cases T <;> cases ek
  ·exact IsiPair.int_int fin0
  ·exact IsiPair.int_bool (fin _)
  ·exact IsiPair.int_tuple (fin _)
  ·exact IsiPair.int_list (fin _)
  ·exact IsiPair.int_str (fin _)
 | bl i =>
  cases rd.bl
  cases ru
  cases T <;> cases ek
  ·exact IsiPair.bool_int fin0
  ·exact IsiPair.bool_bool fin0
  ·exact IsiPair.bool_tuple (fin _)
  ·exact IsiPair.bool_list (fin _)
  ·exact IsiPair.bool_str (fin _)
 | str i =>
  cases rd.str
  obtain ⟨t,rfl⟩:=ru
  cases T <;> cases ek
  ·exact IsiPair.str_int (fin _)
  ·exact IsiPair.str_bool (fin _)
  ·exact IsiPair.str_tuple (fin _)
  ·exact IsiPair.str_list (fin _)
  ·exact IsiPair.str_str fin0
 | tup ds =>
  obtain ⟨q',vs,rfl,h1,h2⟩:=rd.tup
  cases ru
  obtain ⟨its,_,⟨o,ho,hc,_⟩,_⟩:=I.tuple (.of (m _ _ h1))
  cases T <;> cases ek
  ·exact IsiPair.tuple_int ho hc (fin _)
  ·exact IsiPair.tuple_bool ho hc (fin _)
  ·exact IsiPair.tuple_tuple ho hc fin0
  ·exact IsiPair.tuple_list ho hc (fin _)
  ·exact IsiPair.tuple_str ho hc (fin _)
 | lst ds =>
  obtain ⟨q',vs,rfl,h1,h2⟩:=rd.lst
  cases ru
  obtain ⟨its,_,pl,_⟩:=I.list (.inl (Rd.mono m h1))
  obtain ⟨o,ho,hc,_⟩:=pl.isList
  cases T <;> cases ek
  ·exact IsiPair.list_int ho hc (fin _)
  ·exact IsiPair.list_bool ho hc (fin _)
  ·exact IsiPair.list_tuple ho hc (fin _)
  ·exact IsiPair.list_list ho hc fin0
  ·exact IsiPair.list_str ho hc (fin _)
 | dct =>
  obtain ⟨q',rfl,h1⟩:=rd.dct
  cases ru
  obtain ⟨o,ho,hc⟩:=dictAt I (m _ _ h1)
  cases T <;> cases ek
  ·exact IsiPair.dict_int ho hc (fin _)
  ·exact IsiPair.dict_bool ho hc (fin _)
  ·exact IsiPair.dict_tuple ho hc (fin _)
  ·exact IsiPair.dict_list ho hc (fin _)
  ·exact IsiPair.dict_str ho hc (fin _)
def jl (T:Ty) (fa:M D):M D:=do
 let d <- fa
 let k <- lift (pJ T d)
 pure (.bl k)
theorem IA (T:Ty) {y:Str} {py:Pos} (hg:Gl X y) (hm:X.mg y = none) (hv:bootBuiltins y = some (.type T.name)) (hn:y ≠ "__name__":=by decide) (hd:(y == ("__debug__":Str)) = false:=by decide):PE X (.Name y py) (tC (.ty T.name)):=B3 hg hm hv rfl hn hd
theorem gJ (T:Ty) {y:Str} {py:Pos} (hmi:X.mg "isinstance" = none) (hmy:X.mg y = none) (ha:DE X a fa) (hv:bootBuiltins y = some (.type T.name):=by decide +kernel) (hgi:Gl X "isinstance":=by rfl) (hgy:Gl X y:=by rfl) (hn:y ≠ "__name__":=by decide) (hd:(y == ("__debug__":Str)) = false:=by decide)
  (he:starEach [a,.Name y py] X.env = (false,eval a X.env) :: starEach [.Name y py] X.env:=by rfl):DE X (.Call (.Name "isinstance" p) [a,.Name y py] [] pos) (jl T fa) :=
 cT (g9 x_ hgi hmi (by decide +kernel) (er ha (er (IA T hgy hmy hv hn hd) ir) he) (by decide) (by decide) he rfl) fun σ H Q ⟨c,δ,S,TT,d,δ',s,e,k⟩ => by
  obtain ⟨x,δ1,e1,e⟩:=bind_some e
  obtain ⟨b,δ2,e2,e⟩:=bind_some e
  obtain ⟨e3,rfl⟩:=aE e2
  obtain ⟨rfl,rfl⟩:=ar e
  exact ⟨c,δ,S,TT,x,δ1,s,e1,fun v H1 s1 => ⟨_,x,v,T,b,rfl,bo,s1.st.head,e3,k _ _ (s1.stk (.cons .mkB s1.st.tail))⟩⟩
end
end Jt
namespace Jt
open PySem L2
def vQ (x:Int):List Int -> List Int
 | [] => [x]
 | y :: r => if x ≤ y then x :: y :: r else y :: vQ x r
def dA:List Int -> List Int
 | [] => []
 | x :: r => vQ x (dA r)
theorem kB (x:Int):∀ l,(vQ x l).Perm (x :: l)
 | [] => List.Perm.refl _
 | y :: r => by
  unfold vQ
  split
  ·exact List.Perm.refl _
  ·exact ((kB x r).cons y).trans (List.Perm.swap _ _ _)
theorem eW:∀ l,(dA l).Perm l
 | [] => List.Perm.refl _
 | x :: r => (kB x _).trans ((eW r).cons x)
theorem u7 (x:Int):∀ l:List Int,l.Pairwise (· ≤ ·) -> (vQ x l).Pairwise (· ≤ ·)
 | [],_ => List.pairwise_singleton _ _
 | y :: r,h => by
  obtain ⟨h1,h2⟩:=List.pairwise_cons.mp h
  unfold vQ
  split
  ·rename_i hx
   refine List.pairwise_cons.mpr ⟨fun z hz => ?_,h⟩
   rcases List.mem_cons.mp hz with e | hz
   ·rw [e]; exact hx
   ·exact Int.le_trans hx (h1 z hz)
  ·rename_i hx
   refine List.pairwise_cons.mpr ⟨fun z hz => ?_,u7 x r h2⟩
   rcases List.mem_cons.mp ((kB x r).mem_iff.mp hz) with e | hz
   ·rw [e]; omega
   ·exact h1 z hz
theorem lJ:∀ l,(dA l).Pairwise (· ≤ ·)
 | [] => List.Pairwise.nil
 | x :: r => u7 x _ (lJ r)
theorem oU:∀ {a b:List Int},a.Perm b -> a.Pairwise (· ≤ ·) -> b.Pairwise (· ≤ ·) -> a = b
 | [],b,p,_,_ => (List.nil_perm.mp p).symm
 | x :: a,[],p,_,_ => absurd p (by simp)
 | x :: a,y :: b,p,ha,hb => by
  obtain ⟨a1,a2⟩:=List.pairwise_cons.mp ha
  obtain ⟨b1,b2⟩:=List.pairwise_cons.mp hb
  have e:x = y:= by
   have hx:x ∈ y :: b:=p.mem_iff.mp List.mem_cons_self
   have hy:y ∈ x :: a:=p.mem_iff.mpr List.mem_cons_self
   rcases List.mem_cons.mp hx with e | hx
   ·exact e
   ·rcases List.mem_cons.mp hy with e | hy
    ·exact e.symm
    ·exact Int.le_antisymm (a1 y hy) (b1 x hx)
  subst e
  rw [oU ((List.perm_cons x).mp p) a2 b2]
theorem yj {a b:List Int} (p:a.Perm b) (h:a.Pairwise (· ≤ ·)):a = dA b:=oU (p.trans (eW b).symm) h (lJ b)
def jY:List Int -> List Int
 | [] => []
 | x :: r => if x ∈ jY r then jY r else x :: jY r
theorem ee {z:Int}:∀ {l:List Int},z ∈ jY l ↔ z ∈ l
 | [] => Iff.rfl
 | x :: r => by
  unfold jY
  split
  ·rename_i h
   rw [ee,List.mem_cons]
   exact ⟨.inr,fun q => q.elim (fun e => e ▸ ee.mp h) id⟩
  ·rw [List.mem_cons,List.mem_cons,ee]
theorem eS:∀ (l:List Int),(jY l).Nodup
 | [] => List.nodup_nil
 | x :: r => by
  unfold jY
  split
  ·exact eS r
  ·rename_i h; exact List.nodup_cons.mpr ⟨h,eS r⟩
theorem xf {a b:List Int} (nd:a.Nodup) (h:∀ z,z ∈ a ↔ z ∈ b):a.Perm (jY b):= by
 refine (List.perm_ext_iff_of_nodup nd (eS b)).mpr fun z => ?_
 rw [h z,ee]
inductive JS (K:PySem.W.Frag) (f:M (List D)) (σ:St) (H:Hp) (Q:VK):Prop
 | mk (c:Ct) (δ:DS) (S:List D) (T:List V) (xs:List D) (δ':DS) (s:Sl c δ S σ T H) (e:f δ = some (xs,δ')) (q:∀ p vs H',vs.length = xs.length -> (iY K H' p vs ∨ i4 K H' p vs) -> Sl c δ' (xs ++ S) σ (vs ++ T) H' -> Q (.ref p) H'):JS K f σ H Q
abbrev DQ (X:Cx) (e:Expr) (f:M (List D)):Prop:=PE X e (JS X.K f)
section
variable {X:Cx} {a b e:Expr} {fa fb:M D} {fs fF fq:M (List D)} {pos p apos cpos:Pos} {es rest:List Expr} {x:Str}
theorem qJ (h:DE X e fa):DQ X e (do let x <- fa; lift (fK x)):=cT h fun σ H Q ⟨c,δ,S,T,xs,δ',s,e,k⟩ => by
 obtain ⟨d,δ1,e1,e⟩:=bind_some e
 obtain ⟨e2,rfl⟩:=aE e
 refine ⟨c,δ,S,T,d,δ1,s,e1,fun v H' s' => ?_⟩
 cases d with
 | tup ds =>
  cases e2
  obtain ⟨q,vs,rfl,h1,h2⟩:=s'.st.head.tup
  exact k q vs H' h2.length (.inr (.of (bo _ _ h1))) (s'.stk (h2.append s'.st.tail))
 | lst ds =>
  cases e2
  obtain ⟨q,vs,rfl,h1,h2⟩:=s'.st.head.lst
  exact k q vs H' h2.length (.inl (.inl (Rd.mono bo h1))) (s'.stk (h2.append s'.st.tail))
 | _ => cases e2
theorem Inv.kd {pins:List (Addr × Obj)} {σ:St} {H:Hp} {s:Shared} {h':Heap} {t':Nat} {d':Drawn} (I:Inv X pins σ H s) (k:∀ b u,s.heap.get? b = some u -> h'.get? b = some u):Inv X pins σ H { s with heap:=h',toks:=t',drawn:=d' }:= by
 have I1:=I.kept (t':=t') k
 exact ⟨I1.ok,I1.os,I1.bare,I1.base,I1.loc,I1.cell,I1.free,I1.freeC,I1.pin,I1.hok,I1.len⟩
theorem iR {ns:List Int}:∀ {us:List Value},PyProof.Rows.IntsAre us ns -> Vals (ns.map V.int) us:= by
 induction ns with
 | nil => intro us h; cases h; exact .nil
 | cons n ns ih =>
  intro us h
  cases h with
  | cons _ t h => exact .cons ⟨t,rfl⟩ (ih h)
theorem sE {pins:List (Addr × Obj)} {σ:St} {H:Hp} {s:Shared} {ns ms:List Int} {Q:VK} {h1 h':Heap} {tk:Nat} {d:Drawn} {out:List Value} {e:Nat} (I:Inv X pins σ H s) (k:∀ b o,s.heap.get? b = some o -> h1.get? b = some o) (k2:∀ b o,h1.get? b = some o -> h'.get? b = some o)
  (hg:h'.get? h1.objs.size = some { cls:=.type "list",data:=.seq out.toArray e }) (hi:PyProof.Rows.IntsAre out ms) (hp:ms.Perm ns) (hu:ms.Pairwise (· ≤ ·)) (hl:ns.length < 64) (q:∀ l,H l = none -> Q (.ref l) (upd H l (.lst ((dA ns).map V.int)))) :
  EP X pins σ Q (.ref h1.objs.size) { s with heap:=h',toks:=tk,drawn:=d }:= by
 have I1:Inv X pins σ H { s with heap:=h1,toks:=tk,drawn:=d }:=Inv.kd I k
 have em:=yj hp hu
 refine ⟨.ref h1.objs.size,_,I1.laid (t':=tk) (o:=.lst ((dA ns).map V.int)) k2 (Nat.le_refl _) ⟨?_,out,e,em ▸ iR hi,hg⟩,rfl,q _ (I1.hok.fresh (Nat.le_refl _))⟩
 rw [List.length_map,<- em,hp.length_eq,sizeLine_eq]
 omega
theorem ra:d4 X (.builtin "sorted") (fun xs H Q => ∃ p ns,xs = [.ref p] ∧ (iY X.K H p (ns.map V.int) ∨ i4 X.K H p (ns.map V.int)) ∧ ns.length < 64 ∧ ∀ l,H l = none -> Q (.ref l) (upd H l (.lst ((dA ns).map V.int)))):= by
 intro pins s σ H xs us Q I r h
 obtain ⟨p,ns,rfl,hq,hl,q⟩:=h
 obtain ⟨u,rfl,ru⟩:=r.one
 cases ru
 refine sk (ns:=ns) (fun A' Q' E' hA hQ' => ?_) hl fun h1 h' tk d out ms e k k2 hg hi hp hu => sE I k k2 hg hi hp hu hl q
 rcases hq with hq | hq
 ·obtain ⟨its,rv,pl,hz⟩:=I.list hq
  obtain ⟨o,ho,hc,n,hd⟩:=pl.isList
  exact wpAny_collect_seq p (.inl rfl) ho hc hd (fun h' k => hQ' _ ns h' s.toks s.drawn (by simpa using intsAre_of rv) (List.Perm.refl _) k) (by rw [List.size_toArray,<- rv.length]; exact hz)
 ·obtain ⟨its,rv,⟨o,ho,hc,n,hd⟩,hz⟩:=I.tuple hq
  exact wpAny_collect_seq p (.inr rfl) ho hc hd (fun h' k => hQ' _ ns h' s.toks s.drawn (by simpa using intsAre_of rv) (List.Perm.refl _) k) (by rw [List.size_toArray,<- rv.length]; exact hz)
def fG:List D -> Option (List Int)
 | [] => some []
 | .int i :: r => (fG r).map (i :: ·)
 | _ => none
theorem pv {H:Hp}:∀ {ds:List D} {vs:List V} {ns:List Int},Rs H ds vs -> fG ds = some ns -> vs = ns.map V.int
 | [],vs,ns,h,e => by cases e; exact h.inv0
 | d :: ds,vs,ns,h,e => by
  obtain ⟨v,r,ev,h1,h2⟩:=h.inv
  cases d with
  | int b =>
   unfold fG at e
   cases q:fG ds with
   | none => rw [q] at e; cases e
   | some bs' =>
    rw [q] at e; cases e
    rw [ev,h1.int,pv h2 q]; rfl
  | _ => cases e
theorem km {H:Hp}:∀ (ns:List Int),Rs H (ns.map D.int) (ns.map V.int)
 | [] => .nil
 | n :: ns => .cons .mkI (km ns)
def sortI (xs:List D):Option (List D):=match fG xs with
 | some ns => if ns.length < 64 then some ((dA ns).map D.int) else none
 | none => none
def mQ {α:Type} (g:List D -> Option α) (f:M (List D)):M α:=do
 let xs <- f
 lift (g xs)
theorem kE (hm:X.mg "sorted" = none) (h:DQ X e fq) (hg:Gl X "sorted":=by rfl) (he:starEach [e] X.env = [(false,eval e X.env)]:=by rfl):DF X (.Call (.Name "sorted" p) [e] [] pos) (mQ sortI fq) :=
 cT (g9 ra hg hm PyProof.Rows.boot_sorted (er h ir he) (by decide) (by decide) he rfl) fun σ H Q ⟨c,δ,S,T,xs,δ',s,e,k⟩ => by
  obtain ⟨ds,δ1,e1,e⟩:=bind_some e
  obtain ⟨e2,rfl⟩:=aE e
  refine ⟨c,δ,S,T,ds,δ1,s,e1,fun q vs H1 l hq s1 => ?_⟩
  unfold sortI at e2
  split at e2
  ·rename_i ns en
   split at e2
   ·rename_i hn
    cases e2
    have ev:=pv (s1.st.left l) en
    subst ev
    refine ⟨q,ns,rfl,hq,hn,fun m hm => ?_⟩
    obtain ⟨f1,f2,f3⟩:=s1.fresh hm
    have s2:=(s1.drop l).hide (o:=.lst ((dA ns).map V.int)) hm
    exact k m _ _ (by simp) (s2.stk ((km _).append s2.st)) f1 f2 f3
   ·cases e2
  ·cases e2
def qS (w:World) (S:Addr) (ns:List Int):HO:=.ext fun h => ∃ l ep t,fw w h S l ep t ∧ (l.map (·.1)).Perm (jY ns)
theorem yd (hc:X.calm = true):d4 X (.type "set") (fun xs H Q => ∃ p ns,xs = [.ref p] ∧ (iY X.K H p (ns.map V.int) ∨ i4 X.K H p (ns.map V.int)) ∧ ns.length < 4000 ∧ ∀ l,H l = none -> Q (.ref l) (upd H l (qS X.w l ns))):= by
 intro pins s σ H xs us Q I r h
 obtain ⟨p,ns,rfl,hq,hl,q⟩:=h
 obtain ⟨u,rfl,ru⟩:=r.one
 cases ru
 have fin:∀ (h':Heap) (tk:Nat) (ls:List (Int × Tok)) (ep:Nat) (t:SetTable),fw X.w h' s.heap.objs.size ls ep t -> (ls.map (·.1)).Nodup -> (∀ z,z ∈ ls.map (·.1) ↔ z ∈ ns) -> (∀ b o,s.heap.get? b = some o -> h'.get? b = some o) ->
   EP X pins σ Q (.ref s.heap.objs.size) { s with heap:=h',toks:=tk }:=fun h' tk ls ep t x nd mem k => by
  refine ⟨.ref s.heap.objs.size,_,I.laid (t':=tk) (o:=qS X.w s.heap.objs.size ns) k (Nat.le_refl _) ⟨⟨ls,ep,t,x,xf nd mem⟩,?_,fun h1 h2 ⟨l,ep,t,x,p⟩ k => ⟨l,ep,t,x.at k,p⟩⟩,rfl,q _ I.fresh⟩
  obtain ⟨o,ho,_⟩:=x.obj
  exact ⟨o,ho⟩
 rcases hq with hq | hq
 ·obtain ⟨its,rv,pl,hz⟩:=I.list hq
  have hn:its.toArray.size = ns.length:=by rw [List.size_toArray,<- rv.length,List.length_map]
  exact we (ns:=ns) (I.ok.hd hc) pl.isList (by simpa using intsAre_of rv) (by rw [hn]; show _ < 4096; omega) fin
 ·obtain ⟨its,rv,pl,hz⟩:=I.tuple hq
  have hn:its.toArray.size = ns.length:=by rw [List.size_toArray,<- rv.length,List.length_map]
  exact vD (ns:=ns) (I.ok.hd hc) (show s.heap.IsTuple p its.toArray from pl) (by simpa using intsAre_of rv) (by rw [hn]; show _ < 4096; omega) fin
theorem r8:d4 X (.builtin "len") (fun xs H Q => ∃ p ns,xs = [.ref p] ∧ H p = some (qS X.w p ns) ∧ Q (.int (jY ns).length) H):= by
 intro pins s σ H xs us Q I r h
 obtain ⟨p,ns,rfl,hq,q⟩:=h
 obtain ⟨u,rfl,ru⟩:=r.one
 cases ru
 obtain ⟨⟨l,ep,t,x,pm⟩,_⟩:=I.hok p _ hq
 obtain ⟨o,ho,hx,hd⟩:=x.obj
 have hs:(l.map eo).toArray.size = l.length:=by simp
 have hn:l.length = (jY ns).length:=by rw [<- pm.length_eq,List.length_map]
 have hf:=x.few
 have hb:scanBound = 4096:=rfl
 refine call_len_set ho hx hd (by rw [hs]; exact x.fits) (by rw [hs]; omega) ?_
 rw [hs,hn]
 exact ⟨.int _,H,I.tok _,⟨_,rfl⟩,q⟩
def hU (xs:List D):Option D:=match fG xs with
 | some ns => if ns.length < 4000 then some (.int (jY ns).length) else none
 | none => none
def GN (K:PySem.W.Frag) (w:World) (te:TE):TE:=fun σ H Q => te σ H fun x H1 => ∃ p ns,[x] = [V.ref p] ∧ (iY K H1 p (ns.map V.int) ∨ i4 K H1 p (ns.map V.int)) ∧ ns.length < 4000 ∧ ∀ l,H1 l = none -> Q (.ref l) (upd H1 l (qS w l ns))
theorem E5 {te:TE} (hm:X.mg "set" = none) (h:PE X e te) (hg:Gl X "set":=by rfl) (hc:X.calm = true:=by rfl) (he:starEach [e] X.env = [(false,eval e X.env)]:=by rfl):PE X (.Call (.Name "set" p) [e] [] pos) (GN X.K X.w te) :=
 cT (fX (yd hc) hg hm (by decide +kernel) (er h ir he) (by decide) (by decide) he rfl) fun σ H Q h => h
theorem oM {p2 pos2:Pos} (hm:X.mg "len" = none) (hm2:X.mg "set" = none) (h:DQ X e fq) (hg:Gl X "len":=by rfl) (hg2:Gl X "set":=by rfl) (hc:X.calm = true:=by rfl) (he:starEach [e] X.env = [(false,eval e X.env)]:=by rfl) :
  DE X (.Call (.Name "len" p) [.Call (.Name "set" p2) [e] [] pos2] [] pos) (mQ hU fq) :=
 cT (g9 r8 hg hm PySem.boot_len (er (E5 hm2 h hg2 hc he) ir rfl) (by decide) (by decide) rfl rfl) fun σ H Q ⟨c,δ,S,T,xs,δ',s,e,k⟩ => by
  obtain ⟨ds,δ1,e1,e⟩:=bind_some e
  obtain ⟨e2,rfl⟩:=aE e
  refine ⟨c,δ,S,T,ds,δ1,s,e1,fun q vs H1 l hq s1 => ?_⟩
  unfold hU at e2
  split at e2
  ·rename_i ns en
   split at e2
   ·rename_i hn
    cases e2
    have ev:=pv (s1.st.left l) en
    subst ev
    refine ⟨q,ns,rfl,hq,by omega,fun m hm => ⟨m,ns,rfl,aV,?_⟩⟩
    have s2:=(s1.drop l).grow (il hm (qS X.w m ns))
    exact k _ _ (s2.stk (.cons .mkI s2.st))
   ·cases e2
  ·cases e2
def wO (xs ys:List D):Option (List D):=if xs.length + ys.length ≤ 100000 then some (xs ++ ys) else none
end
end Jt
namespace Jt
open PySem L2
inductive Hn where
 | th (x:D) | ls (j:Nat)
def FO (c:Ct) (δ:DS) (S:List D) (σ:St) (T:List V) (H:Hp) (v:V):Hn -> Prop
 | .th d => Sl c δ (d :: S) σ (v :: T) H
 | .ls i => Sl c δ S σ T H ∧ σ[i]? = some (some v)
inductive C8 (f:M Hn) (σ:St) (H:Hp) (Q:VK):Prop
 | mk (c:Ct) (δ:DS) (S:List D) (T:List V) (h:Hn) (δ':DS) (s:Sl c δ S σ T H) (e:f δ = some (h,δ')) (q:∀ v H',FO c δ' S σ T H' v h -> Q v H'):C8 f σ H Q
abbrev DH (X:Cx) (e:Expr) (f:M Hn):Prop:=PE X e (C8 f)
def Hn.ds:Hn -> List D
 | .th z => [z]
 | .ls _ => []
def Hn.vs (v:V):Hn -> List V
 | .th _ => [v]
 | .ls _ => []
theorem Hn.len (v:V) (h:Hn):(h.vs v).length = h.ds.length:=by cases h <;> rfl
def AI (h:Hn):M D:=fun δ => match h with
 | .th d => some (d,δ)
 | .ls i => match δ[i]? with
  | some (.ow _ xs) => some (.lst xs,δ)
  | _ => none
theorem FO.sl {c:Ct} {δ:DS} {S:List D} {σ:St} {T:List V} {H:Hp} {v:V} {h:Hn} (k:FO c δ S σ T H v h):Sl c δ (h.ds ++ S) σ (h.vs v ++ T) H:= by
 cases h with
 | th d => exact k
 | ls i => exact k.1
theorem rb {c:Ct} {δ δ':DS} {S:List D} {σ:St} {T:List V} {H:Hp} {v:V} {h:Hn} {d:D} (s:Sl c δ S σ T H) (hs:∀ d',h = .th d' -> R (fS c δ σ H) d' v) (ho:∀ i,h = .ls i -> σ[i]? = some (some v)) (e:AI h δ = some (d,δ')):δ = δ' ∧ R H d v ∧
  (∀ xs,d = .lst xs -> ∃ p vs,v = .ref p ∧ Rd H p (.lst vs) ∧ Rs (fS c δ σ H) xs vs) ∧ ((∀ xs,d ≠ .lst xs) -> R (fS c δ σ H) d v):= by
 cases h with
 | th d0 =>
  cases e
  have r:=hs d rfl
  refine ⟨rfl,r.mono bo,fun xs ex => ?_,fun _ => r⟩
  subst ex
  obtain ⟨p,vs,ev,h1,h2⟩:=r.lst
  exact ⟨p,vs,ev,Rd.mono bo h1,h2⟩
 | ls i =>
  unfold AI at e
  dsimp only at e
  split at e
  ·rename_i b xs hx
   cases e
   obtain ⟨p,vs,ev,hp,hr⟩:=s.own hx
   rw [ho i rfl] at ev
   cases ev
   exact ⟨rfl,.mkL (.inl hp) (hr.mono bo),fun ys ey => by cases ey; exact ⟨p,vs,rfl,.inl hp,hr⟩,fun z => absurd rfl (z xs)⟩
  ·cases e
section
variable {X:Cx} {a b e:Expr} {fa fb:M D} {ha' hb':M Hn} {fs fF fq:M (List D)} {pos p apos cpos:Pos} {es rest:List Expr} {x:Str}
theorem fI (h:DE X e fa):DH X e (do let x <- fa; pure (.th x)):=cT h fun σ H Q ⟨c,δ,S,T,h,δ',s,e,k⟩ => by
 obtain ⟨d,δ1,e1,e⟩:=bind_some e
 obtain ⟨rfl,rfl⟩:=ar e
 exact ⟨c,δ,S,T,d,δ1,s,e1,fun v H' s' => k v H' s'⟩
def pV (i:Nat):M Hn:=do
 let _ <- aI i
 pure (.ls i)
theorem j6 (i:Nat) {px:Pos} (hN:X.N[i]? = some x:=by rfl) (hv:vd X.env.scope x:=by first | exact Or.inl rfl | exact Or.inr (Or.inl rfl) | exact Or.inr (Or.inr rfl)) (hd:(x == ("__debug__":Str)) = false:=by decide) (hcd:(x == ("__classdict__":Str)) = false:=by decide) :
  DH X (.Name x px) (pV i):=cT (eU hN hv hd hcd) fun σ H Q ⟨c,δ,S,T,h,δ',s,e,k⟩ => by
 obtain ⟨xs,δ1,e1,e⟩:=bind_some e
 obtain ⟨rfl,rfl⟩:=ar e
 obtain ⟨⟨b,hi⟩,rfl⟩:=bZ e1
 obtain ⟨q,vs,ev,hq,hx⟩:=s.own hi
 exact ⟨_,ev,k _ H ⟨s,ev⟩⟩
def ma {α:Type} (g:D -> D -> Option α) (fa fb:M Hn):M α:=do
 let h1 <- fa
 let h2 <- fb
 let x <- AI h1
 let y <- AI h2
 lift (g x y)
structure nG (c:Ct) (δ:DS) (S:List D) (σ:St) (T:List V) (H:Hp) (x y:D) (v u:V):Prop where
 sl:Sl c δ S σ T H
 rx:R H x v
 ry:R H y u
 lx:∀ xs,x = .lst xs -> ∃ p vs,v = .ref p ∧ Rd H p (.lst vs) ∧ Rs (fS c δ σ H) xs vs
 ly:∀ xs,y = .lst xs -> ∃ p vs,u = .ref p ∧ Rd H p (.lst vs) ∧ Rs (fS c δ σ H) xs vs
theorem ub {α:Type} {r:R2} {g:D -> D -> Option α} {W:Ct -> DS -> List D -> St -> List V -> VK -> α -> Prop}
  (hr:∀ c δ S σ T H x y v u z Q,nG c δ S σ T H x y v u -> g x y = some z -> W c δ S σ T Q z -> r v u H Q) :
  ∀ σ H Q,(∃ c δ S T z δ',Sl c δ S σ T H ∧ ma g ha' hb' δ = some (z,δ') ∧ W c δ' S σ T Q z) -> DK r (C8 ha') (C8 hb') σ H Q:=fun σ H Q ⟨c,δ,S,T,z,δ',s,e,k⟩ => by
 obtain ⟨h1,δ1,e1,e⟩:=bind_some e
 obtain ⟨h2,δ2,e2,e⟩:=bind_some e
 obtain ⟨x,δ3,e3,e⟩:=bind_some e
 obtain ⟨y,δ4,e4,e⟩:=bind_some e
 obtain ⟨e5,rfl⟩:=aE e
 refine ⟨c,δ,S,T,h1,δ1,s,e1,fun v H1 k1 => ?_⟩
 refine ⟨c,δ1,h1.ds ++ S,h1.vs v ++ T,h2,δ2,k1.sl,e2,fun u H2 k2 => ?_⟩
 have s2:=k2.sl
 have s3:Sl c δ2 S σ T H2:=(s2.drop (Hn.len u h2)).drop (Hn.len v h1)
 obtain ⟨rfl,r1,l1,_⟩:=rb s3 (v:=v) (h:=h1) (fun d' ed => by
  subst ed
  exact (s2.drop (Hn.len u h2)).st.head) (fun i ei => by subst ei; exact k1.2) e3
 obtain ⟨rfl,r2,l2,_⟩:=rb s3 (v:=u) (h:=h2) (fun d' ed => by
  subst ed
  exact s2.st.head) (fun i ei => by subst ei; exact k2.2) e4
 exact hr c δ2 S σ T H2 x y v u z Q ⟨s3,r1,r2,l1,l2⟩ e5 k
def HV:R2:=fun x y H Q => ∃ l b xs zs,x = .ref l ∧ y = .ref b ∧ Rd H l (.lst xs) ∧ Rd H b (.lst zs) ∧ xs.length + zs.length ≤ sizeLine ∧ ∀ p,H p = none -> Q (.ref p) (upd H p (.lst (xs ++ zs)))
theorem CB:gf X (binaryOp .Add) HV:= by
 intro pins s σ H x y v u Q I rx ry h
 obtain ⟨l,b,xs,zs,rfl,rfl,hH,hB,hz,q⟩:=h
 cases rx
 cases ry
 obtain ⟨z,its,n,r,e⟩:=hH.ok I.hok
 obtain ⟨z2,its2,n2,r2,e2⟩:=hB.ok I.hok
 refine PySem.P.add_list e e2 ?_ (by rw [List.size_toArray,List.size_toArray,<- r.length,<- r2.length]; exact hz)
 rw [show its.toArray ++ its2.toArray = (its ++ its2).toArray by simp]
 exact ⟨.ref _,_,I.lnew (t':=s.toks) (r.append r2) (by rw [List.length_append]; exact hz),rfl,q _ I.fresh⟩
def kh:D -> D -> Option (List D)
 | .lst xs,.lst ys => wO xs ys
 | _,_ => none
theorem m_ (ha:DH X a ha') (hb:DH X b hb'):DF X (.BinOp a .Add b pos) (ma kh ha' hb'):=cT (DU CB ha hb) fun σ H Q ⟨c,δ,S,T,z,δ',s,e,k⟩ => by
 refine ub (W:=fun c δ' S σ T Q z => ∀ l vs H',vs.length = z.length -> Sl { c with Z:=upd c.Z l (.lst vs) } δ' (z ++ S) σ (vs ++ T) H' -> c.Z l = none -> l ∉ c.B -> c.H0 l = none -> Q (.ref l) H') (fun c δ S σ T H x y v u z Q t eg w => ?_) σ H Q ⟨c,δ,S,T,z,δ',s,e,k⟩
 cases x with
 | lst xs =>
  cases y with
  | lst ys =>
   have eg':(if xs.length + ys.length ≤ 100000 then some (xs ++ ys) else none) = some z:=eg
   split at eg'
   ·rename_i hn
    cases eg'
    obtain ⟨p1,vs,rfl,a1,a2⟩:=t.lx xs rfl
    obtain ⟨p2,us,rfl,b1,b2⟩:=t.ly ys rfl
    have hl:(100000:Nat) < sizeLine:=by rw [sizeLine_eq]; decide
    refine ⟨p1,p2,vs,us,rfl,rfl,a1,b1,by rw [a2.length,b2.length]; omega,fun q hq => ?_⟩
    have s1:=t.sl.stk ((a2.append b2).append t.sl.st)
    obtain ⟨f1,f2,f3⟩:=s1.fresh hq
    exact w q _ _ (by rw [List.length_append,List.length_append,a2.length,b2.length]) (s1.hide hq) f1 f2 f3
   ·cases eg'
  | _ => cases eg
 | _ => cases eg
def AE (neg:Bool) (x y:D):Option D:=if ng x y = true then (eF 9 x y).map fun b => .bl (if neg then !b else b) else dg neg x y
theorem lr {c:Ct} {δ:DS} {S:List D} {σ:St} {T:List V} {H:Hp} {x y:D} {v u:V} {z:D} {Q:VK} {neg:Bool} {r:R2} (t:nG c δ S σ T H x y v u) (eg:AE neg x y = some z) (w:∀ v H',Sl c δ (z :: S) σ (v :: T) H' -> Q v H')
  (hs:∀ (b:Bool),ng x y = true -> eF 9 x y = some b -> Q (.bl (if neg then !b else b)) H -> r v u H Q) (hf:q0 v u = true -> Q (.bl (if neg then !decide (v = u) else decide (v = u))) H -> r v u H Q):r v u H Q:= by
 unfold AE at eg
 split at eg
 ·rename_i hq
  cases q:eF 9 x y with
  | none => rw [q] at eg; cases eg
  | some b =>
   rw [q] at eg; cases eg
   exact hs b hq q (w _ _ (t.sl.stk (.cons .mkB t.sl.st)))
 ·unfold dg at eg
  split at eg
  ·rename_i w1 z1 e1 e2
   split at eg
   ·rename_i hsc
    cases eg
    obtain ⟨rfl,_⟩:=dJ t.rx e1
    obtain ⟨rfl,_⟩:=dJ t.ry e2
    exact hf hsc (w _ _ (t.sl.stk (.cons .mkB t.sl.st)))
   ·cases eg
  ·cases eg
theorem JI {k:Nat} (hr:c5 k X.A) (ha:DH X a ha') (hb:DH X b hb'):DE X (.Compare a [.Eq] [b] pos) (ma (AE false) ha' hb'):=cT (ll (sR (jk hr)) ha hb (kF _)) fun σ H Q ⟨c,δ,S,T,z,δ',s,e,k⟩ =>
 ub (W:=fun c δ' S σ T Q z => ∀ v H',Sl c δ' (z :: S) σ (v :: T) H' -> Q v H') (fun c δ S σ T H x y v u z Q t eg w => lr t eg w (fun b hs he q => .inr ⟨H,x,y,b,fun _ _ h => h,t.rx,t.ry,hs,he,q⟩) fun hs q => .inl ⟨hs,q⟩) σ H Q ⟨c,δ,S,T,z,δ',s,e,k⟩
theorem Jx {k:Nat} (hr:c5 k X.A) (ha:DH X a ha') (hb:DH X b hb'):DE X (.Compare a [.NotEq] [b] pos) (ma (AE true) ha' hb'):=cT (ll (tP (jk hr)) ha hb (kF _)) fun σ H Q ⟨c,δ,S,T,z,δ',s,e,k⟩ =>
 ub (W:=fun c δ' S σ T Q z => ∀ v H',Sl c δ' (z :: S) σ (v :: T) H' -> Q v H') (fun c δ S σ T H x y v u z Q t eg w => lr t eg w (fun b hs he q => .inr ⟨H,x,y,b,fun _ _ h => h,t.rx,t.ry,hs,he,q⟩) fun hs q => .inl ⟨hs,q⟩) σ H Q ⟨c,δ,S,T,z,δ',s,e,k⟩
theorem JN {g:D -> D -> Option D} {r:R2} (w:∀ σ H Q,tM (ma g ha' hb') σ H Q -> DK r (C8 ha') (C8 hb') σ H Q):∀ σ H Q,Ay (ma g ha' hb' >>= cx) σ H Q -> y6 (DK r (C8 ha') (C8 hb')) σ H Q:=fun σ H Q ⟨c,δ,S,T,d,δ',s,e,k⟩ => by
 obtain ⟨x,δ1,e1,e⟩:=bind_some e
 obtain ⟨rfl,rfl⟩:=jM e
 exact w σ H _ ⟨c,δ,S,T,.bl d,δ1,s,e1,fun v H' s' => ⟨d,s'.st.head.bl,k _ s'.pop⟩⟩
theorem xE {k:Nat} (hr:c5 k X.A) (ha:DH X a ha') (hb:DH X b hb'):DT X (.Compare a [.Eq] [b] pos) (ma (AE false) ha' hb' >>= cx):=uu (lu (sR (jk hr)) ha hb (kF _)) (JN fun σ H Q ⟨c,δ,S,T,z,δ',s,e,k⟩ =>
 ub (W:=fun c δ' S σ T Q z => ∀ v H',Sl c δ' (z :: S) σ (v :: T) H' -> Q v H') (fun c δ S σ T H x y v u z Q t eg w => lr t eg w (fun b hs he q => .inr ⟨H,x,y,b,fun _ _ h => h,t.rx,t.ry,hs,he,q⟩) fun hs q => .inl ⟨hs,q⟩) σ H Q ⟨c,δ,S,T,z,δ',s,e,k⟩)
theorem Eu {k:Nat} (hr:c5 k X.A) (ha:DH X a ha') (hb:DH X b hb'):DT X (.Compare a [.NotEq] [b] pos) (ma (AE true) ha' hb' >>= cx):=uu (lu (tP (jk hr)) ha hb (kF _)) (JN fun σ H Q ⟨c,δ,S,T,z,δ',s,e,k⟩ =>
 ub (W:=fun c δ' S σ T Q z => ∀ v H',Sl c δ' (z :: S) σ (v :: T) H' -> Q v H') (fun c δ S σ T H x y v u z Q t eg w => lr t eg w (fun b hs he q => .inr ⟨H,x,y,b,fun _ _ h => h,t.rx,t.ry,hs,he,q⟩) fun hs q => .inl ⟨hs,q⟩) σ H Q ⟨c,δ,S,T,z,δ',s,e,k⟩)
def flatOnly (d:D):Option D:=match flat d with
 | some _ => some d
 | none => none
def J4 (n:Nat) (mf:List D -> Option D) (ds:List D):Option D:=if ds.length = n then (mf ds).bind flatOnly else none
variable {k:Nat} {f:Addr} {fd:FuncData} {ps:List Str}
def cutD (xs:List D) (lo hi:Option Int):List D:=(xs.drop (HT.sIx xs.length 0 lo)).take (HT.sIx xs.length xs.length hi - HT.sIx xs.length 0 lo)
theorem xt {H:Hp} {ds:List D} {vs:List V} (h:Rs H ds vs) (lo hi:Option Int):Rs H (cutD ds lo hi) (pk vs lo hi):= by
 unfold cutD pk
 rw [h.length]
 have dr:∀ (n:Nat) {ds:List D} {vs:List V},Rs H ds vs -> Rs H (ds.drop n) (vs.drop n):= by
  intro n
  induction n with
  | zero => intro ds vs h; exact h
  | succ n ih =>
   intro ds vs h
   cases ds with
   | nil => rw [h.inv0]; exact .nil
   | cons d ds => obtain ⟨v,r,e,h1,h2⟩:=h.inv; subst e; exact ih h2
 have tk:∀ (n:Nat) {ds:List D} {vs:List V},Rs H ds vs -> Rs H (ds.take n) (vs.take n):= by
  intro n
  induction n with
  | zero => intro ds vs h; rw [List.take_zero,List.take_zero]; exact .nil
  | succ n ih =>
   intro ds vs h
   cases ds with
   | nil => rw [h.inv0]; exact .nil
   | cons d ds => obtain ⟨v,r,e,h1,h2⟩:=h.inv; subst e; exact .cons h1 (ih h2)
 exact tk _ (dr _ h)
theorem rT {t sl:Addr} {items:Array Value} {vl vu:Value} {lo hi:Option Int} {prog:Program} {w:World} {A:Around} {E:Value -> Shared -> Prop} {s:Shared} {Q:Value -> Shared -> Prop} (ht:PyProof.Rows.IsTup s.heap t items) (hs:s.heap.IsSliceOf sl vl vu .none) (pl:IsPart vl lo) (pu:IsPart vu hi)
  (hw:HT.sIx items.size 0 lo = 0 ∧ HT.sIx items.size items.size hi = items.size) (h:Q (.ref t) s):wpAny (model prog w) A (getItem (.ref t) (.ref sl)) Q E s:= by
 obtain ⟨os,hos,hcs,hds⟩:=id hs
 have hTs:s.TypeIs (.ref sl) "slice":=⟨os,hos,hcs⟩
 unfold getItem
 try with_reducible refine wpAny_holding ?_
 first | refine wpAny_bind (wpAny_pure ?_) | skip
 refine wpAny_bind (wpAny_sequenceKey ht.typeIs (by decide) ?_)
 refine wpAny_bind (wpAny_callSpecial?_slot (name:=Str.ofString "__getitem__") ht.typeIs PyProof.Rows.slot_tuple_getitem (wpAny_call_entry PyProof.Rows.slot_tuple_getitem ht.typeIs PyProof.Rows.entry_tuple_getitem ?_ (PyProof.Rows.args_tuple_getitem _ _)))
 show wpAny (model prog w) _ (Builtin.Tuple.tupleItemsOf (.ref t) >>= _) _ _ s
 refine wpAny_bind (PyProof.Rows.tupleItemsOf_ ht (wpAny_bind (wpAny_typeOf hTs ?_)))
 rw [if_pos (by decide)]
 refine wpAny_bind (HT.sliceApplied_gen hs pl pu ?_)
 have hyes:(((HT.sIx items.size 0 lo:Nat):Int) == 0 && (1:Int) == 1 && (HT.sIx items.size items.size hi - HT.sIx items.size 0 lo) == items.size) = true:= by
  rw [hw.1,hw.2]; simp
 show wpAny (model prog w) _ (if (((HT.sIx items.size 0 lo:Nat):Int) == 0 && (1:Int) == 1 && (HT.sIx items.size items.size hi - HT.sIx items.size 0 lo) == items.size) = true then _ else _) _ _ s
 rw [if_pos hyes]
 refine wpAny_bind ?_
 unfold Builtin.Tuple.tupleIsExact
 refine wpAny_bind (wpAny_typeOf ht.typeIs (wpAny_pure ?_))
 rw [if_pos (by decide)]
 exact wpAny_bind (wpAny_rule (wpAny_bind (wpAny_pure (wpAny_pure ⟨_,rfl,wpAny_pure h⟩))))
end
end Jt
namespace Jt
open PySem L2
section
variable {X:Cx} {pins:List (Addr × Obj)} {σ:St} {H:Hp} {s:Shared} {h':Heap}
theorem _root_.L2.Inv.turnedN {t':Nat} {fp:List Addr} {p:Addr} {o:HO} (I:Inv X pins σ H s) (k:∀ b o,b ∉ fp -> s.heap.get? b = some o -> h'.get? b = some o) (hf:∀ b ∈ fp,jt X pins H b) (hp:s.heap.objs.size ≤ p) (new:eD X.prog X.w (upd H p o) h' p o) :
  Inv X pins σ (upd H p o) { s with heap:=h',toks:=t' }:= by
 have hn:H p = none:=I.hok.fresh hp
 have nit:∀ b u,H b = some u -> b ∉ fp:=fun b u e z => by rw [(hf b z).1] at e; cases e
 refine I.step (g':=s.gens) (d':=s.drawn) (ch:=fp) (fun b hb => ?_) (fun b o _ _ hc e _ => k b o hc e) (fun b o _ _ hc e _ => ⟨o.slots,k b o hc e⟩) (fun b o _ e n => ?_)
  (fun b o hc e => ⟨o,k b o hc e⟩) (fun b xs e => by rw [aA (cw e hn)]; exact e) (fun b o u e => by rw [aA (cw e hn)]; exact e) (fun b ps e => ⟨#[],by rw [aA (cw e hn),e]; simp⟩) (fun m hm => ?_) (fun b u e => ?_) I.bare
 ·obtain ⟨_,f1,_,f3,f4,f5⟩:=hf b hb
  exact ⟨f3,f1,f4,f5⟩
 ·rw [aA fun z => by subst z; exact Nat.lt_irrefl _ (Nat.lt_of_lt_of_le (Heap.lt_size e) hp)]; exact n
 ·obtain ⟨o',es,ep,ho,r⟩:=hm
  exact ⟨o',es,ep,k _ o' (fun z => (hf _ z).2.1 rfl) ho,r⟩
 ·by_cases hb:b = p
  ·subst hb; rw [aV] at e; cases e; exact new
  ·rw [aA hb] at e
   refine (I.hok b u e).stay (fun c v hc q => k c v ?_ q) (fun c q => by rw [aA (cw q hn)]; exact q) fun c xs q => by rw [aA (cw q hn)]; exact q
   rcases hc with z | z
   ·rw [z]; exact nit b u e
   ·exact nit c _ z
theorem _root_.L2.Inv.turnedL {t':Nat} {fp:List Addr} (I:Inv X pins σ H s) (k:∀ b o,b ∉ fp -> s.heap.get? b = some o -> h'.get? b = some o) (hf:∀ b ∈ fp,jt X pins H b):Inv X pins σ H { s with heap:=h',toks:=t' }:= by
 have nit:∀ b u,H b = some u -> b ∉ fp:=fun b u e z => by rw [(hf b z).1] at e; cases e
 refine I.step (g':=s.gens) (d':=s.drawn) (ch:=fp) (fun b hb => ?_) (fun b o _ _ hc e _ => k b o hc e) (fun b o _ _ hc e _ => ⟨o.slots,k b o hc e⟩) (fun _ _ _ _ n => n)
  (fun b o hc e => ⟨o,k b o hc e⟩) (fun _ _ e => e) (fun _ _ _ e => e) (fun b ps e => ⟨#[],by rw [e]; simp⟩) (fun m hm => ?_) (fun b u e => ?_) I.bare
 ·obtain ⟨_,f1,_,f3,f4,f5⟩:=hf b hb
  exact ⟨f3,f1,f4,f5⟩
 ·obtain ⟨o',es,ep,ho,r⟩:=hm
  exact ⟨o',es,ep,k _ o' (fun z => (hf _ z).2.1 rfl) ho,r⟩
 ·refine (I.hok b u e).stay (fun c v hc q => k c v ?_ q) (fun _ q => q) fun _ _ q => q
  rcases hc with z | z
  ·rw [z]; exact nit b u e
  ·exact nit c _ z
def Sq (b:Bool) (K:PySem.W.Frag) (H:Hp) (q:Addr) (xs:List V):Prop:=match b with
 | true => i4 K H q xs
 | false => iY K H q xs
theorem _root_.L2.Inv.sq {b:Bool} {q:Addr} {xs:List V} (I:Inv X pins σ H s) (h:Sq b X.K H q xs):∃ its:List Value,Vals xs its ∧ j_ b s.heap q its.toArray:= by
 cases b with
 | true => obtain ⟨its,r,p,_⟩:=I.tuple h; exact ⟨its,r,p⟩
 | false => obtain ⟨its,r,p,_⟩:=I.list h; exact ⟨its,r,p.isList⟩
theorem _root_.L2.Inv.sq_inj {b:Bool} {q:Addr} {xs ys:List V} (I:Inv X pins σ H s) (h:Sq b X.K H q xs) (h':Sq b X.K H q ys):xs = ys:= by
 cases b with
 | true => exact I.tuple_inj h h'
 | false => exact I.list_inj h h'
def Jk (K:PySem.W.Frag) (b1 b2:Bool) (l1 l2:Addr):It :=
 ⟨fun i H => ∃ xs ys x y,Sq b1 K H l1 xs ∧ Sq b2 K H l2 ys ∧ xs[i]? = some x ∧ ys[i]? = some y,
   fun i H x H' => ∃ p v u,x = .ref p ∧ H p = none ∧ H' = upd H p (.tup [v,u]) ∧ (∀ xs,Sq b1 K H l1 xs -> xs[i]? = some v) ∧ ∀ ys,Sq b2 K H l2 ys -> ys[i]? = some u,
   fun i H => ∃ xs ys,Sq b1 K H l1 xs ∧ Sq b2 K H l2 ys ∧ (xs.length ≤ i ∨ ys.length ≤ i)⟩
def Zt (b1 b2:Bool) (z TI TO i1 i2 l1 l2:Addr) (k:Nat) (h:Heap):Prop:=IsZip h z TI TO .none ∧ IsPair h TI (.ref i1) (.ref i2) ∧ (∃ a c,IsPair h TO a c) ∧ kO b1 h i1 l1 k ∧ kO b2 h i2 l2 k
theorem xD {P:Program} {w:World} {K:PySem.W.Frag} {es:List Expr} {x1} {pt:Pos} (b1 b2:Bool) {z TI TO i1 i2 l1 l2:Addr} (D:uv z TI TO i1 i2 l1 l2) (hfl1:l1 ∉ [z,TI,TO,i1,i2]) (hfl2:l2 ∉ [z,TI,TO,i1,i2]) :
  Turn P w K (.Tuple es x1 pt) (Jk K b1 b2 l1 l2) [z,TI,TO,i1,i2] z (Zt b1 b2 z TI TO i1 i2 l1 l2) where
 mem:=by simp
 obj:=fun i h st b hb => by
  obtain ⟨s1,s2,⟨a,c,s3⟩,s4,s5⟩:=st
  have itc:∀ {bb:Bool} {it l:Addr},kO bb h it l i -> ∃ o,h.get? it = some o ∧ ∀ v,o.data ≠ .cell v:=fun {bb it l} q => by
   cases bb with
   | true => obtain ⟨o,e,_,d⟩:=q; exact ⟨o,e,fun v z => by rw [d] at z; cases z⟩
   | false => obtain ⟨o,e,_,d⟩:=q; exact ⟨o,e,fun v z => by rw [d] at z; cases z⟩
  simp only [List.mem_cons,List.not_mem_nil,or_false] at hb
  rcases hb with e | e | e | e | e <;> subst e
  ·exact ⟨_,s1,fun v q => by cases q⟩
  ·exact ⟨_,s2,fun v q => by cases q⟩
  ·exact ⟨_,s3,fun v q => by cases q⟩
  ·exact itc s4
  ·exact itc s5
 keep:=fun i h h' st k => by
  obtain ⟨s1,s2,⟨a,c,s3⟩,s4,s5⟩:=st
  exact ⟨k z (by simp) _ s1,k TI (by simp) _ s2,⟨a,c,k TO (by simp) _ s3⟩,s4.at (k i1 (by simp)),s5.at (k i2 (by simp))⟩
 item:= by
  intro X hP hw hK hc i pins s σ H E I hf st hg
  subst hP hw hK
  obtain ⟨xs,ys,x,y,hq1,hq2,hx,hy⟩:=hg
  obtain ⟨it1,r1,p1⟩:=I.sq hq1
  obtain ⟨it2,r2,p2⟩:=I.sq hq2
  obtain ⟨u1,e1,ru1⟩:=r1.get hx
  obtain ⟨u2,e2,ru2⟩:=r2.get hy
  obtain ⟨s1,s2,s3,s4,s5⟩:=st
  refine sf D ⟨s1,s2,s3,s4,s5,p1,p2⟩ (by simpa using e1) (by simpa using e2) fun h' st' hp kp => ?_
  obtain ⟨t1,t2,⟨a,c,t3⟩,t4,t5,_,_⟩:=st'
  have kp':∀ b o,b ∉ [z,TI,TO,i1,i2] -> s.heap.get? b = some o -> h'.get? b = some o:=fun b o hb e => kp b o (fun hm => hb (by
   simp only [List.mem_cons,List.not_mem_nil,or_false] at hm ⊢
   rcases hm with e | e | e | e <;> simp [e])) e
  refine ⟨.ref s.heap.objs.size,rfl,wpAny_letOwnedTupleGo_zip (s:={ s with heap:=h' }) t1 fun h2 z2 sb => ?_⟩
  obtain ⟨n1,n2,n3,n4,n5,n6,n7,n8,n9,n10,m1,m2,m3,m4,m5,m6,m7,m8⟩:=D.ne
  have hzl:z < s.heap.objs.size:=Heap.lt_size s1
  have new2:IsPair h2 s.heap.objs.size u1 u2:=sb.extBut _ _ (Nat.ne_of_gt hzl) hp
  refine ⟨.ref s.heap.objs.size,upd H s.heap.objs.size (.tup [x,y]),I.turnedN (t':=s.toks) (fp:=[z,TI,TO,i1,i2]) (fun b o hb e => sb.extBut _ _ (fun q => hb (by rw [q]; simp)) (kp' b o hb e)) hf (Nat.le_refl _) ⟨by rw [sizeLine_eq]; show 2 ≤ _; decide,[u1,u2],.cons ru1 (.cons ru2 .nil),⟨_,new2,rfl,_,rfl⟩⟩,rfl,
   ⟨_,x,y,rfl,I.fresh,rfl,fun zs hz => by rw [I.sq_inj hz hq1]; exact hx,fun zs hz => by rw [I.sq_inj hz hq2]; exact hy⟩,⟨z2,sb.extBut _ _ n1 t2,⟨a,c,sb.extBut _ _ n2 t3⟩,t4.at fun o e => sb.extBut _ _ n3 e,t5.at fun o e => sb.extBut _ _ n4 e⟩,fun b hb => ?_⟩
  have hb0:=(hf b hb).1
  rw [aA fun q => ?_]
  ·exact hb0
  ·have:b < s.heap.objs.size:= by
    simp only [List.mem_cons,List.not_mem_nil,or_false] at hb
    rcases hb with e | e | e | e | e <;> subst e
    ·exact hzl
    ·exact Heap.lt_size s2
    ·obtain ⟨_,_,s3⟩:=s3; exact Heap.lt_size s3
    ·exact s4.lt
    ·exact s5.lt
   rw [q] at this
   exact Nat.lt_irrefl _ this
 done:= by
  intro X hP hw hK hc i pins s σ H E I hf st hg
  subst hP hw hK
  obtain ⟨xs,ys,hq1,hq2,hx⟩:=hg
  obtain ⟨it1,r1,p1⟩:=I.sq hq1
  obtain ⟨it2,r2,p2⟩:=I.sq hq2
  obtain ⟨s1,s2,s3,s4,s5⟩:=st
  have l1:=r1.length
  have l2:=r2.length
  refine vx (I.ok.hd hc) D ⟨s1,s2,s3,s4,s5,p1,p2⟩ (hx.elim (fun q => .inl (by simp; omega)) fun q => .inr (by simp; omega)) fun h' kp => ⟨rfl,I.turnedL (t':=s.toks) (fp:=[z,TI,TO,i1,i2]) (fun b o hb e => kp b o (fun hm => hb (by
   simp only [List.mem_cons,List.not_mem_nil,or_false] at hm ⊢
   rcases hm with e | e | e | e <;> simp [e])) e) hf⟩
 self:=fun A i s Q E st h => wpAny_pyIter_zip st.1 h
def Je (K:PySem.W.Frag) (b:Bool) (l:Addr):It :=
 ⟨fun i H => ∃ xs x,Sq b K H l xs ∧ xs[i]? = some x,
   fun i H x H' => ∃ p v,x = .ref p ∧ H p = none ∧ H' = upd H p (.tup [.int i,v]) ∧ ∀ xs,Sq b K H l xs -> xs[i]? = some v,
   fun i H => ∃ xs,Sq b K H l xs ∧ xs.length ≤ i⟩
def Et (b:Bool) (e it l:Addr) (k:Nat) (h:Heap):Prop:=(∃ old,IsEnum h e it k old) ∧ kO b h it l k
theorem C7 {prog:Program} {w:World} {A:Around} {E:Value -> Shared -> Prop} {s:Shared} {es:List Expr} {x1} {pos:Pos} {e it T:Addr} {i:Int} {v:Value} {Q:Unit -> Shared -> Prop} (he:IsEnumOut s.heap e it i v T)
  (hQ:∀ h',(∃ old,IsEnum h' e it i old) -> Heap.SameBut e s.heap h' -> Q () { s with heap:=h' }):wpAny (model prog w) A (letOwnedTupleGo (.Tuple es x1 pos) (.ref e) (.ref T)) Q E s:= by
 unfold letOwnedTupleGo
 refine wpAny_bind (wpAny_load he ?_)
 dsimp only
 split
 ·refine wpAny_bind (wpAny_rule ?_)
  refine wpAny_setField_rec he (by simp) fun h' he' sb => hQ h' ⟨v,he'⟩ sb
 ·rename_i hno
  exact absurd (by simp) hno
theorem vG {P:Program} {w:World} {K:PySem.W.Frag} {es:List Expr} {x1} {pt:Pos} (b:Bool) {e it l:Addr} (hne:e ≠ it) (hqe:l ≠ e) (hqi:l ≠ it):Turn P w K (.Tuple es x1 pt) (Je K b l) [e,it] e (Et b e it l) where
 mem:=by simp
 obj:=fun i h st c hc => by
  obtain ⟨⟨old,s1⟩,s2⟩:=st
  simp only [List.mem_cons,List.not_mem_nil,or_false] at hc
  rcases hc with q | q <;> subst q
  ·exact ⟨_,s1,fun v q => by cases q⟩
  ·cases b with
   | true => obtain ⟨o,e,_,d⟩:=s2; exact ⟨o,e,fun v z => by rw [d] at z; cases z⟩
   | false => obtain ⟨o,e,_,d⟩:=s2; exact ⟨o,e,fun v z => by rw [d] at z; cases z⟩
 keep:=fun i h h' st k => by
  obtain ⟨⟨old,s1⟩,s2⟩:=st
  exact ⟨⟨old,k e (by simp) _ s1⟩,s2.at (k it (by simp))⟩
 item:= by
  intro X hP hw hK hc i pins s σ H E I hf st hg
  subst hP hw hK
  obtain ⟨xs,x,hq1,hx⟩:=hg
  obtain ⟨it1,r1,p1⟩:=I.sq hq1
  obtain ⟨u1,e1,ru1⟩:=r1.get hx
  obtain ⟨s1,s2⟩:=st
  refine v9 hne hqe hqi ⟨s1,s2,p1⟩ (by simpa using e1) fun h' t1 t2 t3 hp kp => ?_
  have hel:e < s.heap.objs.size:=by obtain ⟨_,s1⟩:=s1; exact Heap.lt_size s1
  refine ⟨.ref s.heap.objs.size,rfl,C7 (s:={ s with heap:=h',toks:=s.toks + 1 }) t1 fun h2 z2 sb => ?_⟩
  have new2:IsPair h2 s.heap.objs.size (.int i s.toks) u1:=sb.extBut _ _ (Nat.ne_of_gt hel) hp
  refine ⟨.ref s.heap.objs.size,upd H s.heap.objs.size (.tup [.int i,x]),I.turnedN (t':=s.toks + 1) (fp:=[e,it]) (fun c o hb q => sb.extBut _ _ (fun z => hb (by rw [z]; simp)) (kp c o (fun z => hb (by rw [z]; simp)) (fun z => hb (by rw [z]; simp)) q)) hf (Nat.le_refl _) ⟨by rw [sizeLine_eq]; show 2 ≤ _; decide,[.int i s.toks,u1],.cons ⟨_,rfl⟩ (.cons ru1 .nil),⟨_,new2,rfl,_,rfl⟩⟩,rfl,
   ⟨_,x,rfl,I.fresh,rfl,fun zs hz => by rw [I.sq_inj hz hq1]; exact hx⟩,⟨by obtain ⟨old,z2⟩:=z2; exact ⟨old,by simpa using z2⟩,t2.at fun o q => sb.extBut _ _ hne.symm q⟩,fun c hb => ?_⟩
  have hb0:=(hf c hb).1
  rw [aA fun q => ?_]
  ·exact hb0
  ·have:c < s.heap.objs.size:= by
    simp only [List.mem_cons,List.not_mem_nil,or_false] at hb
    rcases hb with e | e <;> subst e
    ·exact hel
    ·exact s2.lt
   rw [q] at this
   exact Nat.lt_irrefl _ this
 done:= by
  intro X hP hw hK hc i pins s σ H E I hf st hg
  subst hP hw hK
  obtain ⟨xs,hq1,hx⟩:=hg
  obtain ⟨it1,r1,p1⟩:=I.sq hq1
  obtain ⟨s1,s2⟩:=st
  have l1:=r1.length
  exact yF (I.ok.hd hc) ⟨s1,s2,p1⟩ (by simp; omega) fun h' kp => ⟨rfl,I.turnedL (t':=s.toks) (fp:=[e,it]) (fun c o hb q => kp c o (fun z => hb (by rw [z]; simp)) q) hf⟩
 self:=fun A i s Q E st h => by
  obtain ⟨⟨old,s1⟩,_⟩:=st
  exact wpAny_pyIter_enum s1 h
end
end Jt
namespace Jt
open PySem L2
section
variable {X:Cx} {a b c0 e tg:Expr} {fa fb fc:M D} {fs fF fq:M (List D)} {pos p p2 apos cpos pt:Pos} {es rest:List Expr} {x:Str} {x1:Nat}
def nF:D -> Option (Bool × List D)
 | .tup ds => some (true,ds)
 | .lst ds => some (false,ds)
 | _ => none
theorem fB {c:Ct} {δ:DS} {σ:St} {H:Hp} {K:PySem.W.Frag} {d:D} {v:V} {b:Bool} {xs:List D} (r:R (fS c δ σ H) d v) (e:nF d = some (b,xs)):∃ p vs,v = .ref p ∧ Sq b K H p vs ∧ Rs (fS c δ σ H) xs vs:= by
 cases d with
 | tup ds =>
  cases e
  obtain ⟨p,vs,ev,h1,h2⟩:=r.tup
  exact ⟨p,vs,ev,.of (bo _ _ h1),h2⟩
 | lst ds =>
  cases e
  obtain ⟨p,vs,ev,h1,h2⟩:=r.lst
  exact ⟨p,vs,ev,.inl (Rd.mono bo h1),h2⟩
 | _ => cases e
def eG:List D -> List D -> List D
 | x :: xs,y :: ys => .tup [x,y] :: eG xs ys
 | _,_ => []
theorem rm:∀ {xs ys:List D} {i:Nat} {d:D},(eG xs ys)[i]? = some d -> ∃ x y,xs[i]? = some x ∧ ys[i]? = some y ∧ d = .tup [x,y]
 | x :: xs,y :: ys,0,d,h => by cases h; exact ⟨x,y,rfl,rfl,rfl⟩
 | x :: xs,y :: ys,i + 1,d,h => by
  obtain ⟨x',y',h1,h2,h3⟩:=rm (xs:=xs) (ys:=ys) (i:=i) (by simpa [eG] using h)
  exact ⟨x',y',by simpa using h1,by simpa using h2,h3⟩
 | [],_,i,d,h => by simp [eG] at h
 | _ :: _,[],i,d,h => by simp [eG] at h
theorem jy:∀ (xs ys:List D),(eG xs ys).length = min xs.length ys.length
 | x :: xs,y :: ys => by simp [eG,jy xs ys,Nat.add_min_add_right]
 | [],_ => by simp [eG]
 | _ :: _,[] => by simp [eG]
theorem EU {ta:TA} (hg:Gl X "zip") (hm:X.mg "zip" = none) (ha:PA X [a,b] ta) (hs:starEach [a,b] X.env = [(false,eval a X.env),(false,eval b X.env)]:=by rfl) (hs2:starEach [b] X.env = [(false,eval b X.env)]:=by rfl) :
  PI X (.Tuple es x1 pt) (.Call (.Name "zip" p) [a,b] [] pos) (fun σ H R => ta σ H fun vs H1 => ∃ b1 b2 l1 l2 xs ys,vs = [.ref l1,.ref l2] ∧ Sq b1 X.K H1 l1 xs ∧ Sq b2 X.K H1 l2 ys ∧ R (Jk X.K b1 b2 l1 l2) H1):= by
 intro pins s σ H R I h
 refine PyProof.Rows.Call_ (fO I hg hm (show bootBuiltins "zip" = some (.type "zip") by decide +kernel) (PyProof.Rows.callWith_type1 (cW (ha pos pins s σ H _ I h) fun us s1 ⟨vs,H1,I1,r1,q1⟩ => ?_) (by rw [hs,hs2]) (by rw [hs2]; rfl)))
 obtain ⟨b1,b2,l1,l2,xs,ys,e,h1,h2,q⟩:=q1
 subst e
 obtain ⟨u1,u2,rfl,ru1,ru2⟩:=r1.two
 cases ru1
 cases ru2
 obtain ⟨i1s,rv1,p1⟩:=I1.sq h1
 obtain ⟨i2s,rv2,p2⟩:=I1.sq h2
 refine uE p1 p2 fun h' z TI TO i1 i2 D st kp hnew => ?_
 have I2:Inv X pins σ H1 { s1 with heap:=h' }:=I1.kept (t':=s1.toks) kp
 obtain ⟨t1,t2,t3,t4,t5,_,_⟩:=st
 refine wpAny_pyIter_zip (s:={ s1 with heap:=h' }) t1 ⟨z,[z,TI,TO,i1,i2],_,_,H1,rfl,I2,xD b1 b2 D ?_ ?_,⟨t1,t2,t3,t4,t5⟩,fun c hc => ?_,q⟩
 ·intro hc
  exact Nat.lt_irrefl _ (Nat.lt_of_lt_of_le p1.lt (hnew _ hc))
 ·intro hc
  exact Nat.lt_irrefl _ (Nat.lt_of_lt_of_le p2.lt (hnew _ hc))
 ·exact I1.fpOk (hnew c hc) (I1.hok.fresh (hnew c hc))
def kz:List D -> Option lg
 | [x,y] => match nF x,nF y with
  | some (_,xs),some (_,ys) => some (a_ (eG xs ys))
  | _,_ => none
 | _ => none
theorem CJ {K:PySem.W.Frag} {b1 b2:Bool} {dx dy:D} {xs ys:List D} {l1 l2:Addr} (e1:nF dx = some (b1,xs)) (e2:nF dy = some (b2,ys)):Gr (Jk K b1 b2 l1 l2) (a_ (eG xs ys)) [dx,dy] [.ref l1,.ref l2]:=fun c δ S σ T H i s => by
 obtain ⟨p1,vs,q1,h1,r1⟩:=fB (K:=K) s.st.head e1
 obtain ⟨p2,us,q2,h2,r2⟩:=fB (K:=K) s.st.tail.head e2
 cases q1
 cases q2
 refine ⟨fun act d ha hd => ?_,fun ei _ => ⟨vs,us,h1,h2,?_⟩⟩
 ·obtain ⟨x,y,g1,g2,rfl⟩:=rm (fU ha hd)
  obtain ⟨v,gv,rv⟩:=r1.get g1
  obtain ⟨u,gu,ru⟩:=r2.get g2
  refine ⟨⟨vs,us,v,u,h1,h2,gv,gu⟩,fun z H' yl => ?_⟩
  obtain ⟨q,v',u',rfl,hq,rfl,y1,y2⟩:=yl
  have ev:=y1 vs h1
  have eu:=y2 us h2
  rw [gv] at ev; cases ev
  rw [gu] at eu; cases eu
  exact (s.stk (.cons rv (.cons ru s.st))).newTup (ds:=[x,y]) (vs:=[v,u]) rfl hq
 ·rw [r1.length,r2.length]
  have:(a_ (eG xs ys)).1.length = min xs.length ys.length:=by simp [a_,jy]
  omega
theorem yu (hm:X.mg "zip" = none) (ha:DA X [a,b] fs) (hg:Gl X "zip":=by rfl) (hs:starEach [a,b] X.env = [(false,eval a X.env),(false,eval b X.env)]:=by rfl) (hs2:starEach [b] X.env = [(false,eval b X.env)]:=by rfl) :
  DI X (.Tuple es x1 pt) (.Call (.Name "zip" p) [a,b] [] pos) (mC kz fs):=tp (EU hg hm ha hs hs2) fun σ H Rr ⟨c,δ,S,T,it,δ',s,e,k⟩ => by
 obtain ⟨ds,δ1,e1,e⟩:=bind_some e
 obtain ⟨e2,rfl⟩:=aE e
 refine ⟨c,δ,S,T,ds,δ1,s,e1,fun vs H1 l s1 => ?_⟩
 unfold kz at e2
 split at e2
 ·rename_i dx dy
  split at e2
  ·rename_i b1 xs b2 ys q1 q2
   cases e2
   obtain ⟨v,u,rfl,r1,r2⟩:=HN (s1.st.left l)
   obtain ⟨p1,vs,rfl,h1,_⟩:=fB (K:=X.K) r1 q1
   obtain ⟨p2,us,rfl,h2,_⟩:=fB (K:=X.K) r2 q2
   exact ⟨b1,b2,p1,p2,vs,us,rfl,h1,h2,k _ [dx,dy] [.ref p1,.ref p2] H1 rfl (CJ q1 q2) s1⟩
  ·cases e2
 ·cases e2
def k_:Nat -> List D -> List D
 | _,[] => []
 | n,x :: xs => .tup [.int n,x] :: k_ (n + 1) xs
theorem rG:∀ {xs:List D} {n i:Nat} {d:D},(k_ n xs)[i]? = some d -> ∃ x,xs[i]? = some x ∧ d = .tup [.int ((n + i:Nat):Int),x]
 | x :: xs,n,0,d,h => by cases h; exact ⟨x,rfl,rfl⟩
 | x :: xs,n,i + 1,d,h => by
  obtain ⟨x',h1,h2⟩:=rG (xs:=xs) (n:=n + 1) (i:=i) (by simpa [k_] using h)
  exact ⟨x',by simpa using h1,by rw [h2]; congr 4; omega⟩
 | [],n,i,d,h => by simp [k_] at h
theorem qY:∀ (xs:List D) (n:Nat),(k_ n xs).length = xs.length
 | [],_ => rfl
 | x :: xs,n => by simp [k_,qY xs]
theorem BZ {ta:TA} (hg:Gl X "enumerate") (hm:X.mg "enumerate" = none) (ha:PA X [a] ta) (hs:starEach [a] X.env = [(false,eval a X.env)]:=by rfl) :
  PI X (.Tuple es x1 pt) (.Call (.Name "enumerate" p) [a] [] pos) (fun σ H R => ta σ H fun vs H1 => ∃ b1 l1 xs,vs = [.ref l1] ∧ Sq b1 X.K H1 l1 xs ∧ R (Je X.K b1 l1) H1):= by
 intro pins s σ H R I h
 refine PyProof.Rows.Call_ (fO I hg hm (show bootBuiltins "enumerate" = some (.type "enumerate") by decide +kernel) (PyProof.Rows.callWith_type1 (cW (ha pos pins s σ H _ I h) fun us s1 ⟨vs,H1,I1,r1,q1⟩ => ?_) hs rfl))
 obtain ⟨b1,l1,xs,e,h1,q⟩:=q1
 subst e
 obtain ⟨u1,rfl,ru1⟩:=r1.one
 cases ru1
 obtain ⟨i1s,rv1,p1⟩:=I1.sq h1
 refine ye p1 fun h' e it n1 n2 n3 st kp f1 f2 => ?_
 have I2:Inv X pins σ H1 { s1 with heap:=h' }:=I1.kept (t':=s1.toks) kp
 obtain ⟨⟨old,t1⟩,t2,_⟩:=st
 refine wpAny_pyIter_enum (s:={ s1 with heap:=h' }) t1 ⟨e,[e,it],_,_,H1,rfl,I2,vG b1 n1 n2 n3,⟨⟨old,t1⟩,t2⟩,fun c hc => ?_,q⟩
 have hc':s1.heap.objs.size ≤ c:= by
  simp only [List.mem_cons,List.not_mem_nil,or_false] at hc
  rcases hc with z | z <;> rw [z] <;> assumption
 exact I1.fpOk hc' (I1.hok.fresh hc')
def ka:List D -> Option lg
 | [x] => match nF x with
  | some (_,xs) => some (a_ (k_ 0 xs))
  | _ => none
 | _ => none
theorem C5 {K:PySem.W.Frag} {b1:Bool} {dx:D} {xs:List D} {l1:Addr} (e1:nF dx = some (b1,xs)):Gr (Je K b1 l1) (a_ (k_ 0 xs)) [dx] [.ref l1]:=fun c δ S σ T H i s => by
 obtain ⟨p1,vs,q1,h1,r1⟩:=fB (K:=K) s.st.head e1
 cases q1
 refine ⟨fun act d ha hd => ?_,fun ei _ => ⟨vs,h1,?_⟩⟩
 ·obtain ⟨x,g1,rfl⟩:=rG (fU ha hd)
  obtain ⟨v,gv,rv⟩:=r1.get g1
  refine ⟨⟨vs,v,h1,gv⟩,fun z H' yl => ?_⟩
  obtain ⟨q,v',rfl,hq,rfl,y1⟩:=yl
  have ev:=y1 vs h1
  rw [gv] at ev; cases ev
  rw [Nat.zero_add]
  exact (s.stk (.cons .mkI (.cons rv s.st))).newTup (ds:=[.int i,x]) (vs:=[.int i,v]) rfl hq
 ·rw [r1.length]
  have:(a_ (k_ 0 xs)).1.length = xs.length:=by simp [a_,qY]
  omega
theorem u5 (hm:X.mg "enumerate" = none) (ha:DA X [a] fs) (hg:Gl X "enumerate":=by rfl) (hs:starEach [a] X.env = [(false,eval a X.env)]:=by rfl) :
  DI X (.Tuple es x1 pt) (.Call (.Name "enumerate" p) [a] [] pos) (mC ka fs):=tp (BZ hg hm ha hs) fun σ H Rr ⟨c,δ,S,T,it,δ',s,e,k⟩ => by
 obtain ⟨ds,δ1,e1,e⟩:=bind_some e
 obtain ⟨e2,rfl⟩:=aE e
 refine ⟨c,δ,S,T,ds,δ1,s,e1,fun vs H1 l s1 => ?_⟩
 unfold ka at e2
 split at e2
 ·rename_i dx
  split at e2
  ·rename_i b1 xs q1
   cases e2
   obtain ⟨v,rfl,r1⟩:=wC (s1.st.left l)
   obtain ⟨p1,vs,rfl,h1,_⟩:=fB (K:=X.K) r1 q1
   exact ⟨b1,p1,vs,rfl,h1,k _ [dx] [.ref p1] H1 rfl (C5 q1) s1⟩
  ·cases e2
 ·cases e2
def cM (T:Ty) (d:D):Bool:=(pJ T d).getD false
theorem wg (T:Ty) (d:D):pJ T d = some (cM T d):=by cases T <;> cases d <;> rfl
def AH (r1 r2:D -> D -> Option D) (fa fb fc:M D):M D:=do
 let x <- fa
 let y <- fb
 let z <- lift (r1 x y)
 match z with
 | .bl true => do
  let w <- fc
  lift (r2 y w)
 | .bl false => pure (.bl false)
 | _ => lift none
theorem xV {op op':CmpOp} {g g':Int -> Int -> V} {h h':Int -> Int -> D} (ho:gf X (compareOp op) (ud g)) (ho':gf X (compareOp op') (ud g')) (hg:∀ H i j,R H (h i j) (g i j)) (hg':∀ H i j,R H (h' i j) (g' i j)) (ha:DE X a fa) (hb:DE X b fb) (hc:DE X c0 fc)
  (hm:lastMarks [op,op'] [b,c0] = false:=by with_unfolding_all rfl):DE X (.Compare a [op,op'] [b,c0] pos) (AH (cg (fun _ _ => true) h) (cg (fun _ _ => true) h') fa fb fc):=cT (yJ ho ho' ha hb hc hm) fun σ H Q ⟨c,δ,S,T,d,δ',s,e,k⟩ => by
 obtain ⟨x,δ1,e1,e⟩:=bind_some e
 obtain ⟨y,δ2,e2,e⟩:=bind_some e
 obtain ⟨z,δ3,e3,e⟩:=bind_some e
 obtain ⟨e4,rfl⟩:=aE e3
 obtain ⟨i,j,rfl,rfl,_,rfl⟩:=eR e4
 refine ⟨c,δ,S,T,.int i,δ1,s,e1,fun v H1 s1 => ⟨c,δ1,.int i :: S,v :: T,.int j,δ2,s1,e2,fun u H2 s2 => ?_⟩⟩
 refine ⟨i,j,s2.st.tail.head.int,s2.st.head.int,?_⟩
 have rg:=hg (fS c δ2 σ H2) i j
 cases hz:h i j with
 | bl q =>
  rw [hz] at e rg
  refine ⟨q,rg.bl,?_⟩
  cases q with
  | true =>
   obtain ⟨w,δ4,e5,e⟩:=bind_some e
   obtain ⟨e6,rfl⟩:=aE e
   rw [if_pos rfl]
   obtain ⟨i',j',ei,rfl,_,rfl⟩:=eR e6
   cases ei
   exact ⟨c,δ2,.int j :: .int i :: S,u :: v :: T,.int j',δ4,s2,e5,fun w' H4 s4 => ⟨j,j',s4.st.tail.head.int,s4.st.head.int,k _ _ (s4.stk (.cons (hg' _ _ _) s4.st.tail.tail.tail))⟩⟩
  | false =>
   obtain ⟨rfl,rfl⟩:=ar e
   rw [if_neg Bool.false_ne_true]
   exact k _ _ (s2.stk (.cons .mkB s2.st.tail.tail))
 | _ => rw [hz] at e; cases e
theorem CN (ha:DE X a fa) (hb:DE X b fb) (hc:DE X c0 fc) (hm:lastMarks [.LtE,.Lt] [b,c0] = false:=by with_unfolding_all rfl):DE X (.Compare a [.LtE,.Lt] [b,c0] pos) (AH Aw mY fa fb fc):=xV Dr Ah (fun _ _ _ => .mkB) (fun _ _ _ => .mkB) ha hb hc hm
def mr:D -> Bool
 | .non => true
 | _ => false
theorem r_ {H:Hp} {d:D} {v:V} (r:R H d v):decide (v = .non) = mr d:= by
 cases d with
 | non => rw [r.non]; rfl
 | bl b => rw [r.bl]; rfl
 | int b => rw [r.int]; rfl
 | str b => rw [r.str]; rfl
 | tup b => obtain ⟨_,_,rfl,_⟩:=r.tup; rfl
 | lst b => obtain ⟨_,_,rfl,_⟩:=r.lst; rfl
 | dct => obtain ⟨_,rfl,_⟩:=r.dct; rfl
def jX (neg:Bool):D -> D -> Option D
 | x,.non => some (.bl (if neg then !mr x else mr x))
 | _,_ => none
theorem CV:qk (fun x y H Q => y = .non ∧ Q (.bl (decide (x = .non))) H) (jX false):=fun c δ S σ T H x y v u d Q s e k => by
 cases y with
 | non =>
  cases e
  refine ⟨s.st.head.non,?_⟩
  rw [r_ s.st.tail.head]
  exact k _ _ (s.stk (.cons .mkB s.st.tail.tail))
 | _ => cases e
theorem zH:qk (fun x y H Q => y = .non ∧ Q (.bl (!decide (x = .non))) H) (jX true):=fun c δ S σ T H x y v u d Q s e k => by
 cases y with
 | non =>
  cases e
  refine ⟨s.st.head.non,?_⟩
  rw [r_ s.st.tail.head]
  exact k _ _ (s.stk (.cons .mkB s.st.tail.tail))
 | _ => cases e
theorem EC (ha:DE X a fa) (hb:DE X b fb):DE X (.Compare a [.Is] [b] pos) (m2 (jX false) fa fb):=pN Fg CV ha hb
theorem pw (ha:DE X a fa) (hb:DE X b fb):DT X (.Compare a [.IsNot] [b] pos) (m2 (jX true) fa fb >>= cx):=fk Bb zH ha hb
def De (tt:M Bool) (body:M Fl):Nat -> M Fl
 | 0 => lift none
 | n + 1 => do
  let b <- tt
  if b = true then do
   let fl <- body
   match fl with
   | .nx => De tt body n
   | .ct => De tt body n
   | .bk => pure .nx
   | .rt d => pure (.rt d)
   | .rf d => pure (.rf d)
  else pure .nx
theorem xc {t:Expr} {sts:List Stmt} {tt:M Bool} {body:M Fl} (n:Nat) (ht:DT X t tt) (hb:sx X sts body) (hp:PassesOwn (model X.prog X.w) X.A X.env X.xe:=by exact PassesOwn.never):ql X (.While t sts [] pos) (De tt body n) :=
 kH (w8 hp ht hb) fun E σ0 H0 ⟨c,δ0,S,T,fl,δ',s0,e0,k⟩ => by
  refine ⟨fun m σ H => ∃ δ,Sl c δ S σ T H ∧ De tt body m δ = some (fl,δ'),⟨n,δ0,s0,e0⟩,?_⟩
  rintro m σ H ⟨δ,s,e⟩
  cases m with
  | zero => cases e
  | succ m =>
   obtain ⟨b,δ1,e1,e⟩:=bind_some e
   refine ⟨c,δ,S,T,b,δ1,s,e1,fun H1 s1 => ?_⟩
   cases b with
   | false =>
    rw [if_neg Bool.false_ne_true] at e ⊢
    obtain ⟨rfl,rfl⟩:=ar e
    exact k _ _ s1
   | true =>
    rw [if_pos rfl] at e ⊢
    obtain ⟨fl1,δ2,e2,e⟩:=bind_some e
    refine ⟨fun σ' H' => ∃ δi,Sl c δi S σ' T H' ∧ De tt body m δi = some (fl,δ'),fun σ' H' q => ⟨m,Nat.lt_succ_self m,q⟩,c,δ1,S,T,fl1,δ2,s1,e2,?_⟩
    cases fl1 with
    | nx => exact fun σ' H' s' => ⟨δ2,s',e⟩
    | ct => exact fun σ' H' s' => ⟨δ2,s',e⟩
    | bk => obtain ⟨rfl,rfl⟩:=ar e; exact k
    | rt d' => obtain ⟨rfl,rfl⟩:=ar e; exact k
    | rf xs => obtain ⟨rfl,rfl⟩:=ar e; exact k
inductive J3 (f:M (Option Int)) (σ:St) (H:Hp) (Q:Option Int -> Hp -> Prop):Prop
 | mk (c:Ct) (δ:DS) (S:List D) (T:List V) (o:Option Int) (δ':DS) (s:Sl c δ S σ T H) (e:f δ = some (o,δ')) (q:∀ H',Sl c δ' S σ T H' -> Q o H'):J3 f σ H Q
abbrev DO (X:Cx) (e:Option Expr) (f:M (Option Int)):Prop:=PO X e (J3 f)
theorem Ht {e:Option Expr} {t t':TO} (h:PO X e t) (w:∀ σ H Q,t' σ H Q -> t σ H Q):PO X e t':=fun pins s σ H Q I q => h pins s σ H Q I (w σ H Q q)
theorem b_:DO X none (pure none):=Ht Bl fun σ H Q ⟨c,δ,S,T,o,δ',s,e,k⟩ => by
 obtain ⟨rfl,rfl⟩:=ar e
 exact k _ s
def mV:D -> M (Option Int)
 | .int i => pure (some i)
 | _ => lift none
theorem b5 (h:DE X e fa):DO X (some e) (fa >>= mV):=Ht (Cm h) fun σ H Q ⟨c,δ,S,T,o,δ',s,e,k⟩ => by
 obtain ⟨d,δ1,e1,e⟩:=bind_some e
 refine ⟨c,δ,S,T,d,δ1,s,e1,fun v H' s' => ?_⟩
 cases d with
 | int i =>
  obtain ⟨rfl,rfl⟩:=ar e
  exact ⟨i,s'.st.head.int,k _ s'.pop⟩
 | _ => cases e
def Jq (K:PySem.W.Frag):V -> Option Int -> Option Int -> Hp -> VK -> Prop:=fun x lo hi H Q => ∃ a xs,x = .ref a ∧ i4 K H a xs ∧ (HT.sIx xs.length 0 lo = 0 ∧ HT.sIx xs.length xs.length hi = xs.length) ∧ Q (.ref a) H
theorem xO:C_ X (Jq X.K):= by
 intro pins s σ H x v vl vu lo hi sl Q I rx hs pl pu h
 obtain ⟨a,xs,rfl,hx,hw,q⟩:=h
 cases rx
 obtain ⟨its,r,ht,hz⟩:=I.tuple hx
 have hlen:its.toArray.size = xs.length:=by rw [List.size_toArray]; exact r.length.symm
 refine ⟨"tuple",_,PyProof.Rows.slot_tuple_getitem.lookup,ht.typeIs,?_⟩
 exact rT ht hs pl pu (by rw [hlen]; exact hw) ⟨.ref a,H,I,rfl,q⟩
def FY (x:D) (lo hi:Option Int):Option D:=match x with
 | .tup xs => some (.tup (cutD xs lo hi))
 | .lst xs => some (.lst (cutD xs lo hi))
 | _ => none
def lY (fa:M D) (fl fh:M (Option Int)):M D:=do
 let x <- fa
 let lo <- fl
 let hi <- fh
 lift (FY x lo hi)
theorem wB {α:Type} (xs:List α) (lo hi:Option Int) (h1:HT.sIx xs.length 0 lo = 0) (h2:HT.sIx xs.length xs.length hi = xs.length):(xs.drop (HT.sIx xs.length 0 lo)).take (HT.sIx xs.length xs.length hi - HT.sIx xs.length 0 lo) = xs:= by
 rw [h1,h2]; simp
theorem bJ {lo hi:Option Expr} {fl fh:M (Option Int)} (he:DE X e fa) (hl:DO X lo fl) (hh:DO X hi fh):DE X (.Subscript e (.Slice lo hi none p2) pos) (lY fa fl fh):=cT (yh ((D1.or xO).or CK) he hl hh) fun σ H Q ⟨c,δ,S,T,d,δ',s,e,k⟩ => by
 obtain ⟨x,δ1,e1,e⟩:=bind_some e
 obtain ⟨l,δ2,e2,e⟩:=bind_some e
 obtain ⟨h,δ3,e3,e⟩:=bind_some e
 obtain ⟨e4,rfl⟩:=aE e
 refine ⟨c,δ,S,T,x,δ1,s,e1,fun v H1 s1 => ⟨c,δ1,x :: S,v :: T,l,δ2,s1,e2,fun H2 s2 => ⟨c,δ2,x :: S,v :: T,h,δ3,s2,e3,fun H3 s3 => ?_⟩⟩⟩
 cases x with
 | tup xs =>
  cases e4
  obtain ⟨q,vs,rfl,h1,h2⟩:=s3.st.head.tup
  by_cases hw:HT.sIx vs.length 0 l = 0 ∧ HT.sIx vs.length vs.length h = vs.length
  ·refine .inl (.inr ⟨q,vs,rfl,.of (bo _ _ h1),hw,k _ _ ?_⟩)
   rw [h2.length] at hw
   rw [show cutD xs l h = xs from wB xs l h hw.1 hw.2]
   exact s3
  ·refine .inl (.inl ⟨q,vs,rfl,.of (bo _ _ h1),hw,fun m hm => k _ _ ?_⟩)
   have rc:=xt h2 l h
   exact (s3.stk (rc.append s3.st.tail)).newTup rc.length hm
 | lst xs =>
  cases e4
  obtain ⟨q,vs,rfl,h1,h2⟩:=s3.st.head.lst
  refine .inr ⟨q,vs,rfl,.inl (Rd.mono bo h1),fun m hm => k _ _ ?_⟩
  have rc:=xt h2 l h
  have s4:=s3.stk (rc.append s3.st.tail)
  obtain ⟨f1,f2,f3⟩:=s4.fresh hm
  exact (s4.hide (o:=.lst (pk vs l h)) hm).unhideL rc.length f1
 | _ => cases e4
end
end Jt
namespace Jt
open PySem L2
section
variable {X:Cx} {a b e:Expr} {fa fb:M D} {ha' hb':M Hn} {fs fF fq:M (List D)} {pos p p2 apos cpos pt:Pos} {es rest:List Expr} {x:Str}
theorem d8 (i:Nat) {px:Pos} (hm:X.mg "tuple" = none) (hg:Gl X "tuple":=by rfl) (hN:X.N[i]? = some x:=by rfl) (hv:vd X.env.scope x:=by first | exact Or.inl rfl | exact Or.inr (Or.inl rfl) | exact Or.inr (Or.inr rfl)) (hd:(x == ("__debug__":Str)) = false:=by decide) (hcd:(x == ("__classdict__":Str)) = false:=by decide) :
  DE X (.Call (.Name "tuple" p) [.Name x px] [] pos) (do let xs <- aI i; pure (.tup xs)):=cT (fX jd hg hm (by decide +kernel) (er (eU hN hv hd hcd) ir) (by decide) (by decide) rfl rfl) fun σ H Q ⟨c,δ,S,T,fl,δ',s,e,k⟩ => by
 obtain ⟨xs,δ1,e1,e⟩:=bind_some e
 obtain ⟨rfl,rfl⟩:=ar e
 obtain ⟨⟨b,hi⟩,rfl⟩:=bZ e1
 obtain ⟨q,vs,ev,hq,hx⟩:=s.own hi
 exact ⟨_,ev,q,vs,rfl,.inl ⟨.of hq,fun m hm => k _ _ ((s.stk (hx.append s.st)).newTup hx.length hm)⟩⟩
def DV (neg:Bool) (x y:D):Option D:=i7 neg x y
theorem uY {c:Ct} {δ:DS} {S:List D} {σ:St} {T:List V} {H:Hp} {K:PySem.W.Frag} {x y:D} {v u:V} {z:D} {Q:VK} {neg:Bool} (t:nG c δ S σ T H x y v u) (eg:DV neg x y = some z) (w:∀ v H',Sl c δ (z :: S) σ (v :: T) H' -> Q v H'):IB K neg v u H Q:= by
 unfold DV i7 at eg
 split at eg
 ·rename_i w0 ds e1 e2
  cases e3:kY ds with
  | none => rw [e3] at eg; cases eg
  | some vs =>
   rw [e3] at eg; cases eg
   obtain ⟨rfl,f1⟩:=dJ t.rx e1
   cases y with
   | tup es =>
    cases e2
    obtain ⟨p,ws,rfl,h1,h3⟩:=t.ry.tup
    obtain ⟨rfl,f2⟩:=iP h3 e3
    exact ⟨p,ws,rfl,.inr (.of h1),f1,f2,w _ _ (t.sl.stk (.cons .mkB t.sl.st))⟩
   | lst es =>
    cases e2
    obtain ⟨p,ws,rfl,h1,h3⟩:=t.ry.lst
    obtain ⟨rfl,f2⟩:=iP h3 e3
    exact ⟨p,ws,rfl,.inl (.inl h1),f1,f2,w _ _ (t.sl.stk (.cons .mkB t.sl.st))⟩
   | _ => cases e2
 ·cases eg
theorem Gu (ha:DH X a ha') (hb:DH X b hb') (hm:behindInMarks .NotIn b = false:=by rfl):DE X (.Compare a [.NotIn] [b] pos) (ma (DV true) ha' hb'):=cT (ll gx ha hb hm) fun σ H Q ⟨c,δ,S,T,z,δ',s,e,k⟩ =>
 ub (W:=fun c δ' S σ T Q z => ∀ v H',Sl c δ' (z :: S) σ (v :: T) H' -> Q v H') (fun c δ S σ T H x y v u z Q t eg w => uY t eg w) σ H Q ⟨c,δ,S,T,z,δ',s,e,k⟩
theorem og (ha:DH X a ha') (hb:DH X b hb') (hm:behindInMarks .NotIn b = false:=by rfl):DT X (.Compare a [.NotIn] [b] pos) (ma (DV true) ha' hb' >>= cx):=uu (lu gx ha hb hm) (JN fun σ H Q ⟨c,δ,S,T,z,δ',s,e,k⟩ =>
 ub (W:=fun c δ' S σ T Q z => ∀ v H',Sl c δ' (z :: S) σ (v :: T) H' -> Q v H') (fun c δ S σ T H x y v u z Q t eg w => uY t eg w) σ H Q ⟨c,δ,S,T,z,δ',s,e,k⟩)
end
abbrev aG {α:Type} (n:Nat) (mf:List D -> Option α):List D -> Option α:=fun ds => if ds.length = n then mf ds else none
section
variable {P:Program} {w:World} {K:PySem.W.Frag} {mg:Str -> Option Value} {base:Heap} {f:Addr} {fd:FuncData} {ps:List Str} {k n:Nat}
theorem A5:d7 P w K mg base du k f fd ps (jw n fun _ => none):= by
 have no:∀ vs H Q E,¬ jw n (fun _ => none) vs H Q E:=fun vs H Q E h => by
  obtain ⟨_,_,_,_,_,_,e,_⟩:=h
  cases e
 exact ⟨fun vs H Q E h => absurd h (no vs H Q E),fun A outer s H args us vs Q E _ _ _ _ h => absurd h (no vs H Q E)⟩
def DN (K:PySem.W.Frag):Bool:=K.all fun p => !(p.2.cls == Value.type "list")
theorem Ig {H:Hp} {a:Addr} {xs:List V} (hK:DN K = true) (h:iY K H a xs):Rd H a (.lst xs):= by
 rcases h with h | ⟨o,its,n,hk,hc,_⟩
 ·exact h
 ·have hm:∃ p ∈ K,p.2 = o:= by
   clear hK
   induction K with
   | nil => cases hk
   | cons q r ih =>
    rw [List.lookup_cons] at hk
    split at hk
    ·cases hk; exact ⟨q,List.mem_cons_self,rfl⟩
    ·obtain ⟨p,hp,e⟩:=ih hk
     exact ⟨p,List.mem_cons_of_mem _ hp,e⟩
  obtain ⟨p,hp,e⟩:=hm
  have:=List.all_eq_true.mp hK p hp
  rw [e,hc] at this
  simp at this
end
end Jt
namespace Jt
open PySem L2
def Ok {α:Type} (m:M α) (δ:DS) (Q:α -> DS -> Prop):Prop:=∃ a δ',m δ = some (a,δ') ∧ Q a δ'
theorem Ok.mono {α:Type} {m:M α} {δ:DS} {Q Q':α -> DS -> Prop} (h:Ok m δ Q) (k:∀ a δ',Q a δ' -> Q' a δ'):Ok m δ Q':=let ⟨a,δ',e,q⟩:=h; ⟨a,δ',e,k a δ' q⟩
section
variable {α β:Type} {δ:DS} {Q:α -> DS -> Prop}
@[simp] theorem ax {m:M β} {f:β -> M α}:Ok (m >>= f) δ Q ↔ Ok m δ fun a δ' => Ok (f a) δ' Q:= by
 constructor
 ·rintro ⟨a,δ',e,q⟩
  obtain ⟨b,δ1,e1,e2⟩:=bind_some e
  exact ⟨b,δ1,e1,a,δ',e2,q⟩
 ·rintro ⟨b,δ1,e1,a,δ',e2,q⟩
  exact ⟨a,δ',by rw [M.bind_def,e1]; exact e2,q⟩
@[simp] theorem au {a:α}:Ok (pure a) δ Q ↔ Q a δ:= by
 constructor
 ·rintro ⟨b,δ',e,q⟩
  obtain ⟨rfl,rfl⟩:=ar e
  exact q
 ·exact fun q => ⟨a,δ,rfl,q⟩
@[simp] theorem b9 {a:α}:Ok (lift (some a)) δ Q ↔ Q a δ:= by
 constructor
 ·rintro ⟨b,δ',e,q⟩
  obtain ⟨e1,rfl⟩:=aE e
  cases e1; exact q
 ·exact fun q => ⟨a,δ,rfl,q⟩
@[simp] theorem Bw:Ok (lift (none:Option α)) δ Q ↔ False:=⟨fun ⟨_,_,e,_⟩ => (by cases e),False.elim⟩
theorem iZ {o:Option α} {a:α} (h:o = some a) (q:Q a δ):Ok (lift o) δ Q:=by subst h; exact b9.mpr q
@[simp] theorem Jb {c:Prop} [Decidable c] {m n:M α}:Ok (if c then m else n) δ Q ↔ (if c then Ok m δ Q else Ok n δ Q):=by split <;> exact Iff.rfl
end
section
variable {δ:DS}
@[simp] theorem bX {i:Nat} {Q:D -> DS -> Prop}:Ok (ag i) δ Q ↔ ∃ d,δ[i]? = some (.pu d) ∧ Q d δ:= by
 constructor
 ·rintro ⟨d,δ',e,q⟩
  obtain ⟨e1,rfl⟩:=oH e
  exact ⟨d,e1,q⟩
 ·rintro ⟨d,e,q⟩
  exact ⟨d,δ,by unfold ag; rw [e],q⟩
@[simp] theorem bA {i:Nat} {d:D} {Q:Unit -> DS -> Prop}:Ok (aY i d) δ Q ↔ i < δ.length ∧ Q () (δ.set i (.pu d)):= by
 constructor
 ·rintro ⟨u,δ',e,q⟩
  obtain ⟨h,rfl⟩:=kJ e
  exact ⟨h,q⟩
 ·rintro ⟨h,q⟩
  exact ⟨(),_,by unfold aY; rw [if_pos h],q⟩
@[simp] theorem IH {i:Nat} {d:List D} {Q:Unit -> DS -> Prop}:Ok (zg i d) δ Q ↔ i < δ.length ∧ Q () (δ.set i (.ow false d)):= by
 constructor
 ·rintro ⟨u,δ',e,q⟩
  obtain ⟨h,rfl⟩:=ou e
  exact ⟨h,q⟩
 ·rintro ⟨h,q⟩
  exact ⟨(),_,by unfold zg; rw [if_pos h],q⟩
@[simp] theorem fj {i:Nat} {Q:List D -> DS -> Prop}:Ok (aI i) δ Q ↔ ∃ b xs,δ[i]? = some (.ow b xs) ∧ Q xs δ:= by
 constructor
 ·rintro ⟨d,δ',e,q⟩
  obtain ⟨⟨b,e1⟩,rfl⟩:=bZ e
  exact ⟨b,d,e1,q⟩
 ·rintro ⟨b,d,e,q⟩
  exact ⟨d,δ,by unfold aI; rw [e],q⟩
@[simp] theorem qv {i:Nat} {xs:List D} {Q:Unit -> DS -> Prop}:Ok (setOw i xs) δ Q ↔ ∃ b ys,δ[i]? = some (.ow b ys) ∧ Q () (δ.set i (.ow b xs)):= by
 constructor
 ·rintro ⟨u,δ',e,q⟩
  obtain ⟨b,ys,h,rfl⟩:=gg e
  exact ⟨b,ys,h,q⟩
 ·rintro ⟨b,ys,h,q⟩
  exact ⟨(),_,by unfold setOw; rw [h],q⟩
@[simp] theorem GH {i:Nat} {Q:List D -> DS -> Prop}:Ok (nX i) δ Q ↔ ∃ xs,δ[i]? = some (.ow false xs) ∧ Q xs (δ.set i .un):= by
 constructor
 ·rintro ⟨d,δ',e,q⟩
  unfold nX at e
  split at e
  ·rename_i ys h; cases e; exact ⟨d,h,q⟩
  ·cases e
 ·rintro ⟨d,e,q⟩
  exact ⟨d,_,by unfold nX; rw [e],q⟩
@[simp] theorem dW {i:Nat} {fa:M D} {Q:Fl -> DS -> Prop}:Ok (dY i fa) δ Q ↔ Ok fa δ fun d δ1 => i < δ1.length ∧ Q .nx (δ1.set i (.pu d)):= by
 unfold dY; simp
@[simp] theorem FQ {i:Nat} {fa:M (List D)} {Q:Fl -> DS -> Prop}:Ok (t_ i fa) δ Q ↔ Ok fa δ fun d δ1 => i < δ1.length ∧ Q .nx (δ1.set i (.ow false d)):= by
 unfold t_; simp
@[simp] theorem cN {f g:M Fl} {Q:Fl -> DS -> Prop}:Ok (aJ f g) δ Q ↔ Ok f δ fun fl δ1 => match fl with
  | .nx => Ok g δ1 Q
  | fl => Q fl δ1:= by
 unfold aJ
 rw [ax]
 constructor <;>
 ·intro h
  refine h.mono fun fl δ1 q => ?_
  cases fl <;> simpa using q
theorem aR {f g:M Fl} {Q:Fl -> DS -> Prop} (P:DS -> Prop) (h:Ok f δ fun fl δ1 => fl = .nx ∧ P δ1) (k:∀ δ1,P δ1 -> Ok g δ1 Q):Ok (aJ f g) δ Q:= by
 rw [cN]
 refine h.mono fun fl δ1 ⟨e,p⟩ => ?_
 subst e
 exact k δ1 p
theorem bP {t:M Bool} {fa g:M Fl} {Q:Fl -> DS -> Prop} (b:Bool) (ht:Ok t δ fun b' δ1 => b' = b ∧ δ1 = δ) (h1:b = true -> Ok fa δ fun fl δ1 => ∃ d,fl = .rt d ∧ Q (.rt d) δ1) (h2:b = false -> Ok g δ Q):Ok (aJ (fT t fa (pure .nx)) g) δ Q:= by
 rw [cN]
 unfold fT
 rw [ax]
 refine ht.mono fun b' δ1 ⟨e1,e2⟩ => ?_
 subst e1; subst e2
 cases b' with
 | true =>
  refine Ok.mono (m:=fa) (h1 rfl) fun fl δ2 ⟨d,e,q⟩ => ?_
  subst e
  exact q
 | false => exact (au (Q:=fun fl δ1 => _)).mpr (h2 rfl)
theorem i5 {α:Type} {t:M Bool} {fa fb:M α} {Q:α -> DS -> Prop} (P:Bool -> DS -> Prop) (ht:Ok t δ P) (h1:∀ δ1,P true δ1 -> Ok fa δ1 Q) (h2:∀ δ1,P false δ1 -> Ok fb δ1 Q):Ok (fT t fa fb) δ Q:= by
 unfold fT
 rw [ax]
 refine ht.mono fun b δ1 p => ?_
 cases b with
 | true => exact h1 δ1 p
 | false => exact h2 δ1 p
@[simp] theorem xm {α:Type} {t:M Bool} {fa fb:M α} {Q:α -> DS -> Prop}:Ok (fT t fa fb) δ Q ↔ Ok t δ fun b δ1 => if b = true then Ok fa δ1 Q else Ok fb δ1 Q:= by
 unfold fT; simp
@[simp] theorem jL {ta tb:M Bool} {Q:Bool -> DS -> Prop}:Ok (my ta tb) δ Q ↔ Ok ta δ fun b δ1 => if b = true then Ok tb δ1 Q else Q false δ1:= by
 unfold my; simp
@[simp] theorem qj {ta tb:M Bool} {Q:Bool -> DS -> Prop}:Ok (oT ta tb) δ Q ↔ Ok ta δ fun b δ1 => if b = true then Q true δ1 else Ok tb δ1 Q:= by
 unfold oT; simp
@[simp] theorem uA {ta:M Bool} {Q:Bool -> DS -> Prop}:Ok (fQ ta) δ Q ↔ Ok ta δ fun b δ1 => Q (!b) δ1:= by
 unfold fQ; simp
@[simp] theorem dX {f:D -> D -> Option D} {fa fb:M D} {Q:D -> DS -> Prop}:Ok (m2 f fa fb) δ Q ↔ Ok fa δ fun x δ1 => Ok fb δ1 fun y δ2 => Ok (lift (f x y)) δ2 Q:= by
 unfold m2; simp
@[simp] theorem fH {α:Type} {f:List D -> Option α} {fs:M (List D)} {Q:α -> DS -> Prop}:Ok (mC f fs) δ Q ↔ Ok fs δ fun ds δ1 => Ok (lift (f ds)) δ1 Q:= by
 unfold mC; simp
@[simp] theorem Du {α:Type} {f:List D -> Option α} {fs:M (List D)} {Q:α -> DS -> Prop}:Ok (mQ f fs) δ Q ↔ Ok fs δ fun ds δ1 => Ok (lift (f ds)) δ1 Q:= by
 unfold mQ; simp
@[simp] theorem bQ {fa:M D} {fs:M (List D)} {Q:List D -> DS -> Prop}:Ok (ae fa fs) δ Q ↔ Ok fa δ fun x δ1 => Ok fs δ1 fun xs δ2 => Q (x :: xs) δ2:= by
 unfold ae; simp
@[simp] theorem uK {fs:M (List D)} {Q:D -> DS -> Prop}:Ok (cj fs) δ Q ↔ Ok fs δ fun xs δ1 => Ok (lift (few xs.length)) δ1 fun _ δ2 => Q (.tup xs) δ2:= by
 unfold cj; simp
@[simp] theorem dU {fs:M (List D)} {Q:List D -> DS -> Prop}:Ok (cK fs) δ Q ↔ Ok fs δ fun xs δ1 => Ok (lift (few xs.length)) δ1 fun _ δ2 => Q xs δ2:= by
 unfold cK; simp
@[simp] theorem dw {n:Nat} {Q:Unit -> DS -> Prop}:Ok (lift (few n)) δ Q ↔ n ≤ 100000 ∧ Q () δ:= by
 unfold few
 split
 ·rename_i h; rw [b9]; exact ⟨fun q => ⟨h,q⟩,fun q => q.2⟩
 ·rename_i h; rw [Bw]; exact ⟨False.elim,fun q => h q.1⟩
@[simp] theorem eT {d:D} {Q:Bool -> DS -> Prop}:Ok (cx d) δ Q ↔ ∃ b,d = .bl b ∧ Q b δ:= by
 constructor
 ·rintro ⟨b,δ',e,q⟩
  obtain ⟨e1,rfl⟩:=jM e
  exact ⟨b,e1,q⟩
 ·rintro ⟨b,rfl,q⟩
  exact ⟨b,δ,rfl,q⟩
@[simp] theorem Jv {d:D} {Q:Option Int -> DS -> Prop}:Ok (mV d) δ Q ↔ ∃ i,d = .int i ∧ Q (some i) δ:= by
 cases d <;> simp [mV]
@[simp] theorem IK {i:Nat} {fb:M D} {Q:D -> DS -> Prop}:Ok (pW i fb) δ Q ↔ (∃ b xs,δ[i]? = some (.ow b xs)) ∧ Ok fb δ fun y δ1 => ∃ b xs,δ1[i]? = some (.ow b xs) ∧ Ok (lift (cQ (.lst xs) y)) δ1 Q:= by
 unfold pW
 simp only [ax,fj]
 constructor
 ·rintro ⟨b,xs,e,h⟩; exact ⟨⟨b,xs,e⟩,h⟩
 ·rintro ⟨⟨b,xs,e⟩,h⟩; exact ⟨b,xs,e,h⟩
@[simp] theorem Ik {i:Nat} {Q:D -> DS -> Prop}:Ok (jQ i) δ Q ↔ ∃ b xs,δ[i]? = some (.ow b xs) ∧ Q (.int xs.length) δ:= by
 unfold jQ; simp
@[simp] theorem Gw {i:Nat} {fa:M D} {k:Int} {Q:Fl -> DS -> Prop}:Ok (p9 i fa k) δ Q ↔ Ok fa δ fun d δ1 => ∃ b xs,δ1[i]? = some (.ow b xs) ∧ Ok (lift (tD xs.length k)) δ1 fun j δ2 => ∃ b ys,δ2[i]? = some (.ow b ys) ∧ Q .nx (δ2.set i (.ow b (xs.set j d))):= by
 unfold p9; simp
theorem d5 {i:Nat} {fs:M (List D)} {Q:Fl -> DS -> Prop} (h0:∃ b xs,δ[i]? = some (.ow b xs)) (h:Ok fs δ fun ds δ1 => ∃ d b xs,ds = [d] ∧ δ1[i]? = some (.ow b xs) ∧ xs.length ≤ 100000 ∧ Q .nx (δ1.set i (.ow b (xs ++ [d])))):Ok (c8 i fs) δ Q:= by
 unfold c8
 obtain ⟨b,xs,e⟩:=h0
 simp only [ax,fj]
 refine ⟨b,xs,e,h.mono fun ds δ1 q => ?_⟩
 obtain ⟨d,b',ys,rfl,e1,hn,q⟩:=q
 simp only [ax,fj,dw,qv,au]
 exact ⟨b',ys,e1,hn,b',ys,e1,q⟩
theorem vk {i:Nat} {fs:M (List D)} {Q:D -> DS -> Prop} (h0:∃ b xs,δ[i]? = some (.ow b xs)) (h:Ok fs δ fun ds δ1 => ∃ (j:Nat) (b:Bool) (xs:List D) (d:D),ds = [.int j] ∧ δ1[i]? = some (.ow b xs) ∧ j < 100000 ∧ xs[j]? = some d ∧ Q d (δ1.set i (.ow b (xs.eraseIdx j)))):Ok (yS i fs) δ Q:= by
 unfold yS
 obtain ⟨b,xs,e⟩:=h0
 simp only [ax,fj]
 refine ⟨b,xs,e,h.mono fun ds δ1 q => ?_⟩
 obtain ⟨j,b',ys,d,rfl,e1,hn,e2,q⟩:=q
 simp only [ax,fj,qv,au]
 refine ⟨b',ys,e1,iZ (a:=d) ?_ ⟨b',ys,e1,?_⟩⟩
 ·rw [if_pos (by omega),Int.toNat_natCast]; exact e2
 ·rw [Int.toNat_natCast]; exact q
@[simp] theorem IU {fa fb:M D} {Q:D -> DS -> Prop}:Ok (qs fa fb) δ Q ↔ Ok fa δ fun x δ1 => match x with
  | .bl true => Ok fb δ1 Q
  | .bl false => Q (.bl false) δ1
  | _ => False:= by
 unfold qs
 rw [ax]
 constructor <;>
 ·intro h
  refine h.mono fun x δ1 q => ?_
  cases x with
  | bl b => cases b <;> simpa using q
  | _ => simpa using q
@[simp] theorem IX {fa:M D} {Q:D -> DS -> Prop}:Ok (yx fa) δ Q ↔ Ok fa δ fun x δ1 => match x with
  | .bl b => Q (.bl (!b)) δ1
  | _ => False:= by
 unfold yx
 rw [ax]
 constructor <;>
 ·intro h
  refine h.mono fun x δ1 q => ?_
  cases x <;> simpa using q
@[simp] theorem uX {T:Ty} {fa:M D} {Q:D -> DS -> Prop}:Ok (jl T fa) δ Q ↔ Ok fa δ fun d δ1 => Q (.bl (cM T d)) δ1:= by
 unfold jl; simp [wg]
@[simp] theorem FG {fa fb:M D} {Q:D -> DS -> Prop}:Ok (GP fa fb) δ Q ↔ Ok fa δ fun v δ1 => Ok (lift (cm v)) δ1 fun t δ2 => if t = true then Q v δ2 else Ok fb δ2 Q:= by
 unfold GP; simp
@[simp] theorem JR {fa:M D} {fl fh:M (Option Int)} {Q:D -> DS -> Prop}:Ok (lY fa fl fh) δ Q ↔ Ok fa δ fun x δ1 => Ok fl δ1 fun l δ2 => Ok fh δ2 fun h δ3 => Ok (lift (FY x l h)) δ3 Q:= by
 unfold lY; simp
@[simp] theorem yy {α:Type} {g:D -> D -> Option α} {fa fb:M Hn} {Q:α -> DS -> Prop}:Ok (ma g fa fb) δ Q ↔ Ok fa δ fun h1 δ1 => Ok fb δ1 fun h2 δ2 => Ok (AI h1) δ2 fun x δ3 => Ok (AI h2) δ3 fun y δ4 => Ok (lift (g x y)) δ4 Q:= by
 unfold ma; simp
@[simp] theorem yM {x:D} {Q:D -> DS -> Prop}:Ok (AI (.th x)) δ Q ↔ Q x δ:= by
 constructor
 ·rintro ⟨b,δ',e,q⟩; cases e; exact q
 ·exact fun q => ⟨x,δ,rfl,q⟩
@[simp] theorem yH {i:Nat} {Q:D -> DS -> Prop}:Ok (AI (.ls i)) δ Q ↔ ∃ b xs,δ[i]? = some (.ow b xs) ∧ Q (.lst xs) δ:= by
 constructor
 ·rintro ⟨d,δ',e,q⟩
  unfold AI at e
  dsimp only at e
  split at e
  ·rename_i b xs h; cases e; exact ⟨b,xs,h,q⟩
  ·cases e
 ·rintro ⟨b,xs,h,q⟩
  exact ⟨_,δ,by unfold AI; dsimp only; rw [h],q⟩
@[simp] theorem vn {i:Nat} {Q:Hn -> DS -> Prop}:Ok (pV i) δ Q ↔ ∃ b xs,δ[i]? = some (.ow b xs) ∧ Q (.ls i) δ:= by
 unfold pV; simp
@[simp] theorem vC {i n:Nat} {mf:List D -> List D -> Option (D × List D)} {fs:M (List D)} {Q:D -> DS -> Prop}:Ok (cf i n mf fs) δ Q ↔ Ok fs δ fun ds δ1 => ∃ b xs,δ1[i]? = some (.ow b xs) ∧ ds.length + 1 = n ∧ ∃ r,mf xs ds = some r ∧ Q r.1 (δ1.set i (.ow b r.2)):= by
 constructor
 ·rintro ⟨d,δ',e,q⟩
  unfold cf at e
  split at e
  ·cases e
  ·rename_i ds δ1 e1
   split at e
   ·rename_i b xs e2
    split at e
    ·rename_i hn
     split at e
     ·cases e
     ·rename_i d' xs' e3
      cases e
      exact ⟨ds,δ1,e1,b,xs,e2,hn,(d,xs'),e3,q⟩
    ·cases e
   ·cases e
 ·rintro ⟨ds,δ1,e,b,xs,e1,hn,⟨d,xs'⟩,e2,q⟩
  exact ⟨d,_,by unfold cf; rw [e]; dsimp only; rw [e1]; dsimp only; rw [if_pos hn,e2],q⟩
@[simp] theorem cP {gt:D -> M Unit} {tt:M Bool} {te:M D} {d:D} {Q:Option D -> DS -> Prop}:Ok (aZ gt tt te d) δ Q ↔ Ok (gt d) δ fun _ δ1 => Ok tt δ1 fun b δ2 => if b = true then Ok te δ2 fun x δ3 => Q (some x) δ3 else Q none δ2:= by
 unfold aZ; simp
@[simp] theorem pD {n:Nat} {g:List D -> M Unit} {ds:List D} {Q:Unit -> DS -> Prop}:Ok (ft n g (.tup ds)) δ Q ↔ (if ds.length = n then Ok (g ds) δ Q else False):= by
 show Ok (if ds.length = n then g ds else lift none) δ Q ↔ _
 split <;> simp
@[simp] theorem kC {f:D -> M Unit} {g:List D -> M Unit} {d:D} {ds:List D} {Q:Unit -> DS -> Prop}:Ok (b4 f g (d :: ds)) δ Q ↔ Ok (f d) δ fun _ δ1 => Ok (g ds) δ1 Q:= by
 show Ok (f d >>= fun _ => g ds) δ Q ↔ _
 simp
@[simp] theorem mH {Q:Unit -> DS -> Prop}:Ok (eY []) δ Q ↔ Q () δ:= by
 show Ok (pure ()) δ Q ↔ _
 simp
end
section
variable {δ:DS}
theorem IJ {lo own:Nat} {fi:M lg} {turn:D -> M (Option D)} {Q:List D -> DS -> Prop} (ds:List D) (g:D -> Option D) (hl:δ.length = lo) (hi:Ok fi δ fun it δ' => it = a_ ds ∧ δ' = δ) (hn:ds.length ≤ 100000)
  (ht:∀ d ∈ ds,Ok (turn d) (δ ++ List.replicate own .un) fun o δ2 => o = g d ∧ δ2.take lo = δ) (hQ:Q (ds.filterMap g) δ):Ok (aU lo own fi turn) δ Q:= by
 have gen:∀ es:List D,(∀ d ∈ es,d ∈ ds) -> d3 own turn (fun _ => true) (a_ es).1 δ = some (es.filterMap g,δ):= by
  intro es
  induction es with
  | nil => intro _; rfl
  | cons d es ih =>
   intro hs
   obtain ⟨o,δ2,e,rfl,e2⟩:=ht d (hs d List.mem_cons_self)
   show d3 own turn (fun _ => true) ((fun _ => some d) :: (a_ es).1) δ = _
   unfold d3
   dsimp only
   rw [e]
   dsimp only
   rw [hl,e2,ih fun x hx => hs x (List.mem_cons_of_mem _ hx)]
   dsimp only
   rw [List.filterMap_cons]
   cases g d <;> rfl
 unfold aU
 simp only [ax]
 refine ⟨(),δ,by unfold i9; rw [if_pos hl],hi.mono fun it δ' ⟨e1,e2⟩ => ?_⟩
 subst e1; subst e2
 refine dw.mpr ⟨by simpa [a_] using hn,ds.filterMap g,δ',gen ds fun _ h => h,hQ⟩
theorem aX {α:Type} {lo own:Nat} {fi:M lg} {turn:D -> M (Option D)} {Q:List D -> DS -> Prop} (as:List α) (e:α -> D) (g:α -> Option D) (hl:δ.length = lo) (hi:Ok fi δ fun it δ' => it = a_ (as.map e) ∧ δ' = δ) (hn:as.length ≤ 100000)
  (ht:∀ a ∈ as,Ok (turn (e a)) (δ ++ List.replicate own .un) fun o δ2 => o = g a ∧ δ2.take lo = δ) (hQ:Q (as.filterMap g) δ):Ok (aU lo own fi turn) δ Q:= by
 have gen:∀ es:List α,(∀ d ∈ es,d ∈ as) -> d3 own turn (fun _ => true) (a_ (es.map e)).1 δ = some (es.filterMap g,δ):= by
  intro es
  induction es with
  | nil => intro _; rfl
  | cons d es ih =>
   intro hs
   obtain ⟨o,δ2,e1,e0,e2⟩:=ht d (hs d List.mem_cons_self)
   show d3 own turn (fun _ => true) ((fun _ => some (e d)) :: (a_ (es.map e)).1) δ = _
   unfold d3
   dsimp only
   rw [e1]
   dsimp only
   rw [hl,e2,ih fun x hx => hs x (List.mem_cons_of_mem _ hx)]
   dsimp only
   rw [List.filterMap_cons,<- e0]
   cases o <;> rfl
 unfold aU
 simp only [ax]
 refine ⟨(),δ,by unfold i9; rw [if_pos hl],hi.mono fun it δ' ⟨e1,e2⟩ => ?_⟩
 subst e1; subst e2
 refine dw.mpr ⟨by simpa [a_] using hn,as.filterMap g,δ',gen as fun _ h => h,hQ⟩
theorem aO {α β:Type} (p:α -> Bool) (f:α -> β) (as:List α):(as.filterMap fun a => if p a = true then some (f a) else none) = (as.filter p).map f:= by
 induction as with
 | nil => rfl
 | cons a r ih =>
  rw [List.filterMap_cons,List.filter_cons,ih]
  cases p a <;> rfl
theorem eE {lo own:Nat} {fi:M lg} {turn:D -> M (Option D)} {Q:List D -> DS -> Prop} (ds:List D) (I:Nat -> List D -> DS -> Prop) (hl:δ.length = lo) (hi:Ok fi δ fun it δ' => it = a_ ds ∧ δ' = δ) (hn:ds.length ≤ 100000) (h0:I 0 [] δ)
  (ht:∀ k (hk:k < ds.length) acc δ,acc.length ≤ k -> δ.length = lo -> I k acc δ -> Ok (turn ds[k]) (δ ++ List.replicate own .un) fun o δ2 => (δ2.take lo).length = lo ∧ I (k + 1) (acc ++ o.toList) (δ2.take lo)) (hQ:∀ xs δ',xs.length ≤ ds.length -> δ'.length = lo -> I ds.length xs δ' -> Q xs δ'):Ok (aU lo own fi turn) δ Q:= by
 have gen:∀ (n k:Nat) (acc:List D) (δ:DS),ds.length - k = n -> k ≤ ds.length -> acc.length ≤ k -> δ.length = lo -> I k acc δ -> ∃ xs δ',d3 own turn (fun _ => true) (a_ (ds.drop k)).1 δ = some (xs,δ') ∧ δ'.length = lo ∧ I ds.length (acc ++ xs) δ' ∧ (acc ++ xs).length ≤ ds.length:= by
  intro n
  induction n with
  | zero =>
   intro k acc δ hk hk2 h0 h1 h2
   have:k = ds.length:=by omega
   subst this
   rw [List.drop_length]
   exact ⟨[],δ,rfl,h1,by simpa using h2,by simpa using h0⟩
  | succ n ih =>
   intro k acc δ hk hk2 h0 h1 h2
   have hlt:k < ds.length:=by omega
   rw [List.drop_eq_getElem_cons hlt]
   obtain ⟨o,δ2,e,q1,q2⟩:=ht k hlt acc δ h0 h1 h2
   have ho:o.toList.length ≤ 1:=by cases o <;> simp
   obtain ⟨xs,δ',e',r1,r2,r3⟩:=ih (k + 1) (acc ++ o.toList) (δ2.take lo) (by omega) hlt (by rw [List.length_append]; omega) q1 q2
   refine ⟨o.toList ++ xs,δ',?_,r1,by simpa using r2,by simpa using r3⟩
   show d3 own turn (fun _ => true) ((fun _ => some ds[k]) :: (a_ (ds.drop (k + 1))).1) δ = _
   unfold d3
   dsimp only
   rw [e]
   dsimp only
   rw [h1,e']
 unfold aU
 simp only [ax]
 refine ⟨(),δ,by unfold i9; rw [if_pos hl],hi.mono fun it δ' ⟨e1,e2⟩ => ?_⟩
 subst e1; subst e2
 obtain ⟨xs,δ2,e,r1,r2,r3⟩:=gen ds.length 0 [] δ' (by omega) (Nat.zero_le _) (Nat.le_refl _) hl h0
 rw [List.drop_zero] at e
 exact dw.mpr ⟨by simpa [a_] using hn,xs,δ2,e,hQ xs δ2 (by simpa using r3) r1 (by simpa using r2)⟩
theorem tF {i n k:Nat} {b:Bool} {xs:List D} (h:k < (c_ i n).1.length) (hx:δ[i]? = some (.ow b xs)) (hn:xs.length = n):(c_ i n).1[k] δ = xs[k]?:= by
 have e:=List.getElem_map (fun (j:Nat) (δ:DS) => (match δ[i]? with | some (.ow _ xs) => if xs.length = n then xs[j]? else none | _ => none:Option D)) (l:=List.range n) (i:=k) (h:=by simpa [c_] using h)
 refine Eq.trans (congrFun e δ) ?_
 rw [List.getElem_range,hx]
 simp [hn]
theorem w6 {α:Type} {lo own i:Nat} {b:Bool} {fi:M lg} {turn:D -> M (Option D)} {Q:List D -> DS -> Prop} (as:List α) (e:α -> D) (g:α -> Option D) (hl:δ.length = lo) (hx:δ[i]? = some (.ow b (as.map e))) (hi:Ok fi δ fun it δ' => it = c_ i as.length ∧ δ' = δ) (hn:as.length ≤ 100000)
  (ht:∀ a ∈ as,Ok (turn (e a)) (δ ++ List.replicate own .un) fun o δ2 => o = g a ∧ δ2.take lo = δ) (hQ:Q (as.filterMap g) δ):Ok (aU lo own fi turn) δ Q:= by
 have gen:∀ (n k:Nat),as.length - k = n -> k ≤ as.length -> d3 own turn (c_ i as.length).2 ((c_ i as.length).1.drop k) δ = some ((as.drop k).filterMap g,δ):= by
  intro n
  induction n with
  | zero =>
   intro k hk hk2
   have:k = as.length:=by omega
   subst this
   rw [List.drop_length,List.drop_eq_nil_of_le (by simp [c_])]
   have ef:(c_ i as.length).2 δ = true:=by simp [c_,hx]
   unfold d3
   rw [if_pos ef]
   rfl
  | succ n ih =>
   intro k hk hk2
   have hlt:k < as.length:=by omega
   have hlt2:k < (c_ i as.length).1.length:=by simpa [c_] using hlt
   rw [List.drop_eq_getElem_cons hlt,List.drop_eq_getElem_cons hlt2]
   obtain ⟨o,δ2,e1,e0,e2⟩:=ht as[k] (List.getElem_mem hlt)
   unfold d3
   have ea:(c_ i as.length).1[k] δ = some (e as[k]):= by
    rw [tF hlt2 hx (by simp)]
    simp [hlt]
   rw [ea]
   dsimp only
   rw [e1]
   dsimp only
   rw [hl,e2,ih (k + 1) (by omega) hlt]
   dsimp only
   rw [List.filterMap_cons,<- e0]
   cases o <;> rfl
 unfold aU
 simp only [ax]
 refine ⟨(),δ,by unfold i9; rw [if_pos hl],hi.mono fun it δ' ⟨e1,e2⟩ => ?_⟩
 subst e1; subst e2
 refine dw.mpr ⟨by simpa [c_] using hn,as.filterMap g,δ',?_,hQ⟩
 have:=gen as.length 0 (by omega) (Nat.zero_le _)
 rwa [List.drop_zero,List.drop_zero] at this
def GD (gt:D -> M Unit) (body:M Fl) (its:List (DS -> Option D)) (fl:Fl):M Fl:=match fl with
 | .nx => forM gt body (fun _ => true) its
 | .ct => forM gt body (fun _ => true) its
 | .bk => pure .nx
 | .rt d => pure (.rt d)
 | .rf d => pure (.rf d)
theorem vZ (gt:D -> M Unit) (body:M Fl) (its:List (DS -> Option D)) {d:D} {δ δ1 δ2:DS} {u:Unit} {fl:Fl} (e1:gt d δ = some (u,δ1)) (e2:body δ1 = some (fl,δ2)):forM gt body (fun _ => true) ((fun _ => some d) :: its) δ = GD gt body its fl δ2:= by
 rw [forM]
 dsimp only
 rw [M.bind_def,e1]
 dsimp only
 rw [M.bind_def,e2]
 cases fl <;> rfl
theorem uj {gt:D -> M Unit} {body:M Fl} {Q:Fl -> DS -> Prop} (ds:List D) (I:Nat -> DS -> Prop) (h0:I 0 δ)
  (ht:∀ k (hk:k < ds.length) δ,I k δ -> Ok (gt ds[k]) δ fun _ δ1 => Ok body δ1 fun fl δ2 => match fl with
   | .nx => I (k + 1) δ2
   | .ct => I (k + 1) δ2
   | .bk => Q .nx δ2
   | .rt d => Q (.rt d) δ2
   | .rf d => Q (.rf d) δ2) (hQ:∀ δ,I ds.length δ -> Q .nx δ):Ok (forM gt body (a_ ds).2 (a_ ds).1) δ Q:= by
 have gen:∀ (n k:Nat) (δ:DS),ds.length - k = n -> k ≤ ds.length -> I k δ -> Ok (forM gt body (fun _ => true) (a_ (ds.drop k)).1) δ Q:= by
  intro n
  induction n with
  | zero =>
   intro k δ hk hk2 h
   have:k = ds.length:=by omega
   subst this
   rw [List.drop_length]
   exact ⟨.nx,δ,rfl,hQ δ h⟩
  | succ n ih =>
   intro k δ hk hk2 h
   have hlt:k < ds.length:=by omega
   rw [List.drop_eq_getElem_cons hlt]
   have ht':=ht k hlt δ h
   obtain ⟨u,δ1,e1,fl,δ2,e2,q⟩:=ht'
   have st:forM gt body (fun _ => true) (a_ (ds[k] :: ds.drop (k + 1))).1 δ = GD gt body (a_ (ds.drop (k + 1))).1 fl δ2:= by
    show forM gt body (fun _ => true) ((fun _ => some ds[k]) :: (a_ (ds.drop (k + 1))).1) δ = _
    exact vZ gt body _ e1 e2
   cases fl with
   | nx => obtain ⟨a,δ',e,q'⟩:=ih (k + 1) δ2 (by omega) hlt q; exact ⟨a,δ',st.trans e,q'⟩
   | ct => obtain ⟨a,δ',e,q'⟩:=ih (k + 1) δ2 (by omega) hlt q; exact ⟨a,δ',st.trans e,q'⟩
   | bk => exact ⟨.nx,δ2,st,q⟩
   | rt d => exact ⟨.rt d,δ2,st,q⟩
   | rf d => exact ⟨.rf d,δ2,st,q⟩
 have:=gen ds.length 0 δ (by omega) (Nat.zero_le _) h0
 rwa [List.drop_zero] at this
theorem gW {fi:M lg} {gt:D -> M Unit} {body:M Fl} {Q:Fl -> DS -> Prop} (ds:List D) (I:Nat -> DS -> Prop) (hi:Ok fi δ fun it δ' => it = a_ ds ∧ δ' = δ) (h0:I 0 δ)
  (ht:∀ k (hk:k < ds.length) δ,I k δ -> Ok (gt ds[k]) δ fun _ δ1 => Ok body δ1 fun fl δ2 => match fl with
   | .nx => I (k + 1) δ2
   | .ct => I (k + 1) δ2
   | .bk => Q .nx δ2
   | .rt d => Q (.rt d) δ2
   | .rf d => Q (.rf d) δ2) (hQ:∀ δ,I ds.length δ -> Q .nx δ):Ok (do let it <- fi; Jt.forM gt body it.2 it.1) δ Q:= by
 rw [ax]
 refine hi.mono fun it δ' ⟨e1,e2⟩ => ?_
 subst e1; subst e2
 exact uj ds I h0 ht hQ
end
theorem cn {N:List Str} {body:M Fl} {ds:List D} {d:D} (h:Ok body (entry N ds) fun fl _ => fl = .rt d):bf N body ds = some d:= by
 obtain ⟨fl,δ',e,rfl⟩:=h
 unfold bf
 rw [e]
theorem lq {N:List Str} {body:M Fl} {ds:List D} {d:List D} (h:Ok body (entry N ds) fun fl _ => fl = .rf d):eL N body ds = some d:= by
 obtain ⟨fl,δ',e,rfl⟩:=h
 unfold eL
 rw [e]
theorem eP {N:List Str} {body:M Fl} {xs ds:List D} {Q:D -> List D -> Prop} (h:Ok body (eZ N xs ds) fun fl δ => ∃ d xs',fl = .rt d ∧ δ[0]? = some (.ow true xs') ∧ Q d xs'):∃ d xs',bz N body xs ds = some (d,xs') ∧ Q d xs':= by
 obtain ⟨fl,δ',e,d,xs',rfl,e1,q⟩:=h
 refine ⟨d,xs',?_,q⟩
 unfold bz
 rw [e]
 dsimp only
 rw [e1]
theorem u3 {N:List Str} {body:M Fl} {ds:List D} {Q:D -> Prop} (h:Ok body (entry N ds) fun fl _ => ∃ d,fl = .rt d ∧ Q d):∃ d,bf N body ds = some d ∧ Q d:= by
 obtain ⟨fl,δ',e,d,rfl,q⟩:=h
 exact ⟨d,by unfold bf; rw [e],q⟩
theorem C4 {N:List Str} {body:M Fl} {ds:List D} {Q:List D -> Prop} (h:Ok body (entry N ds) fun fl _ => ∃ d,fl = .rf d ∧ Q d):∃ d,eL N body ds = some d ∧ Q d:= by
 obtain ⟨fl,δ',e,d,rfl,q⟩:=h
 exact ⟨d,by unfold eL; rw [e],q⟩
end Jt
namespace Jt
open PySem L2 PySem.Spec PyProof.Rows
section
variable {prog:Program} {w:World} {A:Around} {E:Value -> Shared -> Prop} {s:Shared}
end
section
variable {X:Cx}
end
section
variable {X:Cx} {e:Expr} {fq:M (List D)} {p pos:Pos}
end
end Jt
namespace Jt
open PySem L2
section
variable {X:Cx}
def never {α:Type}:M α:=fun _ => none
theorem rj {st:Stmt}:ql X st never:=fun pins s σ H E I h => by
 obtain ⟨c,δ,S,T,fl,δ',s,e,k⟩:=h
 cases e
end
section
variable {X:Cx} {a:Expr} {fs:M (List D)} {pos p apos cpos:Pos} {x:Str}
def IC (i:Nat) (fs:M (List D)):M Fl:=do
 let _ <- aI i
 let ds <- fs
 match ds with
 | [.int j] => do
  let xs <- aI i
  let ns <- lift (fG xs)
  let _ <- lift (if j ∈ ns then some () else none)
  setOw i ((ns.eraseIdx (ns.idxOf j)).map .int)
  pure .nx
 | _ => lift none
end
def Hl (c:Ct) (δ:DS) (σ:L2.St) (L:List Addr) (a:Addr):Prop:=Hd c δ σ a ∧ a ∉ L
section
variable {X:Cx} {a:Expr} {ha':M Hn} {fs:M (List D)} {pos p:Pos} {es:List Expr} {x:Str}
variable {k:Nat} {f:Addr} {fd:FuncData} {ps:List Str}
open Classical in
end
end Jt
namespace Jt
open PySem L2
section
variable {X:Cx} {a:Expr} {fa:M D} {pos:Pos}
def h9:D -> Option D
 | .int i => some (.int (-i))
 | _ => none
def m1 (f:D -> Option D) (fa:M D):M D:=do
 let x <- fa
 lift (f x)
theorem kv (ha:DE X a fa):DE X (.UnaryOp .USub a pos) (m1 h9 fa):=cT (Dk yV ha) fun σ H Q ⟨c,δ,S,T,d,δ',s,e,k⟩ => by
 obtain ⟨x,δ1,e1,e⟩:=bind_some e
 obtain ⟨e2,rfl⟩:=aE e
 refine ⟨c,δ,S,T,x,δ1,s,e1,fun v H' s' => ?_⟩
 cases x with
 | int i =>
  cases e2
  exact ⟨i,s'.st.head.int,k _ _ (s'.pop.stk (.cons .mkI s'.pop.st))⟩
 | _ => cases e2
end
end Jt
namespace Jt
open PySem L2
section
variable {δ:DS}
@[simp] theorem JX {f:D -> Option D} {fa:M D} {Q:D -> DS -> Prop}:Ok (m1 f fa) δ Q ↔ Ok fa δ fun x δ1 => Ok (lift (f x)) δ1 Q:= by
 unfold m1; simp
@[simp] theorem JF {r1 r2:D -> D -> Option D} {fa fb fc:M D} {Q:D -> DS -> Prop}:Ok (AH r1 r2 fa fb fc) δ Q ↔ Ok fa δ fun x δ1 => Ok fb δ1 fun y δ2 => Ok (lift (r1 x y)) δ2 fun z δ3 => match z with
  | .bl true => Ok fc δ3 fun w δ4 => Ok (lift (r2 y w)) δ4 Q
  | .bl false => Q (.bl false) δ3
  | _ => False:= by
 unfold AH
 simp only [ax]
 constructor <;>
 ·intro h
  refine h.mono fun x δ1 h => h.mono fun y δ2 h => h.mono fun z δ3 h => ?_
  cases z with
  | bl b => cases b <;> simpa using h
  | _ => simpa using h
theorem vq {tt:M Bool} {body:M Fl} {Q:Fl -> DS -> Prop} (I:Nat -> DS -> Prop) (h:∀ k δ,I k δ -> Ok tt δ fun b δ1 => (b = true -> ∃ j,k = j + 1 ∧ Ok body δ1 fun fl δ2 => fl = .nx ∧ I j δ2) ∧ (b = false -> Q .nx δ1)) :
  ∀ (f n:Nat) (δ:DS),n < f -> I n δ -> Ok (De tt body f) δ Q
 | 0,n,δ,hf,_ => by omega
 | f + 1,n,δ,hf,hI => by
  unfold De
  rw [ax]
  refine (h n δ hI).mono fun b δ1 hb => ?_
  cases b with
  | false => exact au.mpr (hb.2 rfl)
  | true =>
   obtain ⟨j,rfl,hj⟩:=hb.1 rfl
   show Ok (body >>= _) δ1 Q
   rw [ax]
   refine hj.mono fun fl δ2 ⟨e,hI2⟩ => ?_
   subst e
   exact vq I h f j δ2 (by omega) hI2
end
end Jt
namespace Jt
open PySem L2 PySem.Spec PyProof.Rows
section
variable {prog:Program} {w:World} {A:Around} {E:Value -> Shared -> Prop} {s:Shared}
theorem zC {t b:Addr} {ws:List Value} {Q:Value -> Shared -> Prop} (ht:IsTup s.heap t #[]) (hb:IsTup s.heap b ws.toArray) (h:Q (.ref b) s):wpAny (model prog w) A (binaryOp .Add (.ref t) (.ref b)) Q E s:= by
 obtain ⟨⟨cls,dd,data,sl⟩,ho,hc,n,hd⟩:=id ht
 obtain ⟨⟨cls2,dd2,data2,sl2⟩,ho2,hc2,n2,hd2⟩:=id hb
 simp only at hc hd hc2 hd2
 subst hc hd hc2 hd2
 exact concat_meets ⟨_,ho,rfl⟩ ⟨_,ho2,rfl⟩ noFill_tuple_add seq_tuple_add PySem.F.slot_tuple_add PySem.F.entry_tuple_add (PySem.F.args_tuple_add_2 _ _) (tuple_addW0 t b #[] ws.toArray n n2 dd dd2 sl sl2 rfl) ⟨ho,ho2,h⟩
end
section
variable {X:Cx} {a b e:Expr} {fa fb:M D} {pos:Pos}
def Df (K:PySem.W.Frag):R2:=fun x y H Q => xr K x y H Q ∨ ∃ p q ys,x = .ref p ∧ y = .ref q ∧ i4 K H p [] ∧ i4 K H q ys ∧ Q (.ref q) H
theorem CF:gf X (binaryOp .Add) (Df X.K):= by
 intro pins s σ H x y v u Q I rx ry h
 rcases h with h | ⟨p,q,ys,rfl,rfl,hp,hq,k⟩
 ·exact Ba pins s σ H x y v u Q I rx ry h
 ·cases rx
  cases ry
  obtain ⟨its,r1,p1,_⟩:=I.tuple hp
  obtain ⟨its2,r2,p2,_⟩:=I.tuple hq
  have e:its = []:=r1.nil_iff.mpr rfl
  subst e
  exact zC p1 p2 ⟨.ref q,H,I,rfl,k⟩
def cC:D -> D -> Option D
 | .tup xs,.tup ys => if xs.length + ys.length ≤ 100000 then some (.tup (xs ++ ys)) else none
 | _,_ => none
theorem xA {K:PySem.W.Frag}:qk (Df K) cC:=fun c δ S σ T H x y v u d Q s e k => by
 unfold cC at e
 split at e
 ·rename_i xs ys
  split at e
  ·rename_i hn
   cases e
   cases xs with
   | cons x xs =>
    refine .inl (yk c δ S σ T H (.tup (x :: xs)) (.tup ys) v u _ Q s ?_ k)
    show (if xs.length + 1 + ys.length ≤ 100000 then _ else _) = _
    rw [if_pos (by simpa using hn)]
   | nil =>
    obtain ⟨p,ws,rfl,h1,h3⟩:=s.st.tail.head.tup
    obtain ⟨q,zs,rfl,h4,h5⟩:=s.st.head.tup
    rw [h3.inv0] at h1
    exact .inr ⟨p,q,zs,rfl,rfl,.of (bo _ _ h1),.of (bo _ _ h4),k _ _ (s.stk (.cons s.st.head s.st.tail.tail))⟩
  ·cases e
 ·cases e
theorem cV (ha:DE X a fa) (hb:DE X b fb):DE X (.BinOp a .Add b pos) (m2 cC fa fb):=kR CF xA ha hb
theorem D0 {pins:List (Addr × Obj)} {σ:L2.St} {H:Hp} {s:Shared} (I:L2.Inv X pins σ H s):s.heap.objs.size ≠ sysModules:=fun e => by
 obtain ⟨_,_,_,ho,_⟩:=I.mod.glob
 have:=Heap.lt_size (I.bk _ _ ho)
 rw [e] at this
 exact absurd this (by decide)
theorem yG:PE X (.Dict [] [] pos) (fun σ H Q => ∀ l,H l = none -> Q (.ref l) (upd H l (mU l))):= by
 intro pins s σ H Q I h
 refine wpAny_Dict_empty ?_
 have g:(s.heap.push { cls:=.type "dict",data:=.dict #[] }).get? s.heap.objs.size = some { cls:=.type "dict",data:=.dict #[] }:=Heap.get?_push_size _ rfl
 refine ⟨.ref s.heap.objs.size,_,I.laid (t':=s.toks) (o:=mU s.heap.objs.size) (fun b ob q => Heap.get?_push_of_some _ q) (Nat.le_refl _) ⟨⟨D0 I,_,_,g,rfl,rfl⟩,⟨_,g⟩,fun h1 h2 ⟨hn,o,n,e1,e2,e3⟩ k => ⟨hn,o,n,k o e1,e2,e3⟩⟩,rfl,h _ (I.hok.fresh (Nat.le_refl _))⟩
theorem xq:DE X (.Dict [] [] pos) (pure .dct):=cT yG fun σ H Q ⟨c,δ,S,T,d,δ',s,e,k⟩ => by
 obtain ⟨rfl,rfl⟩:=ar e
 intro l hl
 have s':=s.grow (il hl (mU l))
 exact k _ _ (s'.stk (.cons (.mkD (fm.mpr ⟨s.hdNew hl,aV⟩)) s'.st))
end
end Jt
namespace Jt
open PySem L2 PySem.Spec PyProof.Rows
section
variable {prog:Program} {w:World} {A:Around} {E:Value -> Shared -> Prop} {s:Shared}
theorem ko {sl:Addr} {t:Tok} {n:Nat} {Q:Int × Int × Nat -> Shared -> Prop} (hs:s.heap.IsSliceOf sl .none .none (.int (-1) t)) (h:Q ((n:Int) - 1,-1,n) s):wpAny (model prog w) A (Builtin.Slice.sliceApplied (.ref sl) (pure (n:Int))) Q E s:= by
 obtain ⟨os,hos,hcs,hds⟩:=id hs
 unfold Builtin.Slice.sliceApplied Builtin.Slice.sliceFields
 refine wpAny_bind (wpAny_bind (wpAny_field hos hds (x:=.none) rfl (wpAny_bind (wpAny_field hos hds (x:=.none) rfl (wpAny_bind (wpAny_field hos hds (x:=.int (-1) t) rfl (wpAny_pure ?_)))))))
 refine wpAny_bind (HT.slicePart_ (.int (-1) t) ?_)
 show wpAny _ _ (if ((-1:Int) == 0) = true then _ else _) _ _ s
 rw [if_neg (by decide)]
 refine wpAny_bind (HT.slicePart_ .none (wpAny_bind (HT.slicePart_ .none (wpAny_bind (wpAny_pure ?_)))))
 show wpAny _ _ (match Builtin.Slice.sliceAdjust none none (-1) (n:Int) with | (lo,hi) => pure (lo,(-1:Int),Builtin.Slice.slicePlaces lo hi (-1))) _ _ s
 have e1:Builtin.Slice.sliceAdjust none none (-1) (n:Int) = ((n:Int) - 1,-1):=rfl
 rw [e1]
 show wpAny _ _ (pure ((n:Int) - 1,(-1:Int),Builtin.Slice.slicePlaces ((n:Int) - 1) (-1) (-1))) _ _ s
 have e2:Builtin.Slice.slicePlaces ((n:Int) - 1) (-1) (-1) = n:= by
  unfold Builtin.Slice.slicePlaces
  rw [if_neg (by omega)]
  by_cases h0:n = 0
  ·subst h0; rfl
  ·rw [if_pos (by omega)]
   have:((n:Int) - 1 - -1 - 1) / -(-1) = (n:Int) - 1:= by
    rw [show -(-1:Int) = 1 from rfl,Int.ediv_one]
    omega
   rw [this]
   omega
 rw [e2]
 exact wpAny_pure h
theorem rJ {α β:Type} {f g:α -> Option β}:∀ l:List α,(∀ x ∈ l,f x = g x) -> l.filterMap f = l.filterMap g
 | [],_ => rfl
 | a :: r,h => by
  rw [List.filterMap_cons,List.filterMap_cons,h a List.mem_cons_self,rJ r fun x hx => h x (List.mem_cons_of_mem _ hx)]
theorem zx (xs:Array Value):((List.range xs.size).filterMap fun (m:Nat) => xs[((xs.size:Int) - 1 + (m:Int) * (-1)).toNat]?).toArray = xs.toList.reverse.toArray:= by
 congr 1
 have:∀ m ∈ List.range xs.size,xs[((xs.size:Int) - 1 + (m:Int) * (-1)).toNat]? = some (xs.toList.reverse.getD m Value.none):=fun m hm => by
  have hm':m < xs.size:=List.mem_range.mp hm
  rw [show ((xs.size:Int) - 1 + (m:Int) * (-1)).toNat = xs.size - 1 - m by omega]
  have h1:xs.size - 1 - m < xs.size:=by omega
  rw [List.getD_eq_getElem?_getD,List.getElem?_eq_getElem (by simpa using hm'),List.getElem_reverse]
  simp [h1]
 have e:(List.range xs.size).filterMap (fun (m:Nat) => xs[((xs.size:Int) - 1 + (m:Int) * (-1)).toNat]?) = (List.range xs.size).filterMap fun m => some (xs.toList.reverse.getD m Value.none):= by
  exact rJ _ this
 rw [e,List.filterMap_eq_map']
 refine List.ext_getElem (by simp) fun i h1 h2 => ?_
 have:i < xs.size:=by simpa using h1
 simp [this]
theorem jS {a sl:Addr} {items:Array Value} {t:Tok} {Q:Value -> Shared -> Prop} (ht:IsTup s.heap a items) (hs:s.heap.IsSliceOf sl .none .none (.int (-1) t))
  (h:Q (.ref s.heap.objs.size) { s with heap:=s.heap.push { cls:=.type "tuple",data:=.seq items.toList.reverse.toArray } }) (hsz:items.size ≤ sizeLine):wpAny (model prog w) A (getItem (.ref a) (.ref sl)) Q E s:= by
 have htake:sizeOk (.seq items.toList.reverse.toArray):= by
  show items.toList.reverse.toArray.size ≤ sizeLine
  simpa using hsz
 obtain ⟨os,hos,hcs,hds⟩:=id hs
 have hTs:s.TypeIs (.ref sl) "slice":=⟨os,hos,hcs⟩
 unfold getItem
 try with_reducible refine wpAny_holding ?_
 first | refine wpAny_bind (wpAny_pure ?_) | skip
 refine wpAny_bind (wpAny_sequenceKey ht.typeIs (by decide) ?_)
 refine wpAny_bind (wpAny_callSpecial?_slot (name:=Str.ofString "__getitem__") ht.typeIs slot_tuple_getitem (wpAny_call_entry slot_tuple_getitem ht.typeIs entry_tuple_getitem ?_ (args_tuple_getitem _ _)))
 show wpAny _ _ (Builtin.Tuple.tupleItemsOf (.ref a) >>= _) _ _ s
 refine wpAny_bind (tupleItemsOf_ ht (wpAny_bind (wpAny_typeOf hTs ?_)))
 rw [if_pos (by decide)]
 refine wpAny_bind (ko hs ?_)
 have hno:¬ (((((items.size:Int) - 1) == 0 && (-1:Int) == 1 && items.size == items.size) = true)):=by simp
 show wpAny _ _ (if ((((items.size:Int) - 1) == 0 && (-1:Int) == 1 && items.size == items.size) = true) then _ else _) _ _ s
 rw [if_neg hno,zx]
 first
  | exact wpAny_bind (m:=Builtin.Tuple.tupleExact _) (wpAny_newObj_type (wpAny_pure ⟨_,rfl,wpAny_pure h⟩) htake)
  | exact wpAny_bind (m:=Builtin.Tuple.tupleExact _) (wpAny_newObj_type (wpAny_bind (wpAny_pure (wpAny_pure ⟨_,rfl,wpAny_pure h⟩))) htake)
  | exact wpAny_bind (wpAny_bind (m:=Builtin.Tuple.tupleExact _) (wpAny_newObj_type (wpAny_pure (wpAny_pure ⟨_,rfl,wpAny_pure h⟩)) htake))
  | exact wpAny_bind (wpAny_bind (m:=Builtin.Tuple.tupleExact _) (wpAny_newObj_type (wpAny_pure ⟨_,rfl,wpAny_pure h⟩) htake))
end
section
variable {X:Cx} {e:Expr} {te:TE} {fa:M D} {j:Nat} {pos p2 p3 p4:Pos}
theorem zV {vs:List V} {us:List Value} (r:Vals vs us):Vals vs.reverse us.reverse:= by
 induction r with
 | nil => exact .nil
 | cons h _ ih => rw [List.reverse_cons,List.reverse_cons]; exact ih.append (.cons h .nil)
theorem F3 (he:PE X e te):PE X (.Subscript e (.Slice none none (some (.UnaryOp .USub (.Constant (.int 1) j p3) p4)) p2) pos) (fun σ H Q => te σ H fun x H1 => ∃ a xs,x = .ref a ∧ i4 X.K H1 a xs ∧ ∀ l,H1 l = none -> Q (.ref l) (upd H1 l (.tup xs.reverse))):= by
 intro pins s σ H Q I h
 refine Subscript_ (cW (he pins s σ H _ I h) fun v s1 ⟨x,H1,I1,r1,q1⟩ => ?_)
 obtain ⟨a,xs,rfl,hx,q⟩:=q1
 cases r1
 refine wpAny_Slice ?_
 rw [evalPart_none]
 refine wpAny_pure (wpAny_pure ?_)
 rw [evalPart_some]
 refine cW ((Dk yV tS) pins s1 σ H1 (fun v H' => v = .int (-1) ∧ H' = H1) I1 ⟨1,rfl,rfl,rfl⟩) fun v2 s2 ⟨y,H2,I2,r2,e2,e3⟩ => ?_
 subst e2
 subst e3
 obtain ⟨t,rfl⟩:=r2
 have I4:Inv X pins σ H2 { s2 with heap:=s2.heap.push { cls:=.type "slice",data:=.fields #[.none,.none,.int (-1) t] } }:=I2.kept (t':=s2.toks) fun b ob q => Heap.get?_push_of_some _ q
 obtain ⟨its,r,ht,hz⟩:=I4.tuple hx
 have hlen:its.toArray.size = xs.length:=by rw [List.size_toArray]; exact r.length.symm
 refine tail_any (ops:=[.ref a,.ref s2.heap.objs.size]) ht.typeIs slot_tuple_getitem.lookup (jS ht (Heap.IsSliceOf.new ..) ?_ (by rw [hlen]; exact hz)) (by with_unfolding_all rfl)
 refine ⟨.ref _,_,I4.laid (t':=s2.toks) (o:=.tup xs.reverse) (fun b ob q => Heap.get?_push_of_some _ q) (Nat.le_refl _) ?_,rfl,q _ (I4.hok.fresh (Nat.le_refl _))⟩
 exact ⟨by rw [List.length_reverse]; exact hz,_,zV r,IsTup.new _ _⟩
theorem zD {H:Hp}:∀ {ds:List D} {vs:List V},Rs H ds vs -> Rs H ds.reverse vs.reverse
 | [],vs,h => by rw [h.inv0]; exact .nil
 | d :: ds,vs,h => by
  obtain ⟨v,r,ev,h1,h2⟩:=h.inv
  subst ev
  rw [List.reverse_cons,List.reverse_cons]
  exact (zD h2).append (.cons h1 .nil)
def zq:D -> Option D
 | .tup xs => some (.tup xs.reverse)
 | _ => none
theorem xB (he:DE X e fa):DE X (.Subscript e (.Slice none none (some (.UnaryOp .USub (.Constant (.int 1) j p3) p4)) p2) pos) (m1 zq fa):=cT (F3 he) fun σ H Q ⟨c,δ,S,T,d,δ',s,e,k⟩ => by
 obtain ⟨x,δ1,e1,e⟩:=bind_some e
 obtain ⟨e2,rfl⟩:=aE e
 refine ⟨c,δ,S,T,x,δ1,s,e1,fun v H' s' => ?_⟩
 cases x with
 | tup xs =>
  cases e2
  obtain ⟨a,vs,rfl,h1,h2⟩:=s'.st.head.tup
  refine ⟨a,vs,rfl,.of (bo _ _ h1),fun l hl => ?_⟩
  have s1:=s'.stk ((zD h2).append s'.st.tail)
  exact k _ _ (s1.newTup (by rw [List.length_reverse,List.length_reverse,h2.length]) hl)
 | _ => cases e2
end
section
variable {X:Cx} {a:Expr} {fa:M D} {fs:M (List D)} {es us:List Expr} {vs:List (Option Expr)} {pos p2:Pos} {j:Nat} {c:Const} {o:UnaryOp} {env:Env}
theorem BA {t:Option Expr} {l:Nat}:swapsWith (.List es p2) t l env = pure false:=rfl
theorem zp:starEach (.Constant c j p2 :: es) env = (false,eval (.Constant c j p2) env) :: starEach es env:=rfl
theorem Ee:starEach (.Tuple us j p2 :: es) env = (false,eval (.Tuple us j p2) env) :: starEach es env:=rfl
theorem Gb:starEach (.List us p2 :: es) env = (false,eval (.List us p2) env) :: starEach es env:=rfl
theorem Fb:starEach (.Dict vs us p2 :: es) env = (false,eval (.Dict vs us p2) env) :: starEach es env:=rfl
theorem HG:starEach (.UnaryOp o a p2 :: es) env = (false,eval (.UnaryOp o a p2) env) :: starEach es env:=rfl
theorem nV (ha:DE X (.Constant c j p2) fa) (hr:DA X es fs):DA X (.Constant c j p2 :: es) (ae fa fs):=aa ha hr zp
theorem jZ (ha:DE X (.Tuple us j p2) fa) (hr:DA X es fs):DA X (.Tuple us j p2 :: es) (ae fa fs):=aa ha hr Ee
theorem Ie (ha:DE X (.List us p2) fa) (hr:DA X es fs):DA X (.List us p2 :: es) (ae fa fs):=aa ha hr Gb
theorem JA (ha:DE X (.Dict vs us p2) fa) (hr:DA X es fs):DA X (.Dict vs us p2 :: es) (ae fa fs):=aa ha hr Fb
theorem Jd (ha:DE X (.UnaryOp o a p2) fa) (hr:DA X es fs):DA X (.UnaryOp o a p2 :: es) (ae fa fs):=aa ha hr HG
theorem vv {X:Cx} (i:Nat) (x:Str) (e:Expr) (fa:M D) (pos pos':Pos) (hN:X.N.Nodup) (hi:X.N[i]? = some x) (hx:Loc X.env.scope x) (hf:X.fn x = true ∨ X.env.scope.names.lookup x = some .local) (hs:swapsWith e (some (.Name x pos')) pos.line X.env = pure false) (he:DE X e fa):ql X (.Assign [.Name x pos'] e pos) (dY i fa):=bu i hN he hi hx hs hf
end
theorem bO (neg:Bool) (a b:Int):dg neg (.int a) (.int b) = some (.bl (if neg then !decide (a = b) else decide (a = b))):= by
 show (if q0 (.int a) (.int b) = true then some (D.bl (if neg then !decide (V.int a = V.int b) else decide (V.int a = V.int b))) else none) = _
 rw [if_pos (show q0 (.int a) (.int b) = true from rfl)]
 simp only [V.int.injEq]
theorem BX (neg:Bool) (a b:Bool):dg neg (.bl a) (.bl b) = some (.bl (if neg then !decide (a = b) else decide (a = b))):= by
 show (if q0 (.bl a) (.bl b) = true then some (D.bl (if neg then !decide (V.bl a = V.bl b) else decide (V.bl a = V.bl b))) else none) = _
 rw [if_pos (show q0 (.bl a) (.bl b) = true from rfl)]
 simp only [V.bl.injEq]
theorem D6 (neg:Bool) (a b:Int):i_ neg (.int a) (.int b) = some (.bl (if neg then !decide (a = b) else decide (a = b))):=bO neg a b
@[simp] theorem Bp:cM .int .non = false:=rfl
@[simp] theorem Dh (b:Bool):cM .int (.bl b) = true:=rfl
@[simp] theorem Cw (i:Int):cM .int (.int i) = true:=rfl
@[simp] theorem Bf (x:Str):cM .int (.str x) = false:=rfl
@[simp] theorem BW (xs:List D):cM .int (.tup xs) = false:=rfl
@[simp] theorem B9 (xs:List D):cM .int (.lst xs) = false:=rfl
@[simp] theorem C3:cM .int .dct = false:=rfl
@[simp] theorem AJ:cM .bool .non = false:=rfl
@[simp] theorem CY (b:Bool):cM .bool (.bl b) = true:=rfl
@[simp] theorem Ax (i:Int):cM .bool (.int i) = false:=rfl
@[simp] theorem Az (x:Str):cM .bool (.str x) = false:=rfl
@[simp] theorem Av (xs:List D):cM .bool (.tup xs) = false:=rfl
@[simp] theorem AF (xs:List D):cM .bool (.lst xs) = false:=rfl
@[simp] theorem AK:cM .bool .dct = false:=rfl
@[simp] theorem BF:cM .tup .non = false:=rfl
@[simp] theorem Dy (b:Bool):cM .tup (.bl b) = false:=rfl
@[simp] theorem CQ (i:Int):cM .tup (.int i) = false:=rfl
@[simp] theorem B1 (x:Str):cM .tup (.str x) = false:=rfl
@[simp] theorem jD (xs:List D):cM .tup (.tup xs) = true:=rfl
@[simp] theorem Cz (xs:List D):cM .tup (.lst xs) = false:=rfl
@[simp] theorem C1:cM .tup .dct = false:=rfl
@[simp] theorem Cn:cM .lst .non = false:=rfl
@[simp] theorem DP (b:Bool):cM .lst (.bl b) = false:=rfl
@[simp] theorem AQ (i:Int):cM .lst (.int i) = false:=rfl
@[simp] theorem A3 (x:Str):cM .lst (.str x) = false:=rfl
@[simp] theorem BH (xs:List D):cM .lst (.tup xs) = false:=rfl
@[simp] theorem A_ (xs:List D):cM .lst (.lst xs) = true:=rfl
@[simp] theorem Bo:cM .lst .dct = false:=rfl
@[simp] theorem A6:cM .str .non = false:=rfl
@[simp] theorem Dd (b:Bool):cM .str (.bl b) = false:=rfl
@[simp] theorem BG (i:Int):cM .str (.int i) = false:=rfl
@[simp] theorem CG (x:Str):cM .str (.str x) = true:=rfl
@[simp] theorem CU (xs:List D):cM .str (.tup xs) = false:=rfl
@[simp] theorem B0 (xs:List D):cM .str (.lst xs) = false:=rfl
@[simp] theorem Cf:cM .str .dct = false:=rfl
end Jt
namespace Jt
open PySem L2 PySem.Spec PyProof.Rows
section
variable {prog:Program} {w:World} {A:Around} {E:Value -> Shared -> Prop} {s:Shared}
end
section
variable {X:Cx} {e:Expr} {fa:M D} {pos:Pos}
end
end Jt
namespace Jt
open PySem L2
open PyProof.Rows (AllBare)
section
variable {M:Model} {A:Around} {E:Value -> Shared -> Prop} {s:Shared} {base:Heap} {env:Env} {outer:List Env} {L e:Addr} {oe:Obj} {vs ws:Array Value} {head fl:Value} {hadNext:Bool} {Q:Unit -> Shared -> Prop}
end
section
variable {X:Cx} {pins:List (Addr × Obj)} {σ:St} {H:Hp} {s s':Shared} {h':Heap}
end
end Jt
namespace Jt
open PySem L2
open PyProof.Rows (AllBare)
section
variable {X:Cx} {e c:Expr} {es:List Expr} {st:Stmt} {rest as bs:List Stmt} {pos p:Pos}
end
end Jt
namespace Jt
open PySem L2
section
variable {X:Cx} {a b e:Expr} {fa fb:M D} {fs:M (List D)} {pos p:Pos}
def o9:=cg (fun i j => decide (Builtin.Int.intBits i + Builtin.Int.intBits j ≤ 134217728)) fun i j => .int (i * j)
theorem B5:gf X (binaryOp .Mult) (rI (fun i j => Builtin.Int.intBits i + Builtin.Int.intBits j ≤ 134217728) fun i j => .int (i * j)):=HI fun i j _ _ _ _ _ hc q => PyProof.Rows.mul_int q (PyProof.Rows.mulOk_of_bits (Nat.le_refl _) (Nat.le_refl _) hc)
theorem uQ (ha:DE X a fa) (hb:DE X b fb):DE X (.BinOp a .Mult b pos) (m2 o9 fa fb):=kR B5 (qE (fun i j h => of_decide_eq_true h) fun _ _ _ => .mkI) ha hb
def xK:=cg (fun i j => decide (0 ≤ j) && decide (j ≤ 1000000) && decide (i.natAbs < 2 ^ 64)) fun i j => .int (i ^ j.toNat)
theorem DX (ha:DE X a fa) (hb:DE X b fb):DE X (.BinOp a .Pow b pos) (m2 xK fa fb):=kR EW (qE (fun i j h => by
 simp only [Bool.and_eq_true,decide_eq_true_eq] at h; exact ⟨h.1.1,h.1.2,h.2⟩) fun _ _ _ => .mkI) ha hb
def jH:List D -> Option D
 | [.int i,.int j] => if 0 < j ∧ j < 1073741824 then some (.tup [.int (i / j),.int (i % j)]) else none
 | _ => none
theorem vM:jV (fun xs H Q => ∃ i j,xs = [.int i,.int j] ∧ Ff i j ∧ ∀ p,H p = none -> Q (.ref p) (upd H p (.tup [.int (i / j),.int (i % j)]))) jH:=fun c δ S σ T H ds vs d Q l s e k => by
 unfold jH at e
 split at e
 ·rename_i i j
  split at e
  ·rename_i hj
   cases e
   obtain ⟨v,u,rfl,r1,r2⟩:=HN (s.st.left l)
   cases r1.int
   cases r2.int
   refine ⟨i,j,rfl,hj,fun q hq => k _ _ ?_⟩
   have s1:=s.stk (Rs.append (ds:=[.int (i / j),.int (i % j)]) (vs:=[.int (i / j),.int (i % j)]) (.cons .mkI (.cons .mkI .nil)) (s.st.right l))
   exact s1.newTup rfl hq
  ·cases e
 ·cases e
theorem vS (hm:X.mg "divmod" = none) (ha:DA X [a,b] fs) (hg:Gl X "divmod":=by rfl) (he:starEach [a,b] X.env = (false,eval a X.env) :: starEach [b] X.env:=by rfl) (hp:(backTo pos (starEach [b] X.env)).any (·.1) = false:=by rfl):DE X (.Call (.Name "divmod" p) [a,b] [] pos) (mC jH fs) :=
 iy q_ vM hg hm (by decide +kernel) ha (by decide) (by decide) he hp
def o8:List D -> Option D
 | [.int i] => some (.int i)
 | [.bl k] => some (.int (if k then 1 else 0))
 | _ => none
theorem BB:jV (fun xs H Q => (∃ i,xs = [.int i] ∧ Q (.int i) H) ∨ ∃ k,xs = [.bl k] ∧ Q (.int (if k then 1 else 0)) H) o8:=fun c δ S σ T H ds vs d Q l s e k => by
 unfold o8 at e
 split at e
 ·cases e
  obtain ⟨v,rfl,r⟩:=wC (s.st.left l)
  cases r.int
  exact .inl ⟨_,rfl,k _ _ (s.stk (.cons .mkI (s.st.right l)))⟩
 ·cases e
  obtain ⟨v,rfl,r⟩:=wC (s.st.left l)
  cases r.bl
  exact .inr ⟨_,rfl,k _ _ (s.stk (.cons .mkI (s.st.right l)))⟩
 ·cases e
theorem Cq (hm:X.mg "int" = none) (ha:DA X [a] fs) (hg:Gl X "int":=by rfl) (he:starEach [a] X.env = [(false,eval a X.env)]:=by rfl):DE X (.Call (.Name "int" p) [a] [] pos) (mC o8 fs) :=
 oJ vW BB hg hm (by decide +kernel) ha (by decide) (by decide) he rfl
theorem zK {x:Str} {i:Int} {t:Tok} (hm:X.mg x = some (.int i t)) (hg:Gl X x:=by rfl) (hd:(x == ("__debug__":Str)) = false:=by decide):DE X (.Name x pos) (pure (.int i)):=HR (BK (v:=.int i) hg hm ⟨t,rfl⟩ hd) fun _ => .mkI
end
def t6:Sp:=fun vs H Q _ => ∃ (a:Addr) (ns:List Int),vs = [.ref a] ∧ Rd H a (.lst (ns.map V.int)) ∧ ns.length ≤ 63 ∧ (∀ i ∈ ns,Builtin.Int.intBits i ≤ 2 ^ 20) ∧ ∀ H',Q (.bl true) H'
section
variable {P:Program} {w:World} {K:PySem.W.Frag} {mg:Str -> Option Value} {base:Heap} {k:Nat} {f:Addr} {fd:FuncData} {ps:List Str} {CX:sv}
theorem AV {mf:List D -> Option D} (F:d7 P w K mg base du k f fd ps (jw 1 mf)) (h:∀ ns:List Int,ns.length ≤ 63 -> (∀ i ∈ ns,Builtin.Int.intBits i ≤ 2 ^ 20) -> mf [.lst (ns.map .int)] = some (.bl true)):d7 P w K mg base du k f fd ps t6:=F.imp fun vs H Q E ⟨a,ns,ev,hr,hl,hb,q⟩ => by
 subst ev
 refine ⟨rfl,fun _ => none,[.lst (ns.map .int)],.bl true,(fun a o z => nomatch z),.cons (.mkL (Rd.mono (fun b o e => fm.mpr ⟨(fun ⟨_,z⟩ => nomatch z),e⟩) hr) (km ns)) .nil,h ns hl hb,fun v H' g r => ?_⟩
 rw [r.bl]
 exact q H'
end
end Jt
namespace Jt
open PySem PySem.W PySem.Calls PyProof.Rows L2
theorem yA {ns:List Int} (h:WData.layableAll [WData.list (ns.map WData.int)] = true):∀ i ∈ ns,Builtin.Int.intBits i ≤ 2 ^ 20:=fun i hi => by
 have h1:=layableW_arg h _ List.mem_cons_self
 have h2:=layableW_item h1 (.int i) (List.mem_map.mpr ⟨i,hi,rfl⟩)
 have h3:=lay0_int h2
 have h4:PyData.layable0 (.int i) = true:=by simpa [PyData.layableAll0] using h3
 exact PyData.bits_of_layable h4
theorem walkB {l:PySem.W.OpenLaw} {q:Program} {loose:List Str} {XP:(Str -> Option Value) -> Heap -> Prop} {YP:World -> Heap -> Prop} {d:DefRec} {K:Params -> PySem.W.Frag} {k:Nat} (hn:l.most = some 63) (hdf:d.params.defaults = []) (hr:c5 k callerA)
  (hY:∀ (w:World) (h:Heap),YP w h -> (K w.params).In h) (hL:∀ w:World,DN (K w.params) = true)
  (F:∀ (w:World) (mg:Str -> Option Value) (fa:Addr) (h:Heap),(K w.params).In h -> h.Ns mainGlobals mg -> mg d.name = some (.ref fa) ->
   ∃ fd:FuncData,(∀ (s:Shared) (u:Value),BindsTo s fd ⟨[u],[]⟩ [("_law_script",u)]) ∧ ∀ base:Heap,(K w.params).In base -> base.Ns mainGlobals mg -> d7 l.prog w (K w.params) mg base du k fa fd ["_law_script"] t6) :
  PySem.W.WalkO q loose XP YP l.row.toRowW d [] (fun f vs => PySem.call f vs):= by
 intro w s₀ s₁ mg mb G Y fa o pm cd doc dV kV ho hd hcd hD hmg hg args vals as hpre hlay hrd hwl hlo
 obtain rfl:dV = .none:=Dflts.none hD hdf
 obtain rfl:kV = .none:=Dflts.noKw hD
 obtain ⟨a,vs,ns,rfl,rfl,hobj,hints,hlen⟩:=Att.script_of hn hpre hwl
 have KX:=hY w _ Y
 obtain ⟨fd,hb,hF⟩:=F w mg fa _ KX G.T.g hmg
 have bits:=yA hlay
 refine enter_call (codeAny_mono (qL KX G.T.g G.T.b G.T.builtins G.T.nolimit hg hobj hints (Nat.le_trans hlen (by decide)) hr hF hb (fun H hO hS => ⟨a,ns,rfl,Ig (hL w) hS,hlen,bits,fun _ => rfl⟩) fun H e s' z => z) fun r s' hq => ?_)
 obtain ⟨rfl,h2,h3,h4⟩:=hq
 exact ⟨.inl ⟨.bool true,.bool true,[],rfl,fun _ => rfl,.bool true,Att.post_true l _,fun _ => ⟨List.Pairwise.nil,fun _ hm => (nomatch hm)⟩⟩,h2,h3,h4⟩
end Jt
namespace L2
open PySem PySem.Spec PyProof.Rows
abbrev tests (ifs:List Expr) (env:Env):Sem Bool:=forIn ifs true fun c r => if r = true then do let ok <- isTrue c env (eval c env); pure (ForInStep.yield ok) else pure (ForInStep.yield r)
section
variable {prog:Program} {w:World} {A:Around} {R:Result -> Shared -> Prop} {s:Shared} {elt t1 i1 t2 i2:Expr} {ifs1 ifs2:List Expr} {scope:Scope} {pos:Pos} {it acc:Value} {env:Env}
abbrev two (elt t1 i1:Expr) (ifs1:List Expr) (t2 i2:Expr) (ifs2:List Expr) (scope:Scope) (pos:Pos):Expr:=.ListComp elt [⟨t1,i1,ifs1,0⟩,⟨t2,i2,ifs2,0⟩] scope pos
end
section
variable {Y:Cx} {elt t1 i1 t2 i2:Expr} {ifs1 ifs2:List Expr} {scope:Scope} {pos:Pos} {wi:TI} {g:TG} {tt:TT} {te:TE}
end
section
variable {X:Cx} {elt t1 i1 t2 i2:Expr} {ifs1 ifs2:List Expr} {scope:Scope} {pos pos':Pos} {N' own:List Str} {wi wi2:TI} {g g2:TG} {tt tt2:TT} {te:TE}
end
end L2
namespace Jt
open PySem L2
section
variable {X:Cx} {elt t1 i1 t2 i2:Expr} {te:M D} {pos:Pos} {tt tt2:M Bool} {fi fi2:M lg} {gt gt2:D -> M Unit}
variable {N' own:List Str} {scope:Scope} {ifs1 ifs2:List Expr} {lo:Nat}
end
end Jt
namespace Jt
open PySem L2
section
variable {X:Cx} {a ie:Expr} {fF:M (List D)} {fb:M D} {x:Str} {p apos cpos pos psub:Pos}
end
section
open PySem.Spec PyProof.Rows
variable {X:Cx} {e:Expr} {te:TE} {fa:M D} {j:Nat} {pos p2 p3 p4:Pos}
end
section
variable {δ:DS}
end
end Jt
namespace Jt
open PySem L2
section
variable {X:Cx} {a:Expr} {fs:M (List D)} {p pos:Pos}
end
end Jt
namespace Jt
open PySem L2
mutual
def py:D -> PyData
 | .non => .none
 | .bl b => .bool b
 | .int i => .int i
 | .str x => .str x
 | .tup xs => .tuple (Jf xs)
 | .lst xs => .list (Jf xs)
 | .dct => .dict []
def Jf:List D -> List PyData
 | [] => []
 | d :: r => py d :: Jf r
end
section
variable {X:Cx} {a:Expr} {fs:M (List D)} {p pos:Pos}
end
end Jt
namespace Jt
open PySem L2 PySem.Spec PyProof.Rows
section
variable {prog:Program} {w:World} {A:Around} {E:Value -> Shared -> Prop} {s:Shared}
end
section
variable {X:Cx} {e:Expr} {te:TE} {fa:M D} {j j0:Nat} {pos p2 p3 p4 p5:Pos}
end
end Jt
namespace Jt
open PySem L2 PySem.Spec PyProof.Rows
section
variable {X:Cx} {e:Expr} {te:TE} {fe:M D} {a b c d:Str} {j1 j2 j3 j4:Nat} {pos p0 p1 p2 p3 p4:Pos}
end
end Jt
namespace Jt
open PySem L2
section
variable {X:Cx} {a e:Expr} {es:List Expr} {fa fe:M D} {fs:M (List D)} {ha' hb':M Hn} {c d x y:Str} {j j1 j2 j3 j4:Nat} {pos p0 p1 p2 p3 p4:Pos}
end
end Jt
namespace Jt
open PySem L2
end Jt
namespace Jt
open PySem L2 PySem.Spec PyProof.Rows
section
variable {prog:Program} {w:World} {A:Around} {E:Value -> Shared -> Prop} {s:Shared}
end
section
variable {X:Cx} {a b:Expr} {fa fb:M D} {pos:Pos}
end
section
variable {X:Cx} {a:Expr} {fs:M (List D)} {p pos:Pos}
end
section
variable {X:Cx} {a b c0:Expr} {fa fb fc:M D} {pos:Pos}
theorem Iy {g g':Int -> Int -> V} {h h':Int -> Int -> D} (hg:∀ H i j,R H (h i j) (g i j)) (hg':∀ H i j,R H (h' i j) (g' i j)) (σ:L2.St) (H:Hp) (Q:V -> Hp -> Prop)
  (hq:tM (AH (cg (fun _ _ => true) h) (cg (fun _ _ => true) h') fa fb fc) σ H Q):ua (ud g) (ud g') (tM fa) (tM fb) (tM fc) σ H Q:= by
 obtain ⟨c,δ,S,T,d,δ',s,e,k⟩:=hq
 obtain ⟨x,δ1,e1,e⟩:=bind_some e
 obtain ⟨y,δ2,e2,e⟩:=bind_some e
 obtain ⟨z,δ3,e3,e⟩:=bind_some e
 obtain ⟨e4,rfl⟩:=aE e3
 obtain ⟨i,j,rfl,rfl,_,rfl⟩:=eR e4
 refine ⟨c,δ,S,T,.int i,δ1,s,e1,fun v H1 s1 => ⟨c,δ1,.int i :: S,v :: T,.int j,δ2,s1,e2,fun u H2 s2 => ?_⟩⟩
 refine ⟨i,j,s2.st.tail.head.int,s2.st.head.int,?_⟩
 have rg:=hg (fS c δ2 σ H2) i j
 cases hz:h i j with
 | bl q =>
  rw [hz] at e rg
  refine ⟨q,rg.bl,?_⟩
  cases q with
  | true =>
   obtain ⟨w,δ4,e5,e⟩:=bind_some e
   obtain ⟨e6,rfl⟩:=aE e
   rw [if_pos rfl]
   obtain ⟨i',j',ei,rfl,_,rfl⟩:=eR e6
   cases ei
   exact ⟨c,δ2,.int j :: .int i :: S,u :: v :: T,.int j',δ4,s2,e5,fun w' H4 s4 => ⟨j,j',s4.st.tail.head.int,s4.st.head.int,k _ _ (s4.stk (.cons (hg' _ _ _) s4.st.tail.tail.tail))⟩⟩
  | false =>
   obtain ⟨rfl,rfl⟩:=ar e
   rw [if_neg Bool.false_ne_true]
   exact k _ _ (s2.stk (.cons .mkB s2.st.tail.tail))
 | _ => rw [hz] at e; cases e
theorem xF {op op':CmpOp} {g g':Int -> Int -> V} {h h':Int -> Int -> D} (ho:gf X (compareOp op) (ud g)) (ho':gf X (compareOp op') (ud g')) (hg:∀ H i j,R H (h i j) (g i j)) (hg':∀ H i j,R H (h' i j) (g' i j)) (ha:DE X a fa) (hb:DE X b fb) (hc:DE X c0 fc)
  (hm:lastMarks [op,op'] [b,c0] = false:=by with_unfolding_all rfl):DT X (.Compare a [op,op'] [b,c0] pos) (AH (cg (fun _ _ => true) h) (cg (fun _ _ => true) h') fa fb fc >>= cx) :=
 uu (yf ho ho' ha hb hc hm) fun σ H Q ⟨c,δ,S,T,d,δ',s,e,k⟩ => by
  obtain ⟨x,δ1,e1,e⟩:=bind_some e
  obtain ⟨rfl,rfl⟩:=jM e
  exact Iy hg hg' σ H _ ⟨c,δ,S,T,.bl d,δ1,s,e1,fun v H' s' => ⟨d,s'.st.head.bl,k _ s'.pop⟩⟩
theorem A0 (ha:DE X a fa) (hb:DE X b fb) (hc:DE X c0 fc) (hm:lastMarks [.LtE,.Lt] [b,c0] = false:=by with_unfolding_all rfl):DT X (.Compare a [.LtE,.Lt] [b,c0] pos) (AH Aw mY fa fb fc >>= cx):=xF Dr Ah (fun _ _ _ => .mkB) (fun _ _ _ => .mkB) ha hb hc hm
end
end Jt
namespace Jt
open PySem
section
variable {prog:Program} {w:World} {A:Around} {E:Value -> Shared -> Prop} {s:Shared} {b1 b2 b:Bool} {l1 l2 q it e:Addr} {xs ys:Array Value} {k:Nat} {z TI TO i1 i2 T:Addr}
abbrev qi (h:Heap) (z TI TO T:Addr) (f:Bool):Prop:=h.get? z = some { cls:=.type "zip",dict:=none,data:=.fields #[rawInt T,.bool f,.bool false,.ref TI,.ref TO],slots:=#[] }
abbrev I0 (b1 b2:Bool) (z TI TO T i1 i2 l1 l2:Addr) (xs ys:Array Value) (k:Nat) (h:Heap):Prop :=
 (∃ f,qi h z TI TO T f) ∧ IsPair h TI (.ref i1) (.ref i2) ∧ (∃ a c,IsPair h T a c) ∧ kO b1 h i1 l1 k ∧ kO b2 h i2 l2 k ∧ j_ b1 h l1 xs ∧ j_ b2 h l2 ys
theorem wc {a:Addr} {o:Obj} {Q:Option Obj -> Shared -> Prop} (h:s.heap.get? a = some o) (hQ:Q (some o) s):wpAny (model prog w) A (loadIfAlive a) Q E s:=fun Γ p hΓ => by
 have:Q (s.heap.get? a) s:=by rw [h]; exact hQ
 exact this
theorem pe {Q:Bool -> Shared -> Prop} {f:Bool} {a c:Value} (hz:qi s.heap z TI TO T f) (hT:IsPair s.heap T a c)
  (hQ:∀ h',qi h' z TI TO T true -> Heap.SameBut z s.heap h' -> Q false { s with heap:=h' }):wpAny (model prog w) A (Builtin.SmallTypes.ownedTupleIsFree (.ref z)) Q E s:= by
 unfold Builtin.SmallTypes.ownedTupleIsFree
 refine wpAny_bind (wpAny_field hz rfl (x:=rawInt T) rfl ?_)
 show wpAny _ _ (loadIfAlive ((T:Int)).toNat >>= _) _ _ _
 rw [Int.toNat_natCast]
 refine wpAny_bind (wc hT ?_)
 show wpAny _ _ (field (.ref z) 1 >>= _) _ _ _
 refine wpAny_bind (wpAny_field hz rfl (x:=.bool f) rfl ?_)
 cases f with
 | true =>
  refine wpAny_bind (wpAny_pure (wpAny_pure (hQ s.heap hz ⟨rfl,fun _ _ => rfl⟩)))
 | false =>
  refine wpAny_bind (wpAny_setField_rec hz (by simp) fun h1 z1 s1 => wpAny_pure (hQ h1 z1 s1))
theorem vT {v1 v2:Value} {Q:Option Value -> Shared -> Prop} (D:uv z TI TO i1 i2 l1 l2) (hTz:T ≠ z) (hTi1:T ≠ i1) (hTi2:T ≠ i2) (st:I0 b1 b2 z TI TO T i1 i2 l1 l2 xs ys k s.heap) (hx:xs[k]? = some v1) (hy:ys[k]? = some v2)
  (hQ:∀ h',I0 b1 b2 z TI TO T i1 i2 l1 l2 xs ys (k + 1) h' -> IsPair h' s.heap.objs.size v1 v2 -> (∀ c o,c ∉ [z,TO,i1,i2] -> s.heap.get? c = some o -> h'.get? c = some o) -> Q (some (.ref s.heap.objs.size)) { s with heap:=h' }) :
  wpAny (model prog w) A (pyNext (.ref z)) Q E s:= by
 obtain ⟨n1,n2,n3,n4,n5,n6,n7,n8,n9,n10,m1,m2,m3,m4,m5,m6,m7,m8⟩:=D.ne
 obtain ⟨⟨f,hz⟩,hTI,⟨a,c,hTT⟩,q1,q2,p1,p2⟩:=st
 have hT:s.TypeIs (.ref z) "zip":=⟨_,hz,rfl⟩
 unfold pyNext
 refine wpAny_bind (wpAny_attempt (wpAny_callSpecial?_slot (name:=Str.ofString "__next__") hT F.slot_zip_next (wpAny_call_entry F.slot_zip_next hT F.entry_zip_next (?_:wpAny _ _ (field (.ref z) 2 >>= _) _ _ _) (F.args_zip_next_1 _))))
 refine wpAny_bind (wpAny_field hz rfl (x:=.bool false) rfl (?_:wpAny _ _ (field (.ref z) 3 >>= _) _ _ _))
 refine wpAny_bind (wpAny_field hz rfl (x:=.ref TI) rfl (wpAny_bind (wpAny_seqItems hTI rfl (?_:wpAny _ _ (Builtin.SmallTypes.ownedTupleIsFree (.ref z) >>= _) _ _ _))))
 refine wpAny_bind (pe hz hTT fun h1 z1 s1 => ?_)
 simp only [Bool.false_eq_true,if_false]
 simp only [List.forIn_toArray,List.forIn_cons,List.forIn_nil]
 have q1':kO b1 h1 i1 l1 k:=q1.at fun o e => s1.extBut _ _ n3 e
 have p1':j_ b1 h1 l1 xs:=p1.at fun o e => s1.extBut _ _ m1 e
 refine wpAny_bind (wpAny_bind (wpAny_bind (wpAny_holding (?_:wpAny _ _ (Builtin.SmallTypes.nextOf (.ref i1) >>= _) _ _ _))))
 refine wpAny_bind (gB (s:={ s with heap:=h1 }) q1' p1' hx fun h2 q2' s2 => wpAny_pure (wpAny_pure ?_))
 refine wpAny_bind (wpAny_bind (wpAny_holding (?_:wpAny _ _ (Builtin.SmallTypes.nextOf (.ref i2) >>= _) _ _ _)))
 refine wpAny_bind (gB (s:={ s with heap:=h2 }) (q2.at fun o e => s2.extBut _ _ n10.symm (s1.extBut _ _ n4 e)) (p2.at fun o e => s2.extBut _ _ m7 (s1.extBut _ _ m5 e)) hy fun h3 q3' s3 => wpAny_pure (wpAny_pure (wpAny_pure ?_)))
 refine (?_:wpAny _ _ (newTuple [v1,v2] >>= _) _ _ _)
 refine wpAny_bind (wpAny_newTuple ?_)
 have hsz:h3.objs.size = s.heap.objs.size:=by rw [s3.1,s2.1,s1.1]
 have up3:∀ c o,c ∉ [z,TO,i1,i2] -> s.heap.get? c = some o -> h3.get? c = some o:=fun c o hc e => by
  simp only [List.mem_cons,List.not_mem_nil,or_false,not_or] at hc
  exact s3.extBut _ _ hc.2.2.2 (s2.extBut _ _ hc.2.2.1 (s1.extBut _ _ hc.1 e))
 have z3:qi h3 z TI TO T true:=s3.extBut _ _ n4.symm (s2.extBut _ _ n3.symm z1)
 have up:∀ c o,h3.get? c = some o -> (h3.push { cls:=.type "tuple",data:=.seq #[v1,v2] }).get? c = some o:=fun c o e => Heap.get?_push_of_some _ e
 have new:IsPair (h3.push { cls:=.type "tuple",data:=.seq #[v1,v2] }) h3.objs.size v1 v2:=Heap.get?_push_size _ rfl
 rw [hsz] at new ⊢
 refine wpAny_pure ⟨_,rfl,wpAny_pure (hQ _ ⟨⟨true,up _ _ z3⟩,up _ _ (up3 TI _ (by simp [n1,n5,n6,n7]) hTI),⟨a,c,up _ _ (s3.extBut _ _ hTi2 (s2.extBut _ _ hTi1 (s1.extBut _ _ hTz hTT)))⟩,(q2'.at fun o e => up _ _ (s3.extBut _ _ n10 e)),(q3'.at fun o e => up _ _ e),(p1.at fun o e => up _ _ (up3 l1 _ D.n1 e)),(p2.at fun o e => up _ _ (up3 l2 _ D.n2 e))⟩ new fun c o hc e => up _ _ (up3 c o hc e))⟩
theorem zJ {Q:Option Value -> Shared -> Prop} (hh:A.handled = none) (D:uv z TI TO i1 i2 l1 l2) (hTz:T ≠ z) (hTi1:T ≠ i1) (hTi2:T ≠ i2) (st:I0 b1 b2 z TI TO T i1 i2 l1 l2 xs ys k s.heap) (hx:xs[k]? = none ∨ ys[k]? = none)
  (hQ:∀ h',(∀ c o,c ∉ [z,TO,i1,i2] -> s.heap.get? c = some o -> h'.get? c = some o) -> Q none { s with heap:=h' }):wpAny (model prog w) A (pyNext (.ref z)) Q E s:= by
 obtain ⟨n1,n2,n3,n4,n5,n6,n7,n8,n9,n10,m1,m2,m3,m4,m5,m6,m7,m8⟩:=D.ne
 obtain ⟨⟨f,hz⟩,hTI,⟨a,c,hTT⟩,q1,q2,p1,p2⟩:=st
 have hT:s.TypeIs (.ref z) "zip":=⟨_,hz,rfl⟩
 have fin:∀ (h:Heap) (e:Addr),(∀ c o,c ∉ [z,TO,i1,i2] -> s.heap.get? c = some o -> h.get? c = some o) -> (∃ o,h.get? e = some o ∧ o.cls = .type "StopIteration") ->
   wpAny (model prog w) A (do if <- isInstance (Value.ref e) (.type "StopIteration") then pure (none:Option Value) else throw (Value.ref e)) Q E { s with heap:=h }:=fun h e kp he => by
  obtain ⟨o,ho,hc⟩:=he
  exact wpAny_bind (wpAny_isInstance (T:="StopIteration") (b:=true) ⟨o,ho,hc⟩ isSubtype_stop (wpAny_pure (hQ h kp)))
 unfold pyNext
 refine wpAny_bind (wpAny_attempt (wpAny_callSpecial?_slot (name:=Str.ofString "__next__") hT F.slot_zip_next (wpAny_call_entry F.slot_zip_next hT F.entry_zip_next (?_:wpAny _ _ (field (.ref z) 2 >>= _) _ _ _) (F.args_zip_next_1 _))))
 refine wpAny_bind (wpAny_field hz rfl (x:=.bool false) rfl (?_:wpAny _ _ (field (.ref z) 3 >>= _) _ _ _))
 refine wpAny_bind (wpAny_field hz rfl (x:=.ref TI) rfl (wpAny_bind (wpAny_seqItems hTI rfl (?_:wpAny _ _ (Builtin.SmallTypes.ownedTupleIsFree (.ref z) >>= _) _ _ _))))
 refine wpAny_bind (pe hz hTT fun h1 z1 s1 => ?_)
 simp only [Bool.false_eq_true,if_false]
 simp only [List.forIn_toArray,List.forIn_cons,List.forIn_nil]
 have q1':kO b1 h1 i1 l1 k:=q1.at fun o e => s1.extBut _ _ n3 e
 have p1':j_ b1 h1 l1 xs:=p1.at fun o e => s1.extBut _ _ m1 e
 refine wpAny_bind (wpAny_bind (wpAny_bind (wpAny_holding (?_:wpAny _ _ (Builtin.SmallTypes.nextOf (.ref i1) >>= _) _ _ _))))
 cases hxk:xs[k]? with
 | none =>
  refine wpAny_bind (ml (s:={ s with heap:=h1 }) (by simpa using hh) q1' p1' hxk fun h2 e kp he => ?_)
  refine fin h2 e (fun c o hc e' => ?_) he
  simp only [List.mem_cons,List.not_mem_nil,or_false,not_or] at hc
  exact kp _ _ hc.2.2.1 (s1.extBut _ _ hc.1 e')
 | some v1 =>
  have hy:ys[k]? = none:= by
   rcases hx with h | h
   ·rw [hxk] at h; cases h
   ·exact h
  refine wpAny_bind (gB (s:={ s with heap:=h1 }) q1' p1' hxk fun h2 q2' s2 => wpAny_pure (wpAny_pure ?_))
  refine wpAny_bind (wpAny_bind (wpAny_holding (?_:wpAny _ _ (Builtin.SmallTypes.nextOf (.ref i2) >>= _) _ _ _)))
  refine wpAny_bind (ml (s:={ s with heap:=h2 }) (by simpa using hh) (q2.at fun o e => s2.extBut _ _ n10.symm (s1.extBut _ _ n4 e)) (p2.at fun o e => s2.extBut _ _ m7 (s1.extBut _ _ m5 e)) hy fun h3 e kp he => ?_)
  refine fin h3 e (fun c o hc e' => ?_) he
  simp only [List.mem_cons,List.not_mem_nil,or_false,not_or] at hc
  exact kp _ _ hc.2.2.2 (s2.extBut _ _ hc.2.2.1 (s1.extBut _ _ hc.1 e'))
def Zk (b1 b2:Bool) (S z TI TO i1 i2 l1 l2:Addr) (xs ys:Array Value) (k:Nat) (h:Heap):Prop :=
 (k = 0 ∧ sG b1 b2 z TI TO i1 i2 l1 l2 xs ys 0 .none h) ∨ (0 < k ∧ ∃ T,T ≠ S ∧ T ≠ z ∧ T ≠ i1 ∧ T ≠ i2 ∧ I0 b1 b2 z TI TO T i1 i2 l1 l2 xs ys k h)
def Hz (N0 S:Addr) (xs ys:Array Value) (k:Nat) (acc:Array Value) (h:Heap):Prop :=
 acc.size = k ∧ (∀ j,j < k -> ∃ a x y,acc[j]? = some (.ref a) ∧ xs[j]? = some x ∧ ys[j]? = some y ∧ IsPair h a x y ∧ N0 ≤ a ∧ a ≠ S) ∧ ∀ i j a b,i < j -> j < k -> acc[i]? = some (.ref a) -> acc[j]? = some (.ref b) -> a ≠ b
theorem Zk.keep {S:Addr} {h h':Heap} (x:Zk b1 b2 S z TI TO i1 i2 l1 l2 xs ys k h) (hS:S ∉ [z,TI,TO,i1,i2,l1,l2]) (e:∀ c,c ≠ S -> ∀ o,h.get? c = some o -> h'.get? c = some o):Zk b1 b2 S z TI TO i1 i2 l1 l2 xs ys k h':= by
 have e':∀ c ∈ [z,TI,TO,i1,i2,l1,l2],∀ o,h.get? c = some o -> h'.get? c = some o:=fun c hc o q => e c (fun z => hS (z ▸ hc)) o q
 rcases x with ⟨h0,x⟩ | ⟨h0,T,t1,t2,t3,t4,⟨f,x1⟩,x2,⟨a,c,x3⟩,x4,x5,x6,x7⟩
 ·exact .inl ⟨h0,sG.keep x e'⟩
 ·exact .inr ⟨h0,T,t1,t2,t3,t4,⟨f,e' z (by simp) _ x1⟩,e' TI (by simp) _ x2,⟨a,c,e T t1 _ x3⟩,x4.at (e' i1 (by simp)),x5.at (e' i2 (by simp)),x6.at (e' l1 (by simp)),x7.at (e' l2 (by simp))⟩
theorem BR {S:Addr} {v1 v2:Value} {Q:Option Value -> Shared -> Prop} (D:uv z TI TO i1 i2 l1 l2) (hS:S < s.heap.objs.size) (st:Zk b1 b2 S z TI TO i1 i2 l1 l2 xs ys k s.heap) (hx:xs[k]? = some v1) (hy:ys[k]? = some v2)
  (hQ:∀ h',Zk b1 b2 S z TI TO i1 i2 l1 l2 xs ys (k + 1) h' -> IsPair h' s.heap.objs.size v1 v2 -> (∀ c o,c ∉ [z,TO,i1,i2] -> s.heap.get? c = some o -> h'.get? c = some o) -> Q (some (.ref s.heap.objs.size)) { s with heap:=h' }) :
  wpAny (model prog w) A (pyNext (.ref z)) Q E s:= by
 rcases st with ⟨rfl,st⟩ | ⟨h0,T,t1,t2,t3,t4,st⟩
 ·have hz:=st.1
  have l1':=st.2.2.2.1.lt
  have l2':=st.2.2.2.2.1.lt
  have lz:z < s.heap.objs.size:=Heap.lt_size hz
  refine sf D st hx hy fun h' st' np kp => hQ h' (.inr ⟨Nat.zero_lt_one,s.heap.objs.size,Nat.ne_of_gt hS,Nat.ne_of_gt lz,Nat.ne_of_gt l1',Nat.ne_of_gt l2',?_⟩) np kp
  obtain ⟨x1,x2,x3,x4,x5,x6,x7⟩:=st'
  exact ⟨⟨false,x1⟩,x2,⟨_,_,np⟩,x4,x5,x6,x7⟩
 ·exact vT D t2 t3 t4 st hx hy fun h' st' np kp => hQ h' (.inr ⟨Nat.succ_pos _,T,t1,t2,t3,t4,st'⟩) np kp
theorem E1 {S:Addr} {Q:Option Value -> Shared -> Prop} (hh:A.handled = none) (D:uv z TI TO i1 i2 l1 l2) (st:Zk b1 b2 S z TI TO i1 i2 l1 l2 xs ys k s.heap) (hx:xs[k]? = none ∨ ys[k]? = none)
  (hQ:∀ h',(∀ c o,c ∉ [z,TO,i1,i2] -> s.heap.get? c = some o -> h'.get? c = some o) -> Q none { s with heap:=h' }):wpAny (model prog w) A (pyNext (.ref z)) Q E s:= by
 rcases st with ⟨rfl,st⟩ | ⟨h0,T,t1,t2,t3,t4,st⟩
 ·exact vx hh D st hx hQ
 ·exact zJ hh D t2 t3 t4 st hx hQ
theorem Ao {R:Result -> Shared -> Prop} {N0 S:Addr} {n:Nat} (hh:A.handled = none) (D:uv z TI TO i1 i2 l1 l2) (hS:S ∉ [z,TI,TO,i1,i2,l1,l2]) (hn:n = min xs.size ys.size) (hn2:n ≤ sizeLine) (h0:∀ c ∈ [z,TO,i1,i2],c < N0) (res:Value) :
  ∀ (m k:Nat) (s:Shared) (acc:Array Value) (c:Nat),n - k = m -> k ≤ n -> N0 ≤ s.heap.objs.size -> Zk b1 b2 S z TI TO i1 i2 l1 l2 xs ys k s.heap -> s.heap.get? S = some { cls:=.type "list",dict:=none,data:=.seq acc c,slots:=#[] } -> Hz N0 S xs ys k acc s.heap ->
  (∀ h' acc' c',(∀ b o,b ∉ [S,z,TO,i1,i2] -> s.heap.get? b = some o -> h'.get? b = some o) -> h'.get? S = some { cls:=.type "list",dict:=none,data:=.seq acc' c',slots:=#[] } -> Hz N0 S xs ys n acc' h' -> R (.ok (.ret res)) { s with heap:=h' }) ->
  codeAny (model prog w) A (.builtin "list.extend.loop" ⟨[.ref S,.ref z,res],[]⟩) R s:= by
 have hSw:S ∉ [z,TO,i1,i2]:=fun h => hS (by simp only [List.mem_cons,List.not_mem_nil,or_false] at h ⊢; rcases h with h | h | h | h <;> simp [h])
 intro m
 induction m with
 | zero =>
  intro k s acc c hk hle hN hst hSo hacc hR
  have hin:k = n:=by omega
  subst hin
  refine codeAny_builtin F.entry_extend_loop ?_
  rw [Around.under_plainId F.plain_extend_loop _]
  show wpAny _ A.in1 (pyNext (.ref z) >>= _) _ _ s
  have hx:xs[k]? = none ∨ ys[k]? = none:= by
   rcases Nat.le_total xs.size ys.size with h | h
   ·exact .inl (by rw [hn,Nat.min_eq_left h]; exact Array.getElem?_eq_none (Nat.le_refl _))
   ·exact .inr (by rw [hn,Nat.min_eq_right h]; exact Array.getElem?_eq_none (Nat.le_refl _))
  refine wpAny_bind (E1 (by simpa using hh) D hst hx fun h' kp => ?_)
  refine wpAny_pure (hR h' acc c (fun b o hb e => kp b o (fun z => hb (List.mem_cons_of_mem _ z)) e) (kp S _ hSw hSo) ⟨hacc.1,fun j hj => ?_,hacc.2.2⟩)
  obtain ⟨a,x,y,e1,e2,e3,e4,e5,e6⟩:=hacc.2.1 j hj
  exact ⟨a,x,y,e1,e2,e3,kp a _ (fun z => Nat.not_le_of_lt (h0 a z) e5) e4,e5,e6⟩
 | succ m ih =>
  intro k s acc c hk hle hN hst hSo hacc hR
  have hlt:k < n:=by omega
  refine codeAny_builtin F.entry_extend_loop ?_
  rw [Around.under_plainId F.plain_extend_loop _]
  show wpAny _ A.in1 (pyNext (.ref z) >>= _) _ _ s
  have hix:k < xs.size:=Nat.lt_of_lt_of_le hlt (hn ▸ Nat.min_le_left ..)
  have hiy:k < ys.size:=Nat.lt_of_lt_of_le hlt (hn ▸ Nat.min_le_right ..)
  refine wpAny_bind (BR D (Heap.lt_size hSo) hst (Array.getElem?_eq_getElem hix) (Array.getElem?_eq_getElem hiy) fun h' st' np kp => ?_)
  have hSo':=kp S _ hSw hSo
  show wpAny _ A.in1 (updateSeq S (·.push (.ref s.heap.objs.size)) >>= _) _ _ _
  have hSl:S < s.heap.objs.size:=Heap.lt_size hSo
  have oth:∀ b o,b ≠ S -> h'.get? b = some o -> (h'.update S (Obj.mapSeq (·.push (Value.ref s.heap.objs.size)))).get? b = some o:=fun b o hb e => (Heap.get?_update_other _ _ (Ne.symm hb)).trans e
  have np':=oth _ _ (Nat.ne_of_gt hSl) np
  refine wpAny_bind ?_
  refine wpAny_updateSeq hSo' rfl (wpAny_pure ⟨plainId_quiet F.plain_extend_loop _,ih (k + 1) { s with heap:=h'.update S (Obj.mapSeq (·.push (Value.ref s.heap.objs.size))) } (acc.push (.ref s.heap.objs.size)) _ (by omega) hlt (Nat.le_of_lt (Nat.lt_of_le_of_lt hN (Heap.lt_size np'))) (st'.keep hS fun c hc o e => oth c o hc e) (Heap.get?_update_self _ hSo' rfl) ⟨by rw [Array.size_push,hacc.1],fun j hj => ?_,fun i j a b hij hj ea eb => ?_⟩ fun h'' acc' c' kp'' hS'' hz'' => ?_⟩)
   (by rw [hacc.1]; omega) (by show (acc.push (Value.ref s.heap.objs.size)).size ≤ sizeLine + 1; rw [Array.size_push,hacc.1]; omega)
  ·by_cases e:j = k
   ·subst e
    exact ⟨s.heap.objs.size,_,_,by rw [<- hacc.1]; exact Array.getElem?_push_size,Array.getElem?_eq_getElem hix,Array.getElem?_eq_getElem hiy,np',hN,Nat.ne_of_gt hSl⟩
   ·obtain ⟨a,x,y,e1,e2,e3,e4,e5,e6⟩:=hacc.2.1 j (by omega)
    refine ⟨a,x,y,?_,e2,e3,oth _ _ e6 (kp a _ (fun z => Nat.not_le_of_lt (h0 a z) e5) e4),e5,e6⟩
    rw [Array.getElem?_push,if_neg (by rw [hacc.1]; omega)]
    exact e1
  ·rw [Array.getElem?_push,if_neg (by rw [hacc.1]; omega)] at ea
   by_cases e:j = k
   ·subst e
    rw [show j = acc.size from hacc.1.symm,Array.getElem?_push_size] at eb
    cases eb
    obtain ⟨a',x,y,e1,_,_,e4,_⟩:=hacc.2.1 i hij
    rw [e1] at ea
    cases ea
    exact Nat.ne_of_lt (Heap.lt_size e4)
   ·rw [Array.getElem?_push,if_neg (by rw [hacc.1]; omega)] at eb
    exact hacc.2.2 i j a b hij (by omega) ea eb
  ·refine hR h'' acc' c' (fun b o hb e => ?_) hS'' hz''
   exact kp'' b o hb (oth b o (fun z => hb (by rw [z]; simp)) (kp b o (fun z => hb (List.mem_cons_of_mem _ z)) e))
theorem tW:typeLookup (.type "zip") "__len__" = pure none:=by rw [typeLookup_type,builtinLookup_eq_fast]; kernel_rfl
theorem qB:typeLookup (.type "zip") "__length_hint__" = pure none:=by rw [typeLookup_type,builtinLookup_eq_fast]; kernel_rfl
theorem uq {R:Result -> Shared -> Prop} {N0 S:Addr} (hh:A.handled = none) (D:uv z TI TO i1 i2 l1 l2) (hS:S ∉ [z,TI,TO,i1,i2,l1,l2]) (hn2:min xs.size ys.size ≤ sizeLine) (h0:∀ c ∈ [z,TO,i1,i2],c < N0) (hN:N0 ≤ s.heap.objs.size) (res:Value) (c₀:Nat)
  (st:sG b1 b2 z TI TO i1 i2 l1 l2 xs ys 0 .none s.heap) (hSo:s.heap.get? S = some { cls:=.type "list",data:=.seq #[] c₀ })
  (hR:∀ h' acc' c',(∀ b o,b ∉ [S,z,TO,i1,i2] -> s.heap.get? b = some o -> h'.get? b = some o) -> h'.get? S = some { cls:=.type "list",dict:=none,data:=.seq acc' c',slots:=#[] } -> Hz N0 S xs ys (min xs.size ys.size) acc' h' -> R (.ok (.ret res)) { s with heap:=h' }) :
  wpAny (model prog w) A.in1 (Builtin.List.listExtendWith (.ref S) (.ref z) res)
   (fun fin s' => match fin with | .done f => R (.ok f) s' | .again c' => c'.quiet = true ∧ codeAny (model prog w) A c' R s') (fun e s' => R (.error e) s') s:= by
 have hSz:S ≠ z:=fun e => hS (by rw [e]; simp)
 have hT:s.TypeIs (.ref z) "zip":=⟨_,st.1,rfl⟩
 unfold Builtin.List.listExtendWith
 refine wpAny_bind (wpAny_typeOf hT ?_)
 have h1:Builtin.List.listSameRef (.ref S) (.ref z) = false:=by simp [Builtin.List.listSameRef,hSz]
 have h2:(Value.type "zip" == Value.type "list") = false:=by decide
 have h3:(Value.type "zip" == Value.type "tuple") = false:=by decide
 simp only [h1,h2,h3,Bool.or_false,Bool.false_eq_true,if_false]
 refine wpAny_bind (wpAny_pyIter_zip st.1 ?_)
 refine wpAny_bind (wpAny_holding ?_)
 unfold Builtin.List.listLengthHint
 refine wpAny_bind (wpAny_specialOf hT tW ?_)
 show wpAny _ A.in1 (specialOf (Value.ref z) (Str.ofString "__length_hint__") >>= _) _ _ _
 refine wpAny_bind (wpAny_specialOf hT qB ?_)
 refine wpAny_pure ?_
 show wpAny _ A.in1 (rule "list.extend.makes-room" >>= fun _ => Builtin.List.listTouch (.ref S) >>= fun _ =>
  again (.builtin "list.extend.loop" ⟨[.ref S,.ref z,res],[]⟩)) _ _ _
 refine wpAny_bind (wpAny_rule ?_)
 refine wpAny_bind ?_
 show wpAny _ A.in1 (updateSeq S (·.push .none) >>= fun _ => updateSeq S (·.pop)) _ _ _
 refine wpAny_bind (wpAny_updateSeq hSo rfl ?_)
 have hS₂:=Heap.get?_update_self (Obj.mapSeq (·.push Value.none)) hSo rfl
 refine wpAny_updateSeq (hz:=by seq_fits) hS₂ rfl ?_
 have hS₃:=Heap.get?_update_self (Obj.mapSeq (·.pop)) hS₂ rfl
 have oth:∀ b o,b ≠ S -> s.heap.get? b = some o -> ((s.heap.update S (Obj.mapSeq (·.push Value.none))).update S (Obj.mapSeq (·.pop))).get? b = some o :=
  fun b o hb e => (Heap.get?_update_other _ _ (Ne.symm hb)).trans ((Heap.get?_update_other _ _ (Ne.symm hb)).trans e)
 have hsz:((s.heap.update S (Obj.mapSeq (·.push Value.none))).update S (Obj.mapSeq (·.pop))).objs.size = s.heap.objs.size:= by
  rw [(Heap.SameBut.update (s.heap.update S (Obj.mapSeq (·.push Value.none))) S _).1,(Heap.SameBut.update s.heap S _).1]
 refine wpAny_pure ⟨plainId_quiet F.plain_extend_loop _,Ao hh D hS rfl hn2 h0 res (min xs.size ys.size) 0 { s with heap:=(s.heap.update S (Obj.mapSeq (·.push Value.none))).update S (Obj.mapSeq (·.pop)) } _ _ rfl (Nat.zero_le _) (by show N0 ≤ Array.size _; rw [hsz]; exact hN)
  (.inl ⟨rfl,sG.keep st fun c hc o e => oth c o (fun z => hS (z ▸ hc)) e⟩) hS₃ ⟨rfl,fun j hj => absurd hj (Nat.not_lt_zero j),fun i j a b _ hj => absurd hj (Nat.not_lt_zero j)⟩ fun h' acc' c' kp hS' hz => ?_⟩
 exact hR h' acc' c' (fun b o hb e => kp b o hb (oth b o (fun z => hb (by rw [z]; simp)) e)) hS' hz
theorem xU {R:Result -> Shared -> Prop} {N0 S:Addr} (hh:A.handled = none) (D:uv z TI TO i1 i2 l1 l2) (hS:S ∉ [z,TI,TO,i1,i2,l1,l2]) (hn2:min xs.size ys.size ≤ sizeLine) (h0:∀ c ∈ [z,TO,i1,i2],c < N0) (hN:N0 ≤ s.heap.objs.size)
  (st:sG b1 b2 z TI TO i1 i2 l1 l2 xs ys 0 .none s.heap) (hSo:s.heap.get? S = some { cls:=.type "list",data:=.seq #[] })
  (hR:∀ h' acc' c',(∀ b o,b ∉ [S,z,TO,i1,i2] -> s.heap.get? b = some o -> h'.get? b = some o) -> h'.get? S = some { cls:=.type "list",dict:=none,data:=.seq acc' c',slots:=#[] } -> Hz N0 S xs ys (min xs.size ys.size) acc' h' -> R (.ok (.ret .none)) { s with heap:=h' }) :
  wpAny (model prog w) A.in1 (Builtin.«list.__init__» ⟨[.ref S,.ref z],[]⟩)
   (fun fin s' => match fin with | .done f => R (.ok f) s' | .again c' => c'.quiet = true ∧ codeAny (model prog w) A c' R s') (fun e s' => R (.error e) s') s:= by
 show wpAny _ A.in1 (do let old <- Builtin.List.listItems (.ref S); Builtin.List.listUpdate (.ref S) (fun _ => #[]); letGo old.toList.reverse; Builtin.List.listExtendWith (.ref S) (.ref z) .none) _ _ s
 refine wpAny_bind ?_
 unfold Builtin.List.listItems
 refine wpAny_bind (wpAny_seqItems hSo rfl (wpAny_pure ?_))
 show wpAny _ A.in1 (updateSeq S (fun _ => #[]) >>= fun _ => letGo (#[]:Array Value).toList.reverse >>= fun _ => Builtin.List.listExtendWith (.ref S) (.ref z) .none) _ _ s
 refine wpAny_bind (wpAny_updateSeq hSo rfl ?_)
 have hS₂:=Heap.get?_update_self (Obj.mapSeq (fun _ => (#[]:Array Value))) hSo rfl
 have oth:∀ b o,b ≠ S -> s.heap.get? b = some o -> (s.heap.update S (Obj.mapSeq (fun _ => (#[]:Array Value)))).get? b = some o :=
  fun b o hb e => (Heap.get?_update_other _ _ (Ne.symm hb)).trans e
 refine wpAny_bind (wpAny_letGo ?_)
 refine uq (s:={ s with heap:=s.heap.update S (Obj.mapSeq (fun _ => (#[]:Array Value))) }) hh D hS hn2 h0 (by show N0 ≤ Array.size _; rw [(Heap.SameBut.update s.heap S _).1]; exact hN) .none _ (sG.keep st fun c hc o e => oth c o (fun z => hS (z ▸ hc)) e) hS₂ fun h' acc' c' kp hS' hacc => ?_
 exact hR h' acc' c' (fun b o hb e => kp b o hb (oth b o (fun z => hb (by rw [z]; simp)) e)) hS' hacc
theorem qg {Q:Value -> Shared -> Prop} (hh:A.handled = none) (D:uv z TI TO i1 i2 l1 l2) (hn2:min xs.size ys.size ≤ sizeLine) (st:sG b1 b2 z TI TO i1 i2 l1 l2 xs ys 0 .none s.heap)
  (hQ:∀ h' acc' c',(∀ b o,b ∉ [s.heap.objs.size,z,TO,i1,i2] -> s.heap.get? b = some o -> h'.get? b = some o) -> h'.get? s.heap.objs.size = some { cls:=.type "list",dict:=none,data:=.seq acc' c',slots:=#[] } -> Hz s.heap.objs.size s.heap.objs.size xs ys (min xs.size ys.size) acc' h' -> Q (.ref s.heap.objs.size) { s with heap:=h' }) :
  wpAny (model prog w) A (call (.type "list") [.ref z]) Q E s:= by
 have lt:∀ c ∈ [z,TI,TO,i1,i2,l1,l2],c < s.heap.objs.size:=fun c hc => by
  obtain ⟨x1,x2,⟨_,_,x3⟩,x4,x5,x6,x7⟩:=st
  simp only [List.mem_cons,List.not_mem_nil,or_false] at hc
  rcases hc with rfl | rfl | rfl | rfl | rfl | rfl | rfl
  ·exact Heap.lt_size x1
  ·exact Heap.lt_size x2
  ·exact Heap.lt_size x3
  ·exact x4.lt
  ·exact x5.lt
  ·exact x6.lt
  ·exact x7.lt
 have hSf:s.heap.objs.size ∉ [z,TI,TO,i1,i2,l1,l2]:=fun hm => Nat.lt_irrefl _ (lt _ hm)
 refine callType_codes (Q₁:=fun obj s₁ => obj = .ref s.heap.objs.size ∧ s₁ = { s with heap:=s.heap.push { cls:=.type "list",data:=.seq #[] } }) F.called_list (F.typeCall_list_1 _) F.entry_list_init
  (code_list_new _ ⟨rfl,rfl⟩) fun obj s₁ h₁ => ?_
 obtain ⟨rfl,rfl⟩:=h₁
 have hS:(s.heap.push { cls:=.type "list",data:=.seq #[] }).get? s.heap.objs.size = some { cls:=.type "list",data:=.seq #[] }:=Heap.get?_push_size _ rfl
 refine ⟨⟨_,hS,rfl⟩,F.args_list_init_2 _ _,xU (N0:=s.heap.objs.size) (s:={ s with heap:=s.heap.push { cls:=.type "list",data:=.seq #[] } }) (by simpa using hh) D hSf hn2 (fun c hc => lt c (by simp only [List.mem_cons,List.not_mem_nil,or_false] at hc ⊢; rcases hc with h | h | h | h <;> simp [h])) (by show _ ≤ Array.size _; rw [Heap.size_push]; exact Nat.le_succ _) (sG.keep st fun c _ o e => Heap.get?_push_of_some _ e) hS fun h' acc' c' hm hS' hacc => ?_⟩
 exact ⟨rfl,hQ h' acc' c' (fun b o hb e => hm b o hb (Heap.get?_push_of_some _ e)) hS' hacc⟩
end
end Jt
namespace Jt
open PySem L2
section
variable {X:Cx} {pins:List (Addr × Obj)} {σ:L2.St} {H H':Hp} {s:Shared} {h':Heap}
theorem _root_.L2.Inv.laidM {t':Nat} (I:Inv X pins σ H s) (k:∀ b o,s.heap.get? b = some o -> h'.get? b = some o) (hH:∀ b o,H b = some o -> H' b = some o)
  (new:∀ b u,H' b = some u -> H b = some u ∨ (s.heap.objs.size ≤ b ∧ eD X.prog X.w H' h' b u)):Inv X pins σ H' { s with heap:=h',toks:=t' }:= by
 refine I.un ⟨fun b u q _ _ _ => k b u q,fun b u q _ _ _ => ⟨u.slots,k b u q⟩,fun b u q n _ => ?_,fun b u q _ => ⟨u,k b u q⟩,fun b xs q => hH _ _ q,fun b u xs q => hH _ _ q,fun b ps q => ⟨#[],by rw [hH _ _ q]; simp⟩⟩ fun b u e => ?_
 ·cases e:H' b with
  | none => rfl
  | some o =>
   rcases new b o e with z | ⟨z,_⟩
   ·rw [n] at z; cases z
   ·exact absurd (Heap.lt_size q) (Nat.not_lt_of_le z)
 ·rcases new b u e with z | ⟨_,z⟩
  ·exact (I.hok b u z).stay (fun c v hc q => k c v q) (fun c q => hH _ _ q) fun c xs q => hH _ _ q
  ·exact z
def lX (H:Hp):List (Addr × V × V) -> Hp
 | [] => H
 | (a,x,y) :: r => upd (lX H r) a (.tup [x,y])
theorem mB {b:Addr} {o:HO}:∀ {r:List (Addr × V × V)},(∀ p ∈ r,H p.1 = none) -> H b = some o -> lX H r b = some o
 | [],_,e => e
 | (a,x,y) :: r,hn,e => by
  have ne:b ≠ a:=fun z => by rw [z,hn _ List.mem_cons_self] at e; cases e
  show upd _ _ _ _ = _
  rw [aA ne]
  exact mB (fun p hp => hn p (List.mem_cons_of_mem _ hp)) e
theorem rX {b:Addr} {o:HO}:∀ {r:List (Addr × V × V)},lX H r b = some o -> H b = some o ∨ ∃ x y,(b,x,y) ∈ r ∧ o = .tup [x,y]
 | [],e => .inl e
 | (a,x,y) :: r,e => by
  by_cases ne:b = a
  ·subst ne
   have e:upd (lX H r) b (.tup [x,y]) b = some o:=e
   rw [aV] at e
   cases e
   exact .inr ⟨x,y,List.mem_cons_self,rfl⟩
  ·have e:upd (lX H r) a (.tup [x,y]) b = some o:=e
   rw [aA ne] at e
   rcases rX e with z | ⟨x',y',hm,z⟩
   ·exact .inl z
   ·exact .inr ⟨x',y',List.mem_cons_of_mem _ hm,z⟩
end
section
variable {X:Cx} {a b:Expr} {p p2 pos pos2:Pos}
def Ka (K:PySem.W.Frag) (ta:TA):TE:=fun σ H Q => ta σ H fun vs H1 => ∃ b1 b2 l1 l2 xs ys,vs = [.ref l1,.ref l2] ∧ Sq b1 K H1 l1 xs ∧ Sq b2 K H1 l2 ys ∧
 ∀ (l:Addr) (r:List (Addr × V × V)),H1 l = none -> (∀ p ∈ r,H1 p.1 = none ∧ p.1 ≠ l) -> (r.map (·.1)).Nodup -> r.map (·.2) = xs.zip ys -> Q (.ref l) (upd (lX H1 r) l (.lst (r.map fun p => .ref p.1)))
theorem ue {ta:TA} (hgl:Gl X "list") (hml:X.mg "list" = none) (hgz:Gl X "zip") (hmz:X.mg "zip" = none) (hc:X.calm = true) (ha:PA X [a,b] ta)
  (hz0:starEach [.Call (.Name "zip" p2) [a,b] [] pos2] X.env = [(false,eval (.Call (.Name "zip" p2) [a,b] [] pos2) X.env)]:=by rfl)
  (hs:starEach [a,b] X.env = [(false,eval a X.env),(false,eval b X.env)]:=by rfl) (hs2:starEach [b] X.env = [(false,eval b X.env)]:=by rfl) :
  PE X (.Call (.Name "list" p) [.Call (.Name "zip" p2) [a,b] [] pos2] [] pos) (Ka X.K ta):= by
 intro pins s σ H Q I h
 refine wpAny_Call_Name_kw (fO I hgl hml (show bootBuiltins "list" = some (.type "list") by decide +kernel) ?_)
 refine PyProof.Rows.callWith_type1 ?_ hz0 rfl
 rw [hz0]
 show wpAny _ _ (spliced ((false,eval (.Call (.Name "zip" p2) [a,b] [] pos2) X.env) :: backTo pos [])) _ _ s
 refine Calls.spliced_cons ?_
 refine PyProof.Rows.Call_ (fO I hgz hmz (show bootBuiltins "zip" = some (.type "zip") by decide +kernel) (PyProof.Rows.callWith_type1 (cW (ha pos2 pins s σ H _ I h) fun us s1 ⟨vs,H1,I1,r1,q1⟩ => ?_) (by rw [hs,hs2]) (by rw [hs2]; rfl)))
 obtain ⟨b1,b2,l1,l2,xs,ys,e,h1,h2,q⟩:=q1
 subst e
 obtain ⟨u1,u2,rfl,ru1,ru2⟩:=r1.two
 cases ru1
 cases ru2
 obtain ⟨i1s,rv1,p1⟩:=I1.sq h1
 obtain ⟨i2s,rv2,p2⟩:=I1.sq h2
 refine uE p1 p2 fun h' z TI TO i1 i2 D st kp hnew => ?_
 refine Calls.spliced_nil ?_
 have hh:X.A.handled = none:=I1.ok.hd hc
 have hz1:xs.length ≤ sizeLine:= by
  cases b1 with
  | true => obtain ⟨_,_,_,hz⟩:=I1.tuple h1; exact hz
  | false => obtain ⟨_,_,_,hz⟩:=I1.list h1; exact hz
 have ln1:xs.length = i1s.length:=rv1.length
 have ln2:ys.length = i2s.length:=rv2.length
 have hmin:min i1s.toArray.size i2s.toArray.size ≤ sizeLine:=Nat.le_trans (Nat.min_le_left ..) (by rw [List.size_toArray,<- ln1]; exact hz1)
 refine qg (s:={ s1 with heap:=h' }) hh D hmin st fun h2 acc c' kp2 hSo hacc => ?_
 have hle:s1.heap.objs.size ≤ h'.objs.size:=Nat.le_trans (hnew z (by simp)) (Nat.le_of_lt (Heap.lt_size st.1))
 have hmz2:min i1s.toArray.size i2s.toArray.size = min xs.length ys.length:=by rw [List.size_toArray,List.size_toArray,ln1,ln2]
 rw [hmz2] at hacc
 obtain ⟨hsz,hall,hdis⟩:=hacc
 let ad:Nat -> Addr:=fun j => match acc[j]? with | some (.ref a) => a | _ => 0
 have had:∀ j,j < min xs.length ys.length -> acc[j]? = some (.ref (ad j)):=fun j hj => by
  obtain ⟨a,_,_,e1,_⟩:=hall j hj
  show acc[j]? = some (Value.ref (match acc[j]? with | some (.ref a) => a | _ => 0))
  rw [e1]
 let r:List (Addr × V × V):=(List.range (min xs.length ys.length)).map fun j => (ad j,xs.getD j .non,ys.getD j .non)
 have hr:∀ q ∈ r,∃ j,j < min xs.length ys.length ∧ q = (ad j,xs.getD j .non,ys.getD j .non):=fun q hq => by
  obtain ⟨j,hj,e⟩:=List.mem_map.mp hq
  exact ⟨j,List.mem_range.mp hj,e.symm⟩
 have hge:∀ j,j < min xs.length ys.length -> h'.objs.size ≤ ad j ∧ ad j ≠ h'.objs.size:=fun j hj => by
  obtain ⟨a,_,_,e1,_,_,_,e5,e6⟩:=hall j hj
  have:=had j hj
  rw [e1] at this
  cases this
  exact ⟨e5,e6⟩
 have hfr:∀ q ∈ r,H1 q.1 = none:=fun q hq => by
  obtain ⟨j,hj,rfl⟩:=hr q hq
  exact I1.hok.fresh (Nat.le_trans hle (hge j hj).1)
 have hS:H1 h'.objs.size = none:=I1.hok.fresh hle
 have hmap:acc.toList = r.map fun q => Value.ref q.1:= by
  refine List.ext_getElem? fun j => ?_
  by_cases hj:j < min xs.length ys.length
  ·rw [Array.getElem?_toList,had j hj]
   simp [r,hj]
  ·rw [Array.getElem?_toList,Array.getElem?_eq_none (by rw [hsz]; omega),List.getElem?_eq_none (by simp [r]; omega)]
 have hvals:∀ l:List (Addr × V × V),Vals (l.map fun q => V.ref q.1) (l.map fun q => Value.ref q.1):=fun l => by
  induction l with
  | nil => exact .nil
  | cons q l ih => exact .cons rfl ih
 refine ⟨.ref h'.objs.size,_,I1.laidM (t':=s1.toks) (H':=upd (lX H1 r) h'.objs.size (.lst (r.map fun q => .ref q.1))) (fun b o e => ?_) (fun b o e => ?_) (fun b u e => ?_),rfl,q h'.objs.size r hS (fun q hq => ⟨hfr q hq,?_⟩) ?_ ?_⟩
 ·refine kp2 b o (fun z' => ?_) (kp b o e)
  have hb:=Heap.lt_size e
  rcases List.mem_cons.mp z' with z' | z'
  ·rw [z'] at hb; exact Nat.not_le_of_lt hb hle
  ·refine Nat.not_le_of_lt hb (hnew b ?_)
   simp only [List.mem_cons,List.not_mem_nil,or_false] at z' ⊢
   rcases z' with h | h | h | h <;> simp [h]
 ·rw [aA fun z => by rw [z,hS] at e; cases e]
  exact mB hfr e
 ·by_cases hb:b = h'.objs.size
  ·subst hb
   rw [aV] at e
   cases e
   refine .inr ⟨hle,?_,acc.toList,c',?_,?_⟩
   ·rw [List.length_map,List.length_map,List.length_range]
    exact Nat.le_trans (Nat.min_le_left ..) hz1
   ·rw [hmap]; exact hvals r
   ·rw [Array.toArray_toList]; exact hSo
  ·rw [aA hb] at e
   rcases rX e with e | ⟨x,y,hm,rfl⟩
   ·exact .inl e
   ·obtain ⟨j,hj,ej⟩:=hr _ hm
    cases ej
    refine .inr ⟨Nat.le_trans hle (hge j hj).1,?_⟩
    obtain ⟨a',x',y',e1,e2,e3,e4,_⟩:=hall j hj
    have:=had j hj
    rw [e1] at this
    cases this
    have hjx:j < xs.length:=by omega
    have hjy:j < ys.length:=by omega
    obtain ⟨u1,f1,g1⟩:=rv1.get (List.getElem?_eq_getElem hjx)
    obtain ⟨u2,f2,g2⟩:=rv2.get (List.getElem?_eq_getElem hjy)
    have k1:x' = u1:= by
     rw [List.getElem?_toArray,f1] at e2
     exact (Option.some.inj e2).symm
    have k2:y' = u2:= by
     rw [List.getElem?_toArray,f2] at e3
     exact (Option.some.inj e3).symm
    subst k1 k2
    refine ⟨by rw [sizeLine_eq]; show 2 ≤ _; decide,[x',y'],.cons ?_ (.cons ?_ .nil),⟨_,e4,rfl,_,rfl⟩⟩
    ·simpa [hjx] using g1
    ·simpa [hjy] using g2
 ·obtain ⟨j,hj,rfl⟩:=hr q hq
  exact (hge j hj).2
 ·refine List.pairwise_map.mpr (List.pairwise_map.mpr (List.Pairwise.imp_of_mem (fun {i j} hi hj hlt => ?_) List.pairwise_lt_range))
  exact hdis i j _ _ hlt (List.mem_range.mp hj) (had i (List.mem_range.mp hi)) (had j (List.mem_range.mp hj))
 ·refine List.ext_getElem? fun j => ?_
  by_cases hj:j < min xs.length ys.length
  ·have hjx:j < xs.length:=by omega
   have hjy:j < ys.length:=by omega
   rw [(List.getElem?_zip_eq_some (z:=(xs[j],ys[j]))).mpr ⟨List.getElem?_eq_getElem hjx,List.getElem?_eq_getElem hjy⟩]
   simp [r,hj,hjx,hjy]
  ·rw [List.getElem?_eq_none (by simp [r]; omega),List.getElem?_eq_none (by rw [List.length_zip]; omega)]
end
theorem j5 {H:Hp} {b:Addr}:∀ {r:List (Addr × V × V)},H b = none -> b ∉ r.map (·.1) -> lX H r b = none
 | [],e,_ => e
 | (a,x,y) :: r,e,hn => by
  simp only [List.map_cons,List.mem_cons,not_or] at hn
  show upd _ _ _ _ = _
  rw [aA hn.1]
  exact j5 e hn.2
section
variable {c:Ct} {δ:DS} {S:List D} {σ:L2.St} {T:List V} {H:Hp}
theorem qK (s:Sl c δ S σ T H):∀ (r:List (Addr × V × V)) (xs ys:List D) (vs us:List V),Rs (fS c δ σ H) xs vs -> Rs (fS c δ σ H) ys us -> r.map (·.2) = vs.zip us -> (∀ p ∈ r,H p.1 = none) -> (r.map (·.1)).Nodup ->
  Sl c δ (eG xs ys ++ S) σ (r.map (fun p => V.ref p.1) ++ T) (lX H r)
 | [],xs,ys,vs,us,h1,h2,e,_,_ => by
  have hl1:=h1.length
  have hl2:=h2.length
  have:eG xs ys = []:= by
   have:=congrArg List.length e
   rw [List.length_zip,List.length_map,List.length_nil] at this
   refine List.eq_nil_of_length_eq_zero ?_
   rw [jy]
   omega
  rw [this]
  exact s
 | (a,v,u) :: r,xs,ys,vs,us,h1,h2,e,hn,nd => by
  match vs,us,e with
  | v' :: vs,u' :: us,e =>
   simp only [List.map_cons,List.zip_cons_cons,List.cons.injEq,Prod.mk.injEq] at e
   obtain ⟨⟨rfl,rfl⟩,e⟩:=e
   cases xs with
   | nil => cases h1.inv0
   | cons x xs =>
    cases ys with
    | nil => cases h2.inv0
    | cons y ys =>
     have nd':a ∉ r.map (·.1) ∧ (r.map (·.1)).Nodup:=List.nodup_cons.mp nd
     have hn':∀ p ∈ r,H p.1 = none:=fun p hp => hn p (List.mem_cons_of_mem _ hp)
     obtain ⟨_,_,ev,rv,h1'⟩:=h1.inv
     cases ev
     obtain ⟨_,_,eu,ru,h2'⟩:=h2.inv
     cases eu
     have ih:=qK s r xs ys vs us h1' h2' e hn' nd'.2
     have m:∀ b o,fS c δ σ H b = some o -> fS c δ σ (lX H r) b = some o:=bx (fun _ _ _ z => z) fun a o _ h => mB hn' h
     exact (ih.stk (.cons (R.mono m _ _ rv) (.cons (R.mono m _ _ ru) ih.st))).newTup (ds:=[x,y]) (vs:=[v,u]) rfl (j5 (hn _ List.mem_cons_self) nd'.1)
end
section
variable {X:Cx} {a b:Expr} {p p2 pos pos2:Pos} {fs:M (List D)}
def Cu:List D -> Option (List D)
 | [x,y] => match nF x,nF y with
  | some (_,xs),some (_,ys) => some (eG xs ys)
  | _,_ => none
 | _ => none
theorem tu (hml:X.mg "list" = none) (hmz:X.mg "zip" = none) (ha:DA X [a,b] fs) (hgl:Gl X "list":=by rfl) (hgz:Gl X "zip":=by rfl) (hc:X.calm = true:=by rfl)
  (hz0:starEach [.Call (.Name "zip" p2) [a,b] [] pos2] X.env = [(false,eval (.Call (.Name "zip" p2) [a,b] [] pos2) X.env)]:=by rfl)
  (hs:starEach [a,b] X.env = [(false,eval a X.env),(false,eval b X.env)]:=by rfl) (hs2:starEach [b] X.env = [(false,eval b X.env)]:=by rfl) :
  DF X (.Call (.Name "list" p) [.Call (.Name "zip" p2) [a,b] [] pos2] [] pos) (mC Cu fs):=cT (ue hgl hml hgz hmz hc ha hz0 hs hs2) fun σ H Q ⟨c,δ,S,T,z,δ',s,e,k⟩ => by
 obtain ⟨ds,δ1,e1,e⟩:=bind_some e
 obtain ⟨e2,rfl⟩:=aE e
 refine ⟨c,δ,S,T,ds,δ1,s,e1,fun vs H1 l s1 => ?_⟩
 unfold Cu at e2
 split at e2
 ·rename_i dx dy
  split at e2
  ·rename_i b1 xs b2 ys q1 q2
   cases e2
   obtain ⟨v,u,rfl,r1,r2⟩:=HN (s1.st.left l)
   obtain ⟨p1,vs,rfl,h1,g1⟩:=fB (K:=X.K) r1 q1
   obtain ⟨p2,us,rfl,h2,g2⟩:=fB (K:=X.K) r2 q2
   refine ⟨b1,b2,p1,p2,vs,us,rfl,h1,h2,fun m r hm hr nd hz => ?_⟩
   obtain ⟨f1,f2,f3⟩:=s1.fresh hm
   have s2:=qK (s1.drop l) r xs ys vs us g1 g2 hz (fun p hp => (hr p hp).1) nd
   have hm2:lX H1 r m = none:=j5 hm fun q => by
    obtain ⟨p,hp,e⟩:=List.mem_map.mp q
    exact (hr p hp).2 e
   have s3:=s2.hide (o:=.lst (r.map fun p => .ref p.1)) hm2
   have hl:(r.map fun p => V.ref p.1).length = (eG xs ys).length:= by
    have:=congrArg List.length hz
    rw [List.length_map,List.length_zip] at this
    rw [List.length_map,jy,this,g1.length,g2.length]
   exact k m _ _ hl s3 f1 f2 f3
  ·cases e2
 ·cases e2
end
end Jt
namespace Jt
open PySem L2
def jc (x:D):List D -> Option Bool
 | [] => some false
 | y :: ys => match eF 9 y x,jc x ys with
  | some a,some b => some (a || b)
  | _,_ => none
theorem qP {x:D}:∀ {ds:List D} {b:Bool},jc x ds = some b -> ∃ e:Nat -> Bool,(∀ (j:Nat) y,ds[j]? = some y -> eF 9 y x = some (e j)) ∧ (b = true ↔ ∃ j,j < ds.length ∧ e j = true)
 | [],b,h => by
  cases h
  exact ⟨fun _ => false,fun j y h => by simp at h,by simp⟩
 | y :: ys,b,h => by
  unfold jc at h
  split at h
  ·rename_i b1 b2 e1 e2
   cases h
   obtain ⟨e,he,hb⟩:=qP e2
   refine ⟨fun j => match j with | 0 => b1 | j + 1 => e j,fun j y' h1 => ?_,?_⟩
   ·cases j with
    | zero => cases h1; exact e1
    | succ j => exact he j y' (by simpa using h1)
   ·rw [Bool.or_eq_true,hb]
    constructor
    ·rintro (h | ⟨j,hj,ej⟩)
     ·exact ⟨0,by simp,h⟩
     ·exact ⟨j + 1,by simpa using hj,ej⟩
    ·rintro ⟨j,hj,ej⟩
     cases j with
     | zero => exact .inl ej
     | succ j => exact .inr ⟨j,by simpa using hj,ej⟩
  ·cases h
section
variable {X:Cx} {a b:Expr} {fa fb:M D} {pos:Pos}
def HZ (neg:Bool):R2:=fun v u H Q => ∃ (Hh:Hp) (x y:D) (ds:List D) (b:Bool),(∀ b o,Hh b = some o -> H b = some o) ∧ R Hh x v ∧ R Hh y u ∧ fK y = some ds ∧ jc x ds = some b ∧ Q (.bl (if neg then !b else b)) H
open Classical in
theorem oh {pins:List (Addr × Obj)} {σ:St} {H Hh:Hp} {s:Shared} (hu:X.A.units + 20 < cLine) (I:Inv X pins σ H s) (m:∀ b o,Hh b = some o -> H b = some o) {x:D} {v:V} {z:Value} {ds:List D} {vs:List V} {is:List Value} {b:Bool}
  (rx:R Hh x v) (rz:RelV v z) (rd:Rs Hh ds vs) (rv:Vals vs is) (e:jc x ds = some b) :
  ∃ f:Value -> Bool,(∀ w ∈ is.toArray,SeqAt.EqAt X.A.in1 s w z (f w)) ∧ is.toArray.any f = b:= by
 obtain ⟨g,hg,hb⟩:=qP e
 have li:is.length = ds.length:=by rw [<- rv.length,rd.length]
 have at_:∀ j w,is[j]? = some w -> ∃ y v',ds[j]? = some y ∧ R Hh y v' ∧ RelV v' w:=fun j w hw => by
  have hj:j < ds.length:=by rw [<- li]; exact (List.getElem?_eq_some_iff.mp hw).1
  obtain ⟨v',e1,r1⟩:=rd.get (List.getElem?_eq_getElem hj)
  obtain ⟨w',e2,r2⟩:=rv.get e1
  rw [hw] at e2; cases e2
  exact ⟨_,v',List.getElem?_eq_getElem hj,r1,r2⟩
 have same:∀ j k w,is[j]? = some w -> is[k]? = some w -> g j = g k:=fun j k w hj hk => by
  obtain ⟨y,v1,e1,r1,q1⟩:=at_ j w hj
  obtain ⟨y',v2,e2,r2,q2⟩:=at_ k w hk
  have:=RelV.inj q1 q2
  subst this
  have:=R.inj y y' _ r1 r2
  subst this
  exact Option.some.inj ((hg j _ e1).symm.trans (hg k _ e2))
 refine ⟨fun w => decide (∃ j,is[j]? = some w ∧ g j = true),fun w hw => ?_,?_⟩
 ·obtain ⟨j,hj⟩:=List.mem_iff_getElem?.mp (by simpa using hw:w ∈ is)
  obtain ⟨y,v',e1,r1,q1⟩:=at_ j w hj
  have h:=(t8 I m 9 X.A.in1 (by show X.A.units + 1 + 9 < _; omega) y x v' v w z (g j) r1 rx q1 rz (hg j y e1)).1
  have:decide (∃ j,is[j]? = some w ∧ g j = true) = g j:= by
   by_cases hgj:g j = true
   ·rw [hgj]; exact decide_eq_true ⟨j,hj,hgj⟩
   ·rw [Bool.not_eq_true] at hgj; rw [hgj]
    refine decide_eq_false ?_
    rintro ⟨k,hk,gk⟩
    rw [same k j w hk hj,hgj] at gk; cases gk
  show SeqAt.EqAt X.A.in1 s w z (decide (∃ j,is[j]? = some w ∧ g j = true))
  rw [this]; exact h
 ·rw [Bool.eq_iff_iff,hb]
  simp only [List.any_toArray,List.any_eq_true,decide_eq_true_eq]
  constructor
  ·rintro ⟨w,_,j,hj,gj⟩
   exact ⟨j,by rw [<- li]; exact (List.getElem?_eq_some_iff.mp hj).1,gj⟩
  ·rintro ⟨j,hj,gj⟩
   have hj':j < is.length:=by omega
   exact ⟨is[j],List.getElem_mem hj',j,List.getElem?_eq_getElem hj',gj⟩
theorem Ei (hu:X.A.units + 20 < cLine):gf X (compareOp .In) (HZ false):= by
 intro pins s σ H v w u z Q I ru rz h
 obtain ⟨Hh,x,y,ds,b,m,rx,ry,hs,e,q⟩:=h
 cases y with
 | tup es =>
  cases hs
  obtain ⟨p,ws,rfl,h1,h3⟩:=ry.tup
  cases rz
  obtain ⟨its,r,pl,hz⟩:=I.tuple (.of (m _ _ h1))
  obtain ⟨f,hf,ha⟩:=oh hu I m rx ru h3 r e
  refine SeqAt.in_tupleAt f pl hf ⟨.bl _,H,I,rfl,?_⟩
  rw [ha]; exact q
 | lst es =>
  cases hs
  obtain ⟨p,ws,rfl,h1,h3⟩:=ry.lst
  cases rz
  obtain ⟨its,r,pl,hz⟩:=I.list (.inl (Rd.mono m h1))
  obtain ⟨f,hf,ha⟩:=oh hu I m rx ru h3 r e
  refine SeqAt.in_listAt f pl.isList hf ⟨.bl _,H,I,rfl,?_⟩
  rw [ha]; exact q
 | _ => cases hs
def yD (neg:Bool) (x y:D):Option D:=match fK y with
 | some ds => (jc x ds).map fun b => .bl (if neg then !b else b)
 | none => none
theorem Bt {neg:Bool}:qk (HZ neg) (yD neg):=fun c δ S σ T H x y v u d Q s e k => by
 unfold yD at e
 split at e
 ·rename_i ds e2
  cases q:jc x ds with
  | none => rw [q] at e; cases e
  | some b =>
   rw [q] at e; cases e
   exact ⟨_,x,y,ds,b,bo,s.st.tail.head,s.st.head,e2,q,k _ _ (s.stk (.cons .mkB s.st.tail.tail))⟩
 ·cases e
theorem Ey {k:Nat} (hr:c5 k X.A) (ha:DE X a fa) (hb:DE X b fb) (hm:behindInMarks .In b = false:=by rfl):DT X (.Compare a [.In] [b] pos) (m2 (yD false) fa fb >>= cx):=fk (Ei (jk hr)) Bt ha hb hm
end
end Jt
namespace Jt
open PySem L2
structure Kn (P:Program) (w:World) (K:PySem.W.Frag) (mg:Str -> Option Value) (base:Heap) (CX:sv) (k:Nat) (x:Str) (ps:List Str) (sp:Sp):Prop where
 ex:∃ f fd,d7 P w K mg base CX k f fd ps sp ∧ mg x = some (.ref f) ∧ PySem.W.keepIn K (.ref f) = true ∧ Binds K fd ps []
structure Ent (K:PySem.W.Frag) (mg:Str -> Option Value) (x:Str) (ps:List Str) (st:Stmt):Prop where
 ex:∃ f fd,BQ K x x st f fd ∧ mg x = some (.ref f) ∧ Binds K fd ps []
structure Fh (K:PySem.W.Frag) (x:Str) (st:Stmt):Prop where
 ex:∃ (f:Addr) (oc:Value) (od:Option Addr) (kV dc pm:Value) (an:Option Addr) (cd ct:Value) (sl:Array (Option Value)),PySem.W.nsIn K mainGlobals x = some (some (.ref f)) ∧ K.lookup f = some ⟨oc,od,.func (PySem.W.fnOf x x (fA st) (cF st) (ao st) .none kV dc pm an cd ct),sl⟩ ∧ PySem.W.codeIn K cd x = true ∧ PySem.W.keepIn K (.ref f) = true
theorem fh_mk {K:PySem.W.Frag} {x:Str} {st:Stmt} {f:Addr} {oc:Value} {od an:Option Addr} {kV dc pm cd ct:Value} {sl:Array (Option Value)} (a:PySem.W.nsIn K mainGlobals x = some (some (.ref f))) (l:K.lookup f = some ⟨oc,od,.func (PySem.W.fnOf x x (fA st) (cF st) (ao st) .none kV dc pm an cd ct),sl⟩) (c:PySem.W.codeIn K cd x = true) (k:PySem.W.keepIn K (.ref f) = true):Fh K x st:=⟨f,oc,od,kV,dc,pm,an,cd,ct,sl,a,l,c,k⟩
section
variable {P:Program} {w:World} {K:PySem.W.Frag} {mg:Str -> Option Value} {base:Heap} {CX:sv} {j k:Nat} {x:Str} {ps N:List Str} {sp:Sp} {st:Stmt} {body:M Fl}
theorem Kn.up (G:Kn P w K mg base CX j x ps sp) (h:j ≤ k):Kn P w K mg base CX k x ps sp:=let ⟨⟨f,fd,F,m⟩⟩:=G; ⟨⟨f,fd,F.mono h,m⟩⟩
theorem ent {h:Heap} (X:K.In h) (G:h.Ns mainGlobals mg) (e:Fh K x st) (hb:∀ (kV doc pm:Value) (an:Option Addr) (cdv ct:Value) (us:List Value),us.length = ps.length -> bindArgs (PySem.W.fnOf x x (fA st) (cF st) (ao st) .none kV doc pm an cdv ct) ⟨us,[]⟩ = pure (ps.zip us)):Ent K mg x ps st:= by
 obtain ⟨⟨f,oc,od,kV,dc,pm,an,cd,ct,sl,a,l,c,k⟩⟩:=e
 have F:=yQ (st:=st) l c k
 exact ⟨⟨f,_,F,PySem.W.mg_of X G a,F.binds hb⟩⟩
theorem oV (E:Ent K mg x ps st) (S:aH N ps (ao st)) (hb:∀ (f:Addr) (cdv:Value) (A:Around) (outer:List Env) (s:Shared) (H:Hp) (E:XK),c5 k (A.deeper (PyProof.Rows.envOfC x (ao st) s.heap.objs.size f cdv)) -> sx (jW du P w K mg base N x (ao st) f cdv A outer s H E).nox (cF st) body) :
  Kn P w K mg base du (k + 1) x ps (jw ps.length (bf N body)):=let ⟨⟨f,fd,F,m,b⟩⟩:=E; ⟨⟨f,fd,JU F S (hb f),m,F.kp,b⟩⟩
theorem GG (E:Ent K mg x ps st) (S:aH N ps (ao st)) (hb:∀ (f:Addr) (cdv:Value) (A:Around) (outer:List Env) (s:Shared) (H:Hp) (E:XK),c5 k (A.deeper (PyProof.Rows.envOfC x (ao st) s.heap.objs.size f cdv)) -> sx (jW du P w K mg base N x (ao st) f cdv A outer s H E).nox (cF st) body) :
  Kn P w K mg base du (k + 1) x ps (AU ps.length (eL N body)):=let ⟨⟨f,fd,F,m,b⟩⟩:=E; ⟨⟨f,fd,J6 F S (hb f),m,F.kp,b⟩⟩
theorem BJ (E:Ent K mg x ps st) (S:aH N ps (ao st)) (hb:∀ (f:Addr) (cdv:Value) (A:Around) (outer:List Env) (s:Shared) (H:Hp) (E:XK),c5 k (A.deeper (PyProof.Rows.envOfC x (ao st) s.heap.objs.size f cdv)) -> sx (jW du P w K mg base N x (ao st) f cdv A outer s H E).nox (cF st) body) :
  Kn P w K mg base du (k + 1) x ps (vP ps.length (bz N body)):=let ⟨⟨f,fd,F,m,b⟩⟩:=E; ⟨⟨f,fd,Ke F S (hb f),m,F.kp,b⟩⟩
theorem Cj {n:Nat} (E:Ent K mg x ps st):Kn P w K mg base du k x ps (jw n fun _ => none):=let ⟨⟨f,fd,F,m,b⟩⟩:=E; ⟨⟨f,fd,A5,m,F.kp,b⟩⟩
theorem Jz {h:Heap} {l:PySem.W.OpenLaw} {fa:Addr} {st:Stmt} (X:K.In h) (G:h.Ns mainGlobals mg) (hfa:mg "law" = some (.ref fa)) (e:Fh K "law" st) (hb:∀ (kV dc pm:Value) (an:Option Addr) (cd ct:Value) (s:Shared) (v:Value),BindsTo s (PySem.W.fnOf "law" "law" (fA st) (cF st) (ao st) .none kV dc pm an cd ct) ⟨[v],[]⟩ [("_law_script",v)])
  {N:List Str} {body:M Fl} (S:aH N ["_law_script"] (ao st))
  (hG:∀ (base:Heap) (f:Addr) (cdv:Value) (A:Around) (outer:List Env) (s:Shared) (H:Hp) (E:XK),c5 k (A.deeper (PyProof.Rows.envOfC "law" (ao st) s.heap.objs.size f cdv)) -> sx (jW du l.prog w K mg base N "law" (ao st) f cdv A outer s H E).nox (cF st) body)
  {Sq:Sp} (hS:∀ base f fd,d7 l.prog w K mg base du (k + 1) f fd ["_law_script"] (jw 1 (bf N body)) -> d7 l.prog w K mg base du (k + 1) f fd ["_law_script"] Sq) :
  ∃ fd:FuncData,(∀ (s:Shared) (v:Value),BindsTo s fd ⟨[v],[]⟩ [("_law_script",v)]) ∧ ∀ base:Heap,K.In base -> base.Ns mainGlobals mg -> d7 l.prog w K mg base du (k + 1) fa fd ["_law_script"] Sq:= by
 obtain ⟨⟨f,oc,od,kV,dc,pm,an,cd,ct,sl,a,l,c,kp⟩⟩:=e
 have e:=hfa.symm.trans (PySem.W.mg_of X G a)
 cases e
 exact ⟨_,hb kV dc pm an cd ct,fun base _ _ => hS base _ _ (JU (yQ (st:=st) l c kp) S (hG base fa))⟩
end
section
variable {X:Cx} {k:Nat} {x:Str} {ps:List Str} {a:Expr} {es:List Expr} {fs:M (List D)} {p pos:Pos}
theorem ba {mf:List D -> Option D} {n:Nat} (G:Kn X.prog X.w X.K X.mg X.base du k x ps (jw n mf)) (hr:c5 k X.A) (ha:DA X (a :: es) fs)
  (hg:Gl X x:=by rfl) (hdb:(x == ("__debug__":Str)) = false:=by decide) (he:starEach (a :: es) X.env = (false,eval a X.env) :: starEach es X.env:=by rfl) (hpl:(backTo pos (starEach es X.env)).any (·.1) = false:=by rfl) :
  DE X (.Call (.Name x p) (a :: es) [] pos) (mC (fun ds => if ds.length = n then mf ds else none) fs):=let ⟨⟨_,_,F,m,c,b⟩⟩:=G; AR F hr m c b ha hg hdb he hpl
theorem fZ {mf:List D -> Option (List D)} {n:Nat} (G:Kn X.prog X.w X.K X.mg X.base du k x ps (AU n mf)) (hr:c5 k X.A) (ha:DA X (a :: es) fs)
  (hg:Gl X x:=by rfl) (hdb:(x == ("__debug__":Str)) = false:=by decide) (he:starEach (a :: es) X.env = (false,eval a X.env) :: starEach es X.env:=by rfl) (hpl:(backTo pos (starEach es X.env)).any (·.1) = false:=by rfl) :
  DF X (.Call (.Name x p) (a :: es) [] pos) (mC (fun ds => if ds.length = n then mf ds else none) fs):=let ⟨⟨_,_,F,m,c,b⟩⟩:=G; Cc F hr m c b ha hg hdb he hpl
theorem ay (i:Nat) {mf:List D -> List D -> Option (D × List D)} {n:Nat} {y:Str} {py:Pos} (G:Kn X.prog X.w X.K X.mg X.base du k x ps (vP n mf)) (hr:c5 k X.A) (ha:DA X es fs)
  (hN:X.N[i]? = some y:=by rfl) (hv:vd X.env.scope y:=by first | exact Or.inl rfl | exact Or.inr (Or.inl rfl) | exact Or.inr (Or.inr rfl)) (hd:(y == ("__debug__":Str)) = false:=by decide) (hcd:(y == ("__classdict__":Str)) = false:=by decide)
  (hg:Gl X x:=by rfl) (hdb:(x == ("__debug__":Str)) = false:=by decide) (he:starEach (.Name y py :: es) X.env = (false,eval (.Name y py) X.env) :: starEach es X.env:=by rfl) (hpl:(backTo pos (starEach es X.env)).any (·.1) = false:=by rfl) :
  DE X (.Call (.Name x p) (.Name y py :: es) [] pos) (do let _ <- aI i; cf i n mf fs):=let ⟨⟨_,_,F,m,c,b⟩⟩:=G; vH i F hr m c b ha hN hv hd hcd hg hdb he hpl
theorem l5 {x:Str} {v:Int} {p:Pos} (h:∃ t,X.mg x = some (.int v t)) (hg:Gl X x:=by rfl) (hd:(x == ("__debug__":Str)) = false:=by decide):DE X (.Name x p) (pure (.int v)):=let ⟨_,m⟩:=h; zK m hg hd
end
end Jt
namespace K42
open PySem L2 Jt
def top (i:Nat):Stmt:=PySem.Challenge.pw_jointrees_k42_wreaths.main.body.getD i (.Pass ⟨0,0,0,0⟩)
structure Bi (mg:Str -> Option Value):Prop where
 all:mg "all" = none
 bool:mg "bool" = none
 divmod:mg "divmod" = none
 enumerate:mg "enumerate" = none
 int:mg "int" = none
 isinstance:mg "isinstance" = none
 len:mg "len" = none
 list:mg "list" = none
 max:mg "max" = none
 min:mg "min" = none
 range:mg "range" = none
 set:mg "set" = none
 sorted:mg "sorted" = none
 tuple:mg "tuple" = none
 zip:mg "zip" = none
 g_LEAST_LOOP:∃ t,mg "LEAST_LOOP" = some (.int 2 t)
 g_LEAST_WREATH:∃ t,mg "LEAST_WREATH" = some (.int 3 t)
section
variable {P:Program} {w:World} {K:PySem.W.Frag} {mg:Str -> Option Value} {base:Heap}
abbrev zj:Stmt:=top 5
abbrev vt:List Str:=["thing"]
theorem Fp:aH vt ["thing"] (ao zj):=⟨rfl,rfl,rfl,by decide +kernel,rfl,by decide +kernel,by decide +kernel⟩
def rM:M Fl :=
 (do let d <- (qs (jl .int (ag 0)) (yx (jl .bool (ag 0)))); pure (Fl.rt d))
variable (P w K mg base) in
abbrev jn (k:Nat):Prop:=Kn P w K mg base du k "is_whole" ["thing"] (jw 1 (bf vt rM))
theorem Ed {k:Nat} (E:Ent K mg "is_whole" ["thing"] zj) (m:Bi mg):jn P w K mg base (k + 1) :=
 oV E Fp fun _ cdv A outer s H E hr =>
  (aq (aQ (lZ (gJ .int m.isinstance m.int (ab 0)) (j9 (zY (gJ .bool m.isinstance m.bool (ab 0)))))))
abbrev yO:Stmt:=top 6
abbrev lU:List Str:=["thing","many"]
theorem Fc:aH lU ["thing","many"] (ao yO):=⟨rfl,rfl,rfl,by decide +kernel,rfl,by decide +kernel,by decide +kernel⟩
def kU:M Fl :=
 (do let d <- (qs (mC (aG 1 (bf vt rM)) (ae (ag 0) (pure []))) (AH Aw mY (pure (.int 0)) (ag 0) (ag 1))); pure (Fl.rt d))
variable (P w K mg base) in
abbrev fo (k:Nat):Prop:=Kn P w K mg base du k "is_below" ["thing","many"] (jw 2 (bf lU kU))
theorem Fy {k:Nat} (E:Ent K mg "is_below" ["thing","many"] yO) (G_q27:jn P w K mg base k):fo P w K mg base (k + 1) :=
 oV E Fc fun _ cdv A outer s H E hr =>
  (aq (aQ (lZ (ba G_q27 hr (aa (ab 0) af)) (j9 (CN ak (ab 0) (ab 1))))))
abbrev yB:Stmt:=top 7
abbrev nZ:List Str:=["thing","many"]
theorem FJ:aH nZ ["thing","many"] (ao yB):=⟨rfl,rfl,rfl,by decide +kernel,rfl,by decide +kernel,by decide +kernel⟩
def qM:M Fl :=
 (do let d <- (qs (jl .tup (ag 0)) (mC jm (ae (do let xs <- (aU 2 1 (do let x <- (ag 0); lift (aF x)) (aZ (aY 2) (pure true) (mC (aG 2 (bf lU kU)) (ae (ag 2) (ae (ag 1) (pure [])))))); pure (D.lst xs)) (pure [])))); pure (Fl.rt d))
variable (P w K mg base) in
abbrev iH (k:Nat):Prop:=Kn P w K mg base du k "are_below" ["thing","many"] (jw 2 (bf nZ qM))
theorem EN {k:Nat} (E:Ent K mg "are_below" ["thing","many"] yB) (m:Bi mg) (G_q26:fo P w K mg base k):iH P w K mg base (k + 1) :=
 oV E FJ fun _ cdv A outer s H E hr =>
  (aq (aQ (lZ (gJ .tup m.isinstance m.tuple (ab 0)) (j9 (ph m.all (aa (az (bw (N':=nZ) (own:=["part"]) (lo:=2) (bT (bK (ab 0))) (fun _ _ _ _ => (aw 2 (show (nZ ++ (["part"]:List Str):List Str).Nodup by decide +kernel))) (fun _ _ _ _ => c9) (fun _ _ _ _ => (ba G_q26 hr (aa (ab 2) (aa (ab 1) af)))))) af))))))
abbrev xx:Stmt:=top 8
abbrev uy:List Str:=["things"]
theorem EF:aH uy ["things"] (ao xx):=⟨rfl,rfl,rfl,by decide +kernel,rfl,by decide +kernel,by decide +kernel⟩
def qT:M Fl :=
 (do let d <- (m2 (dg false) (mQ hU (do let x <- (ag 0); lift (fK x))) (mC br (ae (ag 0) (pure [])))); pure (Fl.rt d))
variable (P w K mg base) in
abbrev gh (k:Nat):Prop:=Kn P w K mg base du k "are_unlike" ["things"] (jw 1 (bf uy qT))
theorem FT {k:Nat} (E:Ent K mg "are_unlike" ["things"] xx) (m:Bi mg):gh P w K mg base (k + 1) :=
 oV E EF fun _ cdv A outer s H E hr =>
  (aq (aQ (y9 (oM m.len m.set (qJ (ab 0))) (bG m.len (aa (ab 0) af)))))
abbrev yp:Stmt:=top 10
abbrev sm:List Str:=["layout","thing"]
theorem Gi:aH sm ["layout","thing"] (ao yp):=⟨rfl,rfl,rfl,by decide +kernel,rfl,by decide +kernel,by decide +kernel⟩
def oy:M Fl :=
 (fT (fQ (do let x <- (mC (aG 2 (bf lU kU)) (ae (ag 1) (ae (mC br (ae (m2 cQ (ag 0) (pure (.int 1))) (pure []))) (pure [])))); lift (cm x))) never (pure .nx))
variable (P w K mg base) in
abbrev ix (k:Nat):Prop:=Kn P w K mg base du k "need_head" ["layout","thing"] (jw 2 (bf sm oy))
theorem Fj {k:Nat} (E:Ent K mg "need_head" ["layout","thing"] yp) (m:Bi mg) (G_q26:fo P w K mg base k):ix P w K mg base (k + 1) :=
 oV E Gi fun _ cdv A outer s H E hr =>
  (aq (cp (d9 (cz (ba G_q26 hr (aa (ab 1) (aa (bG m.len (aa (aB (ab 0) ak) af)) af))))) (aq rj) bg))
abbrev xM:Stmt:=top 11
abbrev mD:List Str:=["layout","column","many","heads"]
theorem um:aH mD ["layout","column"] (ao xM):=⟨rfl,rfl,rfl,by decide +kernel,rfl,by decide +kernel,by decide +kernel⟩
def sg:M Fl :=
 (aJ (do let d <- (ag 0); (ft 2 (b4 (aY 2) (b4 (aY 3) eY))) d; pure Fl.nx)
  (aJ (fT (fQ (do let x <- (mC (aG 2 (bf lU kU)) (ae (ag 1) (ae (ag 2) (pure [])))); lift (cm x))) never (pure .nx))
  (do let d <- (mC cX (ae (do let xs <- (aU 4 2 (mC ka (ae (ag 3) (pure []))) (aZ (ft 2 (b4 (aY 4) (b4 (aY 5) eY))) (m2 (i7 false) (ag 1) (ag 5) >>= cx) (ag 4))); pure (D.lst xs)) (pure []))); pure (Fl.rt d))))
variable (P w K mg base) in
abbrev ji (k:Nat):Prop:=Kn P w K mg base du k "heads_of" ["layout","column"] (jw 2 (bf mD sg))
theorem Gf {k:Nat} (E:Ent K mg "heads_of" ["layout","column"] xM) (m:Bi mg) (G_q26:fo P w K mg base k):ji P w K mg base (k + 1) :=
 oV E um fun _ cdv A outer s H E hr =>
  (ah (kr (ab 0) (eJ (bp (aw 2 um.nd) (bp (aw 3 um.nd) dD))))
  (ah (cp (d9 (cz (ba G_q26 hr (aa (ab 1) (aa (ab 2) af))))) (aq rj) bg)
  (aq (aQ (dQ m.tuple (aa (az (bw (N':=mD) (own:=["number","head"]) (lo:=4) (bT (u5 m.enumerate (aa (ab 3) af))) (fun _ _ _ _ => (eJ (bp (aw 4 (show (mD ++ (["number","head"]:List Str):List Str).Nodup by decide +kernel)) (bp (aw 5 (show (mD ++ (["number","head"]:List Str):List Str).Nodup by decide +kernel)) dD)))) (fun _ _ _ _ => bF (iE (ab 1) (ab 5))) (fun _ _ _ _ => (ab 4)))) af))))))
abbrev zk:Stmt:=top 12
abbrev mi:List Str:=["layout","one","other","heads"]
theorem y8:aH mi ["layout","one","other"] (ao zk):=⟨rfl,rfl,rfl,by decide +kernel,rfl,by decide +kernel,by decide +kernel⟩
def oC:M Fl :=
 (aJ (do let _ <- (mC (aG 2 (bf sm oy)) (ae (ag 0) (ae (ag 1) (pure [])))); pure Fl.nx)
  (aJ (do let _ <- (mC (aG 2 (bf sm oy)) (ae (ag 0) (ae (ag 2) (pure [])))); pure Fl.nx)
  (aJ (dY 3 (m2 cQ (ag 0) (pure (.int 1))))
  (do let d <- (mC cX (ae (do let xs <- (aU 4 1 (do let x <- (m2 cQ (ag 3) (ag 1)); lift (aF x)) (aZ (aY 4) (m2 (i7 false) (ag 4) (m2 cQ (ag 3) (ag 2)) >>= cx) (ag 4))); pure (D.lst xs)) (pure []))); pure (Fl.rt d)))))
variable (P w K mg base) in
abbrev jE (k:Nat):Prop:=Kn P w K mg base du k "common" ["layout","one","other"] (jw 3 (bf mi oC))
theorem FI {k:Nat} (E:Ent K mg "common" ["layout","one","other"] zk) (m:Bi mg) (G_q21:ix P w K mg base k):jE P w K mg base (k + 1) :=
 oV E y8 fun _ cdv A outer s H E hr =>
  (ah (vo (ba G_q21 hr (aa (ab 0) (aa (ab 1) af))))
  (ah (vo (ba G_q21 hr (aa (ab 0) (aa (ab 2) af))))
  (ah (bu 3 y8.nd (aB (ab 0) ak))
  (aq (aQ (dQ m.tuple (aa (az (bw (N':=mi) (own:=["column"]) (lo:=4) (bT (bK (aB (ab 3) (ab 1)))) (fun _ _ _ _ => (aw 4 (show (mi ++ (["column"]:List Str):List Str).Nodup by decide +kernel))) (fun _ _ _ _ => bF (iE (ab 4) (aB (ab 3) (ab 2)))) (fun _ _ _ _ => (ab 4)))) af)))))))
abbrev xY:Stmt:=top 15
abbrev qu:List Str:=["heads"]
theorem Fo:aH qu ["heads"] (ao xY):=⟨rfl,rfl,rfl,by decide +kernel,rfl,by decide +kernel,by decide +kernel⟩
def oQ:M Fl :=
 (do let d <- (mC Cu (ae (ag 0) (ae (m2 cC (lY (ag 0) ((pure (.int 1)) >>= mV) (pure none)) (lY (ag 0) (pure none) ((pure (.int 1)) >>= mV))) (pure [])))); pure (Fl.rf d))
variable (P w K mg base) in
abbrev fC (k:Nat):Prop:=Kn P w K mg base du k "with_next" ["heads"] (AU 1 (eL qu oQ))
theorem Ek {k:Nat} (E:Ent K mg "with_next" ["heads"] xY) (m:Bi mg):fC P w K mg base (k + 1) :=
 GG E Fo fun _ cdv A outer s H E hr =>
  (aq (iX (tu m.list m.zip (aa (ab 0) (aa (cV (bJ (ab 0) (b5 ak) b_) (bJ (ab 0) b_ (b5 ak))) af)))))
abbrev EZ:Stmt:=top 16
abbrev zL:List Str:=["thing","many"]
theorem G5:aH zL ["thing","many"] (ao EZ):=⟨rfl,rfl,rfl,by decide +kernel,rfl,by decide +kernel,by decide +kernel⟩
def vR:M Fl :=
 (do let d <- (qs (mC (aG 2 (bf nZ qM)) (ae (ag 0) (ae (ag 1) (pure [])))) (mC (aG 1 (bf uy qT)) (ae (ag 0) (pure [])))); pure (Fl.rt d))
variable (P w K mg base) in
abbrev dH (k:Nat):Prop:=Kn P w K mg base du k "are_unlike_below" ["thing","many"] (jw 2 (bf zL vR))
theorem HJ {k:Nat} (E:Ent K mg "are_unlike_below" ["thing","many"] EZ) (G_q25:iH P w K mg base k) (G_q12:gh P w K mg base k):dH P w K mg base (k + 1) :=
 oV E G5 fun _ cdv A outer s H E hr =>
  (aq (aQ (lZ (ba G_q25 hr (aa (ab 0) (aa (ab 1) af))) (j9 (ba G_q12 hr (aa (ab 0) af))))))
abbrev Au:Stmt:=top 17
abbrev kQ:List Str:=["layout","thing","heads","columns"]
theorem tI:aH kQ ["layout","thing"] (ao Au):=⟨rfl,rfl,rfl,by decide +kernel,rfl,by decide +kernel,by decide +kernel⟩
def qw:M Fl :=
 (aJ (fT (oT (fQ (do let x <- (jl .tup (ag 1)); lift (cm x))) (m2 (dg true) (mC br (ae (ag 1) (pure []))) (pure (.int 2)) >>= cx)) (do let d <- (pure (.bl false)); pure (Fl.rt d)) (pure .nx))
  (aJ (do let d <- (ag 1); (ft 2 (b4 (aY 2) (b4 (aY 3) eY))) d; pure Fl.nx)
  (aJ (fT (oT (fQ (do let x <- (mC (aG 2 (bf zL vR)) (ae (ag 2) (ae (mC br (ae (m2 cQ (ag 0) (pure (.int 1))) (pure []))) (pure [])))); lift (cm x))) (fQ (do let x <- (mC (aG 2 (bf zL vR)) (ae (ag 3) (ae (m2 cQ (ag 0) (pure (.int 0))) (pure [])))); lift (cm x)))) (do let d <- (pure (.bl false)); pure (Fl.rt d)) (pure .nx))
  (aJ (fT (oT (m2 mY (mC br (ae (ag 2) (pure []))) (pure (.int 2)) >>= cx) (m2 (dg true) (mC br (ae (ag 3) (pure []))) (mC br (ae (ag 2) (pure []))) >>= cx)) (do let d <- (pure (.bl false)); pure (Fl.rt d)) (pure .nx))
  (do let d <- (mC jm (ae (do let xs <- (aU 4 3 (mC kz (ae (ag 3) (ae (do let xs <- (mC (aG 1 (eL qu oQ)) (ae (ag 2) (pure []))); pure (D.lst xs)) (pure [])))) (aZ (ft 2 (b4 (aY 4) (b4 (ft 2 (b4 (aY 5) (b4 (aY 6) eY))) eY))) (pure true) (m2 (i7 false) (ag 4) (mC (aG 3 (bf mi oC)) (ae (ag 0) (ae (ag 5) (ae (ag 6) (pure [])))))))); pure (D.lst xs)) (pure []))); pure (Fl.rt d))))))
variable (P w K mg base) in
abbrev kK (k:Nat):Prop:=Kn P w K mg base du k "is_loop" ["layout","thing"] (jw 2 (bf kQ qw))
theorem E7 {k:Nat} (E:Ent K mg "is_loop" ["layout","thing"] Au) (m:Bi mg) (G_q0:dH P w K mg base k) (G_q33:jE P w K mg base k) (G_q20:fC P w K mg base k):kK P w K mg base (k + 1) :=
 oV E tI fun _ cdv A outer s H E hr =>
  (ah (cp (gF (fV (d9 (cz (gJ .tup m.isinstance m.tuple (ab 1)))) (eI (ku (bG m.len (aa (ab 1) af)) ak)))) (aq (aQ dj)) bg)
  (ah (kr (ab 1) (eJ (bp (aw 2 tI.nd) (bp (aw 3 tI.nd) dD))))
  (ah (cp (gF (fV (d9 (cz (ba G_q0 hr (aa (ab 2) (aa (bG m.len (aa (aB (ab 0) ak) af)) af))))) (eI (d9 (cz (ba G_q0 hr (aa (ab 3) (aa (aB (ab 0) ak) af)))))))) (aq (aQ dj)) bg)
  (ah (cp (gF (fV (uz (bG m.len (aa (ab 2) af)) (l5 m.g_LEAST_LOOP)) (eI (ku (bG m.len (aa (ab 3) af)) (bG m.len (aa (ab 2) af)))))) (aq (aQ dj)) bg)
  (aq (aQ (ph m.all (aa (az (bw (N':=kQ) (own:=["column","one","other"]) (lo:=4) (bT (yu m.zip (aa (ab 3) (aa (az (fZ G_q20 hr (aa (ab 2) af))) af)))) (fun _ _ _ _ => (eJ (bp (aw 4 (show (kQ ++ (["column","one","other"]:List Str):List Str).Nodup by decide +kernel)) (bp (eJ (bp (aw 5 (show (kQ ++ (["column","one","other"]:List Str):List Str).Nodup by decide +kernel)) (bp (aw 6 (show (kQ ++ (["column","one","other"]:List Str):List Str).Nodup by decide +kernel)) dD))) dD)))) (fun _ _ _ _ => c9) (fun _ _ _ _ => (HC (ab 4) (ba G_q33 hr (aa (ab 0) (aa (ab 5) (aa (ab 6) af)))))))) af))))))))
abbrev D9:Stmt:=top 20
abbrev uf:List Str:=["layout","heads","column"]
theorem Iu:aH uf ["layout","heads","column"] (ao D9):=⟨rfl,rfl,rfl,by decide +kernel,rfl,by decide +kernel,by decide +kernel⟩
def wm:M Fl :=
 (do let d <- (m2 (dg false) (mC br (ae (do let xs <- (aU 3 1 (do let x <- (mC (aG 2 (bf mD sg)) (ae (ag 0) (ae (ag 2) (pure [])))); lift (aF x)) (aZ (aY 3) (m2 (i7 false) (ag 3) (ag 1) >>= cx) (ag 3))); pure (D.lst xs)) (pure []))) (pure (.int 2))); pure (Fl.rt d))
variable (P w K mg base) in
abbrev dE (k:Nat):Prop:=Kn P w K mg base du k "only_two_have" ["layout","heads","column"] (jw 3 (bf uf wm))
theorem G_ {k:Nat} (E:Ent K mg "only_two_have" ["layout","heads","column"] D9) (m:Bi mg) (G_q29:ji P w K mg base k):dE P w K mg base (k + 1) :=
 oV E Iu fun _ cdv A outer s H E hr =>
  (aq (aQ (y9 (bG m.len (aa (az (bw (N':=uf) (own:=["head"]) (lo:=3) (bT (bK (ba G_q29 hr (aa (ab 0) (aa (ab 2) af))))) (fun _ _ _ _ => (aw 3 (show (uf ++ (["head"]:List Str):List Str).Nodup by decide +kernel))) (fun _ _ _ _ => bF (iE (ab 3) (ab 1))) (fun _ _ _ _ => (ab 3)))) af)) ak)))
abbrev yv:Stmt:=top 21
abbrev l8:List Str:=["layout","thing","heads","columns"]
theorem tK:aH l8 ["layout","thing"] (ao yv):=⟨rfl,rfl,rfl,by decide +kernel,rfl,by decide +kernel,by decide +kernel⟩
def pg:M Fl :=
 (aJ (fT (oT (fQ (do let x <- (mC (aG 2 (bf kQ qw)) (ae (ag 0) (ae (ag 1) (pure [])))); lift (cm x))) (m2 mY (mC br (ae (m2 cQ (ag 1) (pure (.int 0))) (pure []))) (pure (.int 3)) >>= cx)) (do let d <- (pure (.bl false)); pure (Fl.rt d)) (pure .nx))
  (aJ (do let d <- (ag 1); (ft 2 (b4 (aY 2) (b4 (aY 3) eY))) d; pure Fl.nx)
  (do let d <- (mC jm (ae (do let xs <- (aU 4 1 (do let x <- (ag 3); lift (aF x)) (aZ (aY 4) (pure true) (mC (aG 3 (bf uf wm)) (ae (ag 0) (ae (ag 2) (ae (ag 4) (pure []))))))); pure (D.lst xs)) (pure []))); pure (Fl.rt d))))
variable (P w K mg base) in
abbrev g8 (k:Nat):Prop:=Kn P w K mg base du k "is_wreath" ["layout","thing"] (jw 2 (bf l8 pg))
theorem E2 {k:Nat} (E:Ent K mg "is_wreath" ["layout","thing"] yv) (m:Bi mg) (G_q32:kK P w K mg base k) (G_q4:dE P w K mg base k):g8 P w K mg base (k + 1) :=
 oV E tK fun _ cdv A outer s H E hr =>
  (ah (cp (gF (fV (d9 (cz (ba G_q32 hr (aa (ab 0) (aa (ab 1) af))))) (eI (uz (bG m.len (aa (aB (ab 1) ak) af)) (l5 m.g_LEAST_WREATH))))) (aq (aQ dj)) bg)
  (ah (kr (ab 1) (eJ (bp (aw 2 tK.nd) (bp (aw 3 tK.nd) dD))))
  (aq (aQ (ph m.all (aa (az (bw (N':=l8) (own:=["column"]) (lo:=4) (bT (bK (ab 3))) (fun _ _ _ _ => (aw 4 (show (l8 ++ (["column"]:List Str):List Str).Nodup by decide +kernel))) (fun _ _ _ _ => c9) (fun _ _ _ _ => (ba G_q4 hr (aa (ab 0) (aa (ab 2) (aa (ab 4) af))))))) af))))))
abbrev DZ:Stmt:=top 22
abbrev pK:List Str:=["layout","heads"]
theorem HL:aH pK ["layout","heads"] (ao DZ):=⟨rfl,rfl,rfl,by decide +kernel,rfl,by decide +kernel,by decide +kernel⟩
def Ak:M Fl :=
 (do let d <- (aU 2 2 (do let x <- (do let xs <- (mC (aG 1 (eL qu oQ)) (ae (ag 1) (pure []))); pure (D.lst xs)); lift (aF x)) (aZ (ft 2 (b4 (aY 2) (b4 (aY 3) eY))) (pure true) (do let xs <- (aU 4 1 (do let x <- (mC (aG 3 (bf mi oC)) (ae (ag 0) (ae (ag 2) (ae (ag 3) (pure []))))); lift (aF x)) (aZ (aY 4) (do let x <- (mC (aG 3 (bf uf wm)) (ae (ag 0) (ae (ag 1) (ae (ag 4) (pure []))))); lift (cm x)) (ag 4))); pure (D.lst xs)))); pure (Fl.rf d))
variable (P w K mg base) in
abbrev dR (k:Nat):Prop:=Kn P w K mg base du k "columns_between" ["layout","heads"] (AU 2 (eL pK Ak))
theorem Gz {k:Nat} (E:Ent K mg "columns_between" ["layout","heads"] DZ) (G_q33:jE P w K mg base k) (G_q4:dE P w K mg base k) (G_q20:fC P w K mg base k):dR P w K mg base (k + 1) :=
 GG E HL fun _ cdv A outer s H E hr =>
  (aq (iX (bw (N':=pK) (own:=["one","other"]) (lo:=2) (bT (bK (az (fZ G_q20 hr (aa (ab 1) af))))) (fun _ _ _ _ => (eJ (bp (aw 2 (show (pK ++ (["one","other"]:List Str):List Str).Nodup by decide +kernel)) (bp (aw 3 (show (pK ++ (["one","other"]:List Str):List Str).Nodup by decide +kernel)) dD)))) (fun _ _ _ _ => c9) (fun _ _ _ _ => (az (bw (N':=(pK ++ (["one","other"]:List Str))) (own:=["column"]) (lo:=4) (bT (bK (ba G_q33 hr (aa (ab 0) (aa (ab 2) (aa (ab 3) af)))))) (fun _ _ _ _ => (aw 4 (show ((pK ++ (["one","other"]:List Str)) ++ (["column"]:List Str):List Str).Nodup by decide +kernel))) (fun _ _ _ _ => bF (cz (ba G_q4 hr (aa (ab 0) (aa (ab 1) (aa (ab 4) af)))))) (fun _ _ _ _ => (ab 4))))))))
abbrev EY:Stmt:=top 23
abbrev yL:List Str:=["layout","heads","between","head","found"]
theorem vc:aH yL ["layout","heads"] (ao EY):=⟨rfl,rfl,rfl,by decide +kernel,rfl,by decide +kernel,by decide +kernel⟩
def Bq (rec:List D -> Option D):M Fl :=
 (aJ (dY 2 (do let xs <- (mC (aG 2 (eL pK Ak)) (ae (ag 0) (ae (ag 1) (pure [])))); pure (D.lst xs)))
  (aJ (fT ((m2 (yD false) (do let xs <- (cK (pure [])); pure (D.lst xs)) (lY (ag 2) (pure none) ((m1 h9 (pure (.int 1))) >>= mV))) >>= cx) (do let d <- (pure .non); pure (Fl.rt d)) (pure .nx))
  (aJ (fT (my (m2 IW (mC br (ae (ag 1) (pure []))) (pure (.int 3)) >>= cx) (do let x <- (m2 cQ (ag 2) (m1 h9 (pure (.int 1)))); lift (cm x))) (do let d <- (cj (ae (ag 1) (ae (mC cX (ae (do let xs <- (aU 5 1 (do let x <- (ag 2); lift (aF x)) (aZ (aY 5) (pure true) (m2 cQ (ag 5) (pure (.int 0))))); pure (D.lst xs)) (pure []))) (pure [])))); pure (Fl.rt d)) (pure .nx))
  (aJ (
  do let it <- (mC xN (ae (m2 dk (m2 cQ (ag 1) (pure (.int 0))) (pure (.int 1))) (ae (mC br (ae (m2 cQ (ag 0) (pure (.int 1))) (pure []))) (pure [])))); forM (aY 3) (fT (m2 (i7 true) (ag 3) (ag 1) >>= cx) (aJ (dY 4 (mC (aG 2 rec) (ae (ag 0) (ae (m2 cC (ag 1) (cj (ae (ag 3) (pure [])))) (pure [])))))
  (fT (m2 (jX true) (ag 4) (pure .non) >>= cx) (do let d <- (ag 4); pure (Fl.rt d)) (pure .nx))) (pure .nx)) it.2 it.1)
  (do let d <- (pure .non); pure (Fl.rt d))))))
def nJ:Nat -> List D -> Option D
 | 0 => fun _ => none
 | n + 1 => bf yL (Bq (nJ n))
variable (P w K mg base) in
abbrev jf (k:Nat):Prop:=Kn P w K mg base du k "wreath_from" ["layout","heads"] (jw 2 (nJ 8))
theorem Dc {k:Nat} (E:Ent K mg "wreath_from" ["layout","heads"] EY) (m:Bi mg) (G_q2:dR P w K mg base k):∀ n:Nat,Kn P w K mg base du (k + n) "wreath_from" ["layout","heads"] (jw 2 (nJ n))
 | 0 => Cj E
 | n + 1 => by
  have G_q7:=Dc (k:=k) E m G_q2 n
  have G_q2:=G_q2.up (Nat.le_add_right k n)
  exact oV E vc fun _ cdv A outer s H E hr =>
  (ah (bu 2 vc.nd (az (fZ G_q2 hr (aa (ab 0) (aa (ab 1) af)))))
  (ah (cp (Ey hr (az (bh af)) (bJ (ab 2) b_ (b5 (kv ak)))) (aq (aQ gH)) bg)
  (ah (cp (gF (iA (HU (bG m.len (aa (ab 1) af)) (l5 m.g_LEAST_WREATH)) (gN (cz (aB (ab 2) (kv ak)))))) (aq (aQ (aW (aa (ab 1) (aa (dQ m.tuple (aa (az (bw (N':=yL) (own:=["columns"]) (lo:=5) (bT (bK (ab 2))) (fun _ _ _ _ => (aw 5 (show (yL ++ (["columns"]:List Str):List Str).Nodup by decide +kernel))) (fun _ _ _ _ => c9) (fun _ _ _ _ => (aB (ab 5) ak)))) af)) af))))) bg)
  (ah (dN (vO rfl m.range (aa (cY (aB (ab 1) ak) ak) (aa (bG m.len (aa (aB (ab 0) ak) af)) af))) (aw 3 vc.nd) (aq (cp (f9 (ab 3) (ab 1)) (ah (bu 4 vc.nd (ba G_q7 hr (aa (ab 0) (aa (cV (ab 1) (aW (aa (ab 3) af))) af))))
  (aq (cp (pw (ab 4) gH) (aq (aQ (ab 4))) bg))) bg)))
  (aq (aQ gH))))))
abbrev Ab:Stmt:=top 24
abbrev oX:List Str:=["layout","head","found"]
theorem tL:aH oX ["layout"] (ao Ab):=⟨rfl,rfl,rfl,by decide +kernel,rfl,by decide +kernel,by decide +kernel⟩
def mZ:M Fl :=
 (aJ (
  do let it <- (mC cZ (ae (mC br (ae (m2 cQ (ag 0) (pure (.int 1))) (pure []))) (pure []))); forM (aY 1) (aJ (dY 2 (mC (aG 2 (nJ 8)) (ae (ag 0) (ae (cj (ae (ag 1) (pure []))) (pure [])))))
  (fT (m2 (jX true) (ag 2) (pure .non) >>= cx) (do let d <- (ag 2); pure (Fl.rt d)) (pure .nx))) it.2 it.1)
  (do let d <- (pure .non); pure (Fl.rt d)))
variable (P w K mg base) in
abbrev gZ (k:Nat):Prop:=Kn P w K mg base du k "wreath_of" ["layout"] (jw 1 (bf oX mZ))
theorem FX {k:Nat} (E:Ent K mg "wreath_of" ["layout"] Ab) (m:Bi mg) (G_q7:jf P w K mg base k):gZ P w K mg base (k + 1) :=
 oV E tL fun _ cdv A outer s H E hr =>
  (ah (dN (bH rfl m.range (aa (bG m.len (aa (aB (ab 0) ak) af)) af)) (aw 1 tL.nd) (ah (bu 2 tL.nd (ba G_q7 hr (aa (ab 0) (aa (aW (aa (ab 1) af)) af))))
  (aq (cp (pw (ab 2) gH) (aq (aQ (ab 2))) bg))))
  (aq (aQ gH)))
abbrev zr:Stmt:=top 26
abbrev vz:List Str:=["_law_script","_law_k"]
theorem FW:aH vz ["_law_script","_law_k"] (ao zr):=⟨rfl,rfl,rfl,by decide +kernel,rfl,by decide +kernel,by decide +kernel⟩
def mx:M Fl :=
 (aJ (fT (m2 mY (ag 1) (mC br (ae (ag 0) (pure []))) >>= cx) (do let d <- (m2 cQ (ag 0) (ag 1)); pure (Fl.rt d)) (pure .nx))
  (do let d <- (m2 dk (m2 nI (pure (.int 6151)) (ag 1)) (pure (.int 29))); pure (Fl.rt d)))
variable (P w K mg base) in
abbrev ig (k:Nat):Prop:=Kn P w K mg base du k "_law_cell" ["_law_script","_law_k"] (jw 2 (bf vz mx))
theorem En {k:Nat} (E:Ent K mg "_law_cell" ["_law_script","_law_k"] zr) (m:Bi mg):ig P w K mg base (k + 1) :=
 oV E FW fun _ cdv A outer s H E hr =>
  (ah (cp (uz (ab 1) (bG m.len (aa (ab 0) af))) (aq (aQ (aB (ab 0) (ab 1)))) bg)
  (aq (aQ (cY (pj ak (ab 1)) ak))))
abbrev yP:Stmt:=top 27
abbrev qm:List Str:=["_law_cell_here","_law_k","_law_number"]
theorem s_:aH qm ["_law_cell_here","_law_k"] (ao yP):=⟨rfl,rfl,rfl,by decide +kernel,rfl,by decide +kernel,by decide +kernel⟩
def nY:M Fl :=
 (aJ (dY 2 (m2 dk (m2 nI (m2 dk (ag 0) (pure (.int 1))) (pure (.int 40692))) (m2 nI (pure (.int 104729)) (ag 1))))
  (aJ (dY 2 (m2 dk (m2 nD (m2 o9 (ag 2) (ag 2)) (pure (.int 2147483399))) (ag 1)))
  (do let d <- (m2 nD (m2 o9 (ag 2) (m2 dk (ag 2) (pure (.int 31)))) (pure (.int 2147483563))); pure (Fl.rt d))))
variable (P w K mg base) in
abbrev jr (k:Nat):Prop:=Kn P w K mg base du k "_law_mix" ["_law_cell_here","_law_k"] (jw 2 (bf qm nY))
theorem D2 {k:Nat} (E:Ent K mg "_law_mix" ["_law_cell_here","_law_k"] yP):jr P w K mg base (k + 1) :=
 oV E s_ fun _ cdv A outer s H E hr =>
  (ah (bu 2 s_.nd (cY (pj (cY (ab 0) ak) ak) (pj ak (ab 1))))
  (ah (bu 2 s_.nd (cY (mm (uQ (ab 2) (ab 2)) ak) (ab 1)))
  (aq (aQ (mm (uQ (ab 2) (cY (ab 2) ak)) ak)))))
abbrev yw:Stmt:=top 28
abbrev qA:List Str:=["_law_script","_law_k","_law_here","_law_number","_law_j"]
theorem mR:aH qA ["_law_script","_law_k"] (ao yw):=⟨rfl,rfl,rfl,by decide +kernel,rfl,by decide +kernel,by decide +kernel⟩
def o5:M Fl :=
 (aJ (dY 2 (mC (aG 2 (bf vz mx)) (ae (ag 0) (ae (ag 1) (pure [])))))
  (aJ (fT (m2 (dg false) (m2 nD (ag 2) (pure (.int 2))) (pure (.int 0)) >>= cx) (do let d <- (cK (ae (m2 Ea (ag 2) (pure (.int 2))) (pure []))); pure (Fl.rf d)) (pure .nx))
  (aJ (dY 3 (pure (.int 0)))
  (aJ (
  do let it <- (mC cZ (ae (pure (.int 24)) (pure []))); forM (aY 4) (dY 3 (m2 dk (m2 nI (ag 3) (pure (.int 2147483647))) (mC (aG 2 (bf qm nY)) (ae (ag 2) (ae (ag 4) (pure [])))))) it.2 it.1)
  (do let d <- (cK (ae (ag 3) (pure []))); pure (Fl.rf d))))))
variable (P w K mg base) in
abbrev jo (k:Nat):Prop:=Kn P w K mg base du k "_law_box" ["_law_script","_law_k"] (AU 2 (eL qA o5))
theorem Ef {k:Nat} (E:Ent K mg "_law_box" ["_law_script","_law_k"] yw) (m:Bi mg) (G_q24:ig P w K mg base k) (G_q30:jr P w K mg base k):jo P w K mg base (k + 1) :=
 GG E mR fun _ cdv A outer s H E hr =>
  (ah (bu 2 mR.nd (ba G_q24 hr (aa (ab 0) (aa (ab 1) af))))
  (ah (cp (iC (mm (ab 2) ak) ak) (aq (iX (bh (aa (Ft (ab 2) ak) af)))) bg)
  (ah (bu 3 mR.nd ak)
  (ah (dN (bH rfl m.range (aa ak af)) (aw 4 mR.nd) (aq (bu 3 mR.nd (cY (pj (ab 3) ak) (ba G_q30 hr (aa (ab 2) (aa (ab 4) af)))))))
  (aq (iX (bh (aa (ab 3) af))))))))
abbrev zZ:Stmt:=top 29
abbrev cv:List Str:=["_law_box_here","_law_many","_law_left","_law_digit"]
theorem tX:aH cv ["_law_box_here","_law_many"] (ao zZ):=⟨rfl,rfl,rfl,by decide +kernel,rfl,by decide +kernel,by decide +kernel⟩
def cq:M Fl :=
 (aJ (do let d <- (mC jH (ae (pW 0 (pure (.int 0))) (ae (ag 1) (pure [])))); (ft 2 (b4 (aY 2) (b4 (aY 3) eY))) d; pure Fl.nx)
  (aJ (p9 0 (ag 2) 0)
  (do let d <- (ag 3); pure (Fl.rt d))))
variable (P w K mg base) in
abbrev cu (k:Nat):Prop:=Kn P w K mg base du k "_law_take" ["_law_box_here","_law_many"] (vP 2 (bz cv cq))
theorem EG {k:Nat} (E:Ent K mg "_law_take" ["_law_box_here","_law_many"] zZ) (m:Bi mg):cu P w K mg base (k + 1) :=
 BJ E tX fun _ cdv A outer s H E hr =>
  (ah (kr (vS m.divmod (aa (kb 0 ak) (aa (ab 1) af))) (eJ (bp (aw 2 tX.nd) (bp (aw 3 tX.nd) dD))))
  (ah (yc 0 (ab 2))
  (aq (aQ (ab 3)))))
abbrev wX:Stmt:=top 30
abbrev ik:List Str:=["_law_box_here","_law_many","_law_some"]
theorem sI:aH ik ["_law_box_here","_law_many"] (ao wX):=⟨rfl,rfl,rfl,by decide +kernel,rfl,by decide +kernel,by decide +kernel⟩
def je:M Fl :=
 (aJ (dY 2 (do let xs <- (aU 3 1 (mC cZ (ae (ag 1) (pure []))) (aZ (aY 3) (m2 (dg false) (do let _ <- aI 0; cf 0 2 (bz cv cq) (ae (pure (.int 3)) (pure []))) (pure (.int 0)) >>= cx) (ag 3))); pure (D.lst xs)))
  (aJ (fT ((m2 (i_ false) (ag 2) (do let xs <- (cK (pure [])); pure (D.lst xs))) >>= cx) (dY 2 (do let xs <- (cK (ae (do let _ <- aI 0; cf 0 2 (bz cv cq) (ae (ag 1) (pure []))) (pure []))); pure (D.lst xs))) (pure .nx))
  (do let d <- (mC cX (ae (ag 2) (pure []))); pure (Fl.rt d))))
variable (P w K mg base) in
abbrev fE (k:Nat):Prop:=Kn P w K mg base du k "_law_head" ["_law_box_here","_law_many"] (vP 2 (bz ik je))
theorem Gg {k:Nat} (E:Ent K mg "_law_head" ["_law_box_here","_law_many"] wX) (m:Bi mg) (G_q16:cu P w K mg base k):fE P w K mg base (k + 1) :=
 BJ E sI fun _ cdv A outer s H E hr =>
  (ah (dC 2 sI.nd (N':=ik) (own:=["_law_column"]) (lo:=3) (bT (bH rfl m.range (aa (ab 1) af))) (fun _ _ _ _ => (aw 3 (show (ik ++ (["_law_column"]:List Str):List Str).Nodup by decide +kernel))) (fun _ _ _ _ => bF (iC (ay 0 G_q16 hr (aa ak af)) ak)) (fun _ _ _ _ => (ab 3)))
  (ah (cp (x8 hr (ab 2) (az (bh af))) (aq (bu 2 sI.nd (az (bh (aa (ay 0 G_q16 hr (aa (ab 1) af)) af))))) bg)
  (aq (aQ (dQ m.tuple (aa (ab 2) af))))))
abbrev xh:Stmt:=top 31
abbrev jb:List Str:=["_law_box_here","_law_many","_law_heads","_law_found","_law_turn","_law_way","_law_base","_law_kept","_law_met","_law_fresh","_law_head_here"]
theorem fJ:aH jb ["_law_box_here","_law_many","_law_heads"] (ao xh):=⟨rfl,rfl,rfl,by decide +kernel,rfl,by decide +kernel,by decide +kernel⟩
def qQ:M Fl :=
 (aJ (t_ 3 (cK (ae (do let _ <- aI 0; cf 0 2 (bz ik je) (ae (ag 1) (pure []))) (pure []))))
  (aJ (
  do let it <- (mC cZ (ae (m2 kL (ag 2) (pure (.int 1))) (pure []))); forM (aY 4) (aJ (dY 5 (do let _ <- aI 0; cf 0 2 (bz cv cq) (ae (pure (.int 4)) (pure []))))
  (aJ (dY 6 (pW 3 (m2 cQ (do let xs <- (cK (ae (m2 kL (jQ 3) (pure (.int 1))) (ae (do let _ <- aI 0; cf 0 2 (bz cv cq) (ae (jQ 3) (pure []))) (pure [])))); pure (D.lst xs)) (mC o8 (ae (m2 vA (ag 5) (pure (.int 1))) (pure []))))))
  (aJ (dY 7 (do let xs <- (aU 11 1 (do let x <- (ag 6); lift (aF x)) (aZ (aY 11) (m2 vA (do let _ <- aI 0; cf 0 2 (bz cv cq) (ae (pure (.int 3)) (pure []))) (pure (.int 0)) >>= cx) (ag 11))); pure (D.lst xs)))
  (aJ (dY 8 (do let xs <- (aU 11 1 (mC cZ (ae (ag 1) (pure []))) (aZ (aY 11) ((m2 (i_ true) (do let xs <- (aU 12 1 (do let xs <- aI 3; pure (c_ 3 xs.length)) (aZ (aY 12) (m2 (i7 false) (ag 11) (ag 12) >>= cx) (ag 12))); pure (D.lst xs)) (do let xs <- (cK (pure [])); pure (D.lst xs))) >>= cx) (ag 11))); pure (D.lst xs)))
  (aJ (dY 9 (do let xs <- (aU 11 1 (mC cZ (ae (ag 1) (pure []))) (aZ (aY 11) (my (m2 (i7 true) (ag 11) (ag 8) >>= cx) (m2 (dg false) (do let _ <- aI 0; cf 0 2 (bz cv cq) (ae (pure (.int 2)) (pure []))) (pure (.int 0)) >>= cx)) (ag 11))); pure (D.lst xs)))
  (aJ (dY 10 (do let xs <- (mQ sortI (do let x <- (do let xs <- (ma kh (do let x <- (ag 7); pure (Hn.th x)) (do let x <- (ag 9); pure (Hn.th x))); pure (D.lst xs)); lift (fK x))); pure (D.lst xs)))
  (aJ (fT ((m2 (i_ false) (ag 10) (do let xs <- (cK (pure [])); pure (D.lst xs))) >>= cx) (dY 10 (do let xs <- (cK (ae (m2 cQ (ag 6) (do let _ <- aI 0; cf 0 2 (bz cv cq) (ae (mC br (ae (ag 6) (pure []))) (pure [])))) (pure []))); pure (D.lst xs))) (pure .nx))
  (c8 3 (ae (mC cX (ae (ag 10) (pure []))) (pure [])))))))))) it.2 it.1)
  (do let d <- (do let xs <- (nX 3); pure (D.lst xs)); pure (Fl.rt d))))
variable (P w K mg base) in
abbrev gz (k:Nat):Prop:=Kn P w K mg base du k "_law_grown" ["_law_box_here","_law_many","_law_heads"] (vP 3 (bz jb qQ))
theorem EO {k:Nat} (E:Ent K mg "_law_grown" ["_law_box_here","_law_many","_law_heads"] xh) (m:Bi mg) (G_q22:fE P w K mg base k) (G_q16:cu P w K mg base k):gz P w K mg base (k + 1) :=
 BJ E fJ fun _ cdv A outer s H E hr =>
  (ah (eO 3 fJ.nd (bh (aa (ay 0 G_q22 hr (aa (ab 1) af)) af)))
  (ah (dN (bH rfl m.range (aa (mE (ab 2) ak) af)) (aw 4 fJ.nd) (ah (bu 5 fJ.nd (ay 0 G_q16 hr (aa ak af)))
  (ah (bu 6 fJ.nd (kb 3 (aB (az (bh (aa (mE (i3 3 m.len) ak) (aa (ay 0 G_q16 hr (aa (i3 3 m.len) af)) af)))) (Cq m.int (aa (HK (ab 5) ak) af)))))
  (ah (dC 7 fJ.nd (N':=jb) (own:=["_law_column"]) (lo:=11) (bT (bK (ab 6))) (fun _ _ _ _ => (aw 11 (show (jb ++ (["_law_column"]:List Str):List Str).Nodup by decide +kernel))) (fun _ _ _ _ => bF (zG (ay 0 G_q16 hr (aa ak af)) ak)) (fun _ _ _ _ => (ab 11)))
  (ah (bu 8 fJ.nd (az (bw (N':=jb) (own:=["_law_column"]) (lo:=11) (bT (bH rfl m.range (aa (ab 1) af))) (fun _ _ _ _ => (aw 11 (show (jb ++ (["_law_column"]:List Str):List Str).Nodup by decide +kernel))) (fun _ _ _ _ => bF (gY hr (az (bw (N':=(["_law_box_here","_law_many","_law_heads","_law_found","_law_turn","_law_way","_law_base","_law_kept","_law_met","_law_fresh","?10","_law_column"]:List Str)) (own:=["_law_head_here"]) (lo:=12) (Fq 3) (fun _ _ _ _ => (aw 12 (show ((["_law_box_here","_law_many","_law_heads","_law_found","_law_turn","_law_way","_law_base","_law_kept","_law_met","_law_fresh","?10","_law_column"]:List Str) ++ (["_law_head_here"]:List Str):List Str).Nodup by decide +kernel))) (fun _ _ _ _ => bF (iE (ab 11) (ab 12))) (fun _ _ _ _ => (ab 12)))) (az (bh af)))) (fun _ _ _ _ => (ab 11)))))
  (ah (dC 9 fJ.nd (N':=jb) (own:=["_law_column"]) (lo:=11) (bT (bH rfl m.range (aa (ab 1) af))) (fun _ _ _ _ => (aw 11 (show (jb ++ (["_law_column"]:List Str):List Str).Nodup by decide +kernel))) (fun _ _ _ _ => bF (gF (iA (f9 (ab 11) (ab 8)) (gN (iC (ay 0 G_q16 hr (aa ak af)) ak))))) (fun _ _ _ _ => (ab 11)))
  (ah (bu 10 fJ.nd (az (kE m.sorted (qJ (az (m_ (fI (ab 7)) (fI (ab 9))))))))
  (ah (cp (x8 hr (ab 10) (az (bh af))) (aq (bu 10 fJ.nd (az (bh (aa (aB (ab 6) (ay 0 G_q16 hr (aa (bG m.len (aa (ab 6) af)) af))) af))))) bg)
  (aq (c6 3 (aa (dQ m.tuple (aa (ab 10) af)) af)))))))))))
  (aq (aQ (az (Gd 3))))))
abbrev D_:Stmt:=top 32
abbrev nz:List Str:=["_law_box_here","_law_many","_law_size"]
theorem Af:aH nz ["_law_box_here","_law_many"] (ao D_):=⟨rfl,rfl,rfl,by decide +kernel,rfl,by decide +kernel,by decide +kernel⟩
def w9:M Fl :=
 (aJ (fT (oT (m2 (dg false) (ag 1) (pure (.int 3)) >>= cx) (m2 (dg false) (do let _ <- aI 0; cf 0 2 (bz cv cq) (ae (pure (.int 2)) (pure []))) (pure (.int 0)) >>= cx)) (aJ (dY 2 (m2 dk (pure (.int 3)) (do let _ <- aI 0; cf 0 2 (bz cv cq) (ae (m2 kL (mC nj (ae (pure (.int 6)) (ae (ag 1) (pure [])))) (pure (.int 2))) (pure [])))))
  (do let d <- (do let xs <- (aU 3 1 (mC cZ (ae (ag 2) (pure []))) (aZ (aY 3) (pure true) (mC cX (ae (do let xs <- (aU 4 1 (mC cZ (ae (ag 2) (pure []))) (aZ (aY 4) ((m2 (i_ true) (ag 4) (ag 3)) >>= cx) (ag 4))); pure (D.lst xs)) (pure []))))); pure (D.lst xs)); pure (Fl.rt d))) (pure .nx))
  (aJ (dY 2 (m2 dk (pure (.int 4)) (do let _ <- aI 0; cf 0 2 (bz cv cq) (ae (m2 kL (mC nj (ae (pure (.int 6)) (ae (ag 1) (pure [])))) (pure (.int 3))) (pure [])))))
  (do let d <- (do let xs <- (aU 3 1 (mC cZ (ae (ag 2) (pure []))) (aZ (aY 3) (pure true) (mC cX (ae (do let xs <- (mQ sortI (do let x <- (do let xs <- (cK (ae (ag 3) (ae (m2 nD (m2 dk (ag 3) (pure (.int 1))) (ag 2)) (pure [])))); pure (D.lst xs)); lift (fK x))); pure (D.lst xs)) (pure []))))); pure (D.lst xs)); pure (Fl.rt d))))
variable (P w K mg base) in
abbrev fL (k:Nat):Prop:=Kn P w K mg base du k "_law_barred" ["_law_box_here","_law_many"] (vP 2 (bz nz w9))
theorem HA {k:Nat} (E:Ent K mg "_law_barred" ["_law_box_here","_law_many"] D_) (m:Bi mg) (G_q16:cu P w K mg base k):fL P w K mg base (k + 1) :=
 BJ E Af fun _ cdv A outer s H E hr =>
  (ah (cp (gF (fV (iC (ab 1) ak) (eI (iC (ay 0 G_q16 hr (aa ak af)) ak)))) (ah (bu 2 Af.nd (cY ak (ay 0 G_q16 hr (aa (mE (tV m.min (aa ak (aa (ab 1) af))) ak) af))))
  (aq (aQ (az (bw (N':=nz) (own:=["_law_lack"]) (lo:=3) (bT (bH rfl m.range (aa (ab 2) af))) (fun _ _ _ _ => (aw 3 (show (nz ++ (["_law_lack"]:List Str):List Str).Nodup by decide +kernel))) (fun _ _ _ _ => c9) (fun _ _ _ _ => (dQ m.tuple (aa (az (bw (N':=(nz ++ (["_law_lack"]:List Str))) (own:=["_law_column"]) (lo:=4) (bT (bH rfl m.range (aa (ab 2) af))) (fun _ _ _ _ => (aw 4 (show ((nz ++ (["_law_lack"]:List Str)) ++ (["_law_column"]:List Str):List Str).Nodup by decide +kernel))) (fun _ _ _ _ => bF (gY hr (ab 4) (ab 3))) (fun _ _ _ _ => (ab 4)))) af)))))))) bg)
  (ah (bu 2 Af.nd (cY ak (ay 0 G_q16 hr (aa (mE (tV m.min (aa ak (aa (ab 1) af))) ak) af))))
  (aq (aQ (az (bw (N':=nz) (own:=["_law_column"]) (lo:=3) (bT (bH rfl m.range (aa (ab 2) af))) (fun _ _ _ _ => (aw 3 (show (nz ++ (["_law_column"]:List Str):List Str).Nodup by decide +kernel))) (fun _ _ _ _ => c9) (fun _ _ _ _ => (dQ m.tuple (aa (az (kE m.sorted (qJ (az (bh (aa (ab 3) (aa (mm (cY (ab 3) ak) (ab 2)) af))))))) af)))))))))
abbrev y3:Stmt:=top 33
abbrev fW:List Str:=["_law_box_here","_law_many","_law_heads","_law_left","_law_names","_law_rows","_law_found"]
theorem lL:aH fW ["_law_box_here","_law_many","_law_heads"] (ao y3):=⟨rfl,rfl,rfl,by decide +kernel,rfl,by decide +kernel,by decide +kernel⟩
def kZ:M Fl :=
 (aJ (t_ 3 (mC C6 (ae (ag 1) (pure []))))
  (aJ (dY 4 (do let xs <- (aU 7 1 (mC cZ (ae (ag 1) (pure []))) (aZ (aY 7) (pure true) (yS 3 (ae (do let _ <- aI 0; cf 0 2 (bz cv cq) (ae (jQ 3) (pure []))) (pure []))))); pure (D.lst xs)))
  (aJ (t_ 5 (aU 7 1 (do let x <- (ag 2); lift (aF x)) (aZ (aY 7) (pure true) (mC cX (ae (do let xs <- (mQ sortI (do let x <- (do let xs <- (aU 8 1 (do let x <- (ag 7); lift (aF x)) (aZ (aY 8) (pure true) (m2 cQ (ag 4) (ag 8)))); pure (D.lst xs)); lift (fK x))); pure (D.lst xs)) (pure []))))))
  (aJ (t_ 6 (cK (pure [])))
  (aJ (De ((ma (AE true) (pV 5) (do let x <- (do let xs <- (cK (pure [])); pure (D.lst xs)); pure (Hn.th x))) >>= cx) (c8 6 (ae (yS 5 (ae (do let _ <- aI 0; cf 0 2 (bz cv cq) (ae (jQ 5) (pure []))) (pure []))) (pure []))) 7)
  (do let d <- (do let xs <- aI 6; pure (D.tup xs)); pure (Fl.rt d)))))))
variable (P w K mg base) in
abbrev gC (k:Nat):Prop:=Kn P w K mg base du k "_law_named" ["_law_box_here","_law_many","_law_heads"] (vP 3 (bz fW kZ))
theorem ED {k:Nat} (E:Ent K mg "_law_named" ["_law_box_here","_law_many","_law_heads"] y3) (m:Bi mg) (G_q16:cu P w K mg base k):gC P w K mg base (k + 1) :=
 BJ E lL fun _ cdv A outer s H E hr =>
  (ah (eO 3 lL.nd (yW m.list m.range (aa (ab 1) af)))
  (ah (bu 4 lL.nd (az (bw (N':=fW) (own:=["_law_turn"]) (lo:=7) (bT (bH rfl m.range (aa (ab 1) af))) (fun _ _ _ _ => (aw 7 (show (fW ++ (["_law_turn"]:List Str):List Str).Nodup by decide +kernel))) (fun _ _ _ _ => c9) (fun _ _ _ _ => (xg 3 (aa (ay 0 G_q16 hr (aa (i3 3 m.len) af)) af))))))
  (ah (B8 5 lL.nd (N':=fW) (own:=["_law_head_here"]) (lo:=7) (bT (bK (ab 2))) (fun _ _ _ _ => (aw 7 (show (fW ++ (["_law_head_here"]:List Str):List Str).Nodup by decide +kernel))) (fun _ _ _ _ => c9) (fun _ _ _ _ => (dQ m.tuple (aa (az (kE m.sorted (qJ (az (bw (N':=(fW ++ (["_law_head_here"]:List Str))) (own:=["_law_column"]) (lo:=8) (bT (bK (ab 7))) (fun _ _ _ _ => (aw 8 (show ((fW ++ (["_law_head_here"]:List Str)) ++ (["_law_column"]:List Str):List Str).Nodup by decide +kernel))) (fun _ _ _ _ => c9) (fun _ _ _ _ => (aB (ab 4) (ab 8)))))))) af))))
  (ah (eO 6 lL.nd (bh af))
  (ah (xc 7 (Eu hr (j6 5) (fI (az (bh af)))) (aq (c6 6 (aa (xg 5 (aa (ay 0 G_q16 hr (aa (i3 5 m.len) af)) af)) af))))
  (aq (aQ (d8 6 m.tuple))))))))
abbrev E8:Stmt:=top 34
abbrev qo:List Str:=["_law_box_here","_law_most","_law_heads","_law_many","_law_number","_law_way","_law_some","_law_extra"]
theorem oa:aH qo ["_law_box_here","_law_most","_law_heads"] (ao E8):=⟨rfl,rfl,rfl,by decide +kernel,rfl,by decide +kernel,by decide +kernel⟩
def xI:M Fl :=
 (aJ (dY 3 (m2 dk (pure (.int 1)) (do let _ <- aI 0; cf 0 2 (bz cv cq) (ae (ag 1) (pure [])))))
  (aJ (dY 4 (m2 dk (pure (.int 1)) (do let _ <- aI 0; cf 0 2 (bz cv cq) (ae (ag 2) (pure [])))))
  (aJ (dY 5 (do let _ <- aI 0; cf 0 2 (bz cv cq) (ae (pure (.int 5)) (pure []))))
  (aJ (fT (my (m2 (dg false) (ag 5) (pure (.int 0)) >>= cx) (m2 vA (ag 3) (pure (.int 2)) >>= cx)) (aJ (dY 6 (do let _ <- aI 0; cf 0 2 (bz nz w9) (ae (ag 3) (pure []))))
  (aJ (dY 7 (do let xs <- (aU 8 1 (mC cZ (ae (do let _ <- aI 0; cf 0 2 (bz cv cq) (ae (m2 dk (pure (.int 1)) (mC qF (ae (pure (.int 0)) (ae (m2 kL (ag 2) (mC br (ae (ag 6) (pure [])))) (pure []))))) (pure []))) (pure []))) (aZ (aY 8) (pure true) (do let _ <- aI 0; cf 0 2 (bz ik je) (ae (ag 3) (pure []))))); pure (D.lst xs)))
  (do let d <- (cj (ae (ag 3) (ae (do let _ <- aI 0; cf 0 3 (bz fW kZ) (ae (ag 3) (ae (lY (do let xs <- (ma kh (do let x <- (ag 6); pure (Hn.th x)) (do let x <- (ag 7); pure (Hn.th x))); pure (D.lst xs)) (pure none) ((pure (.int 6)) >>= mV)) (pure [])))) (pure [])))); pure (Fl.rt d)))) (pure .nx))
  (aJ (fT (m2 (dg false) (ag 5) (pure (.int 1)) >>= cx) (do let d <- (cj (ae (ag 3) (ae (do let _ <- aI 0; cf 0 3 (bz fW kZ) (ae (ag 3) (ae (do let xs <- (aU 8 1 (mC cZ (ae (ag 4) (pure []))) (aZ (aY 8) (pure true) (do let _ <- aI 0; cf 0 2 (bz ik je) (ae (ag 3) (pure []))))); pure (D.lst xs)) (pure [])))) (pure [])))); pure (Fl.rt d)) (pure .nx))
  (do let d <- (cj (ae (ag 3) (ae (do let _ <- aI 0; cf 0 3 (bz fW kZ) (ae (ag 3) (ae (do let _ <- aI 0; cf 0 3 (bz jb qQ) (ae (ag 3) (ae (ag 4) (pure [])))) (pure [])))) (pure [])))); pure (Fl.rt d)))))))
variable (P w K mg base) in
abbrev fM (k:Nat):Prop:=Kn P w K mg base du k "_law_layout" ["_law_box_here","_law_most","_law_heads"] (vP 3 (bz qo xI))
theorem GQ {k:Nat} (E:Ent K mg "_law_layout" ["_law_box_here","_law_most","_law_heads"] E8) (m:Bi mg) (G_q8:fL P w K mg base k) (G_q10:gz P w K mg base k) (G_q22:fE P w K mg base k) (G_q13:gC P w K mg base k) (G_q16:cu P w K mg base k):fM P w K mg base (k + 1) :=
 BJ E oa fun _ cdv A outer s H E hr =>
  (ah (bu 3 oa.nd (cY ak (ay 0 G_q16 hr (aa (ab 1) af))))
  (ah (bu 4 oa.nd (cY ak (ay 0 G_q16 hr (aa (ab 2) af))))
  (ah (bu 5 oa.nd (ay 0 G_q16 hr (aa ak af)))
  (ah (cp (gF (iA (iC (ab 5) ak) (gN (zG (ab 3) ak)))) (ah (bu 6 oa.nd (ay 0 G_q8 hr (aa (ab 3) af)))
  (ah (dC 7 oa.nd (N':=qo) (own:=["_law_turn"]) (lo:=8) (bT (bH rfl m.range (aa (ay 0 G_q16 hr (aa (cY ak (ze m.max (aa ak (aa (mE (ab 2) (bG m.len (aa (ab 6) af))) af)))) af)) af))) (fun _ _ _ _ => (aw 8 (show (qo ++ (["_law_turn"]:List Str):List Str).Nodup by decide +kernel))) (fun _ _ _ _ => c9) (fun _ _ _ _ => (ay 0 G_q22 hr (aa (ab 3) af))))
  (aq (aQ (aW (aa (ab 3) (aa (ay 0 G_q13 hr (aa (ab 3) (aa (bJ (az (m_ (fI (ab 6)) (fI (ab 7)))) b_ (b5 ak)) af))) af))))))) bg)
  (ah (cp (iC (ab 5) ak) (aq (aQ (aW (aa (ab 3) (aa (ay 0 G_q13 hr (aa (ab 3) (aa (az (bw (N':=qo) (own:=["_law_turn"]) (lo:=8) (bT (bH rfl m.range (aa (ab 4) af))) (fun _ _ _ _ => (aw 8 (show (qo ++ (["_law_turn"]:List Str):List Str).Nodup by decide +kernel))) (fun _ _ _ _ => c9) (fun _ _ _ _ => (ay 0 G_q22 hr (aa (ab 3) af))))) af))) af))))) bg)
  (aq (aQ (aW (aa (ab 3) (aa (ay 0 G_q13 hr (aa (ab 3) (aa (ay 0 G_q10 hr (aa (ab 3) (aa (ab 4) af))) af))) af))))))))))
abbrev Aj:Stmt:=top 35
abbrev qD:List Str:=["_law_found"]
theorem EI:aH qD ["_law_found"] (ao Aj):=⟨rfl,rfl,rfl,by decide +kernel,rfl,by decide +kernel,by decide +kernel⟩
def oA:M Fl :=
 (do let d <- (qs (jl .int (ag 0)) (yx (jl .bool (ag 0)))); pure (Fl.rt d))
variable (P w K mg base) in
abbrev gM (k:Nat):Prop:=Kn P w K mg base du k "_law_whole" ["_law_found"] (jw 1 (bf qD oA))
theorem Fv {k:Nat} (E:Ent K mg "_law_whole" ["_law_found"] Aj) (m:Bi mg):gM P w K mg base (k + 1) :=
 oV E EI fun _ cdv A outer s H E hr =>
  (aq (aQ (lZ (gJ .int m.isinstance m.int (ab 0)) (j9 (zY (gJ .bool m.isinstance m.bool (ab 0)))))))
abbrev xX:Stmt:=top 36
abbrev ot:List Str:=["_law_box_here","_law_some"]
theorem sO:aH ot ["_law_box_here"] (ao xX):=⟨rfl,rfl,rfl,by decide +kernel,rfl,by decide +kernel,by decide +kernel⟩
def l_:M Fl :=
 (aJ (dY 1 (do let xs <- (cK (ae (pure .non) (ae (pure (.bl true)) (ae (pure (.bl false)) (ae (m1 h9 (pure (.int 1))) (ae (pure (.int 0)) (ae (pure (.int 1)) (ae (pure (.int 7)) (ae (pure (.int 10)) (ae (pure (.str "")) (ae (pure (.str "0")) (ae (pure (.str "none")) (ae (cj (pure [])) (ae (cj (ae (pure (.int 0)) (pure []))) (ae (cj (ae (pure (.int 0)) (ae (pure (.int 1)) (pure [])))) (ae (cj (ae (pure (.int 1)) (ae (pure (.int 0)) (pure [])))) (ae (cj (ae (pure (.int 0)) (ae (pure (.int 0)) (pure [])))) (ae (cj (ae (pure (.int 0)) (ae (pure (.bl true)) (pure [])))) (ae (do let xs <- (cK (ae (pure (.int 0)) (pure []))); pure (D.lst xs)) (ae (pure .dct) (pure []))))))))))))))))))))); pure (D.lst xs)))
  (aJ (dY 1 (do let xs <- (ma kh (do let x <- (ag 1); pure (Hn.th x)) (do let x <- (do let xs <- (cK (ae (cj (ae (cj (ae (pure (.int 0)) (pure []))) (pure []))) (ae (cj (ae (cj (ae (pure (.int 0)) (ae (pure (.int 1)) (pure [])))) (pure []))) (ae (do let xs <- (cK (ae (cj (ae (pure (.int 0)) (ae (pure (.int 1)) (pure [])))) (pure []))); pure (D.lst xs)) (ae (m2 xK (pure (.int 10)) (pure (.int 39))) (ae (cj (ae (pure (.int 0)) (ae (pure (.int 10)) (pure [])))) (ae (cj (ae (pure (.int 0)) (ae (m1 h9 (pure (.int 1))) (pure [])))) (ae (cj (ae (cj (pure [])) (ae (cj (pure [])) (pure [])))) (ae (cj (ae (cj (ae (pure (.int 0)) (ae (pure (.int 1)) (pure [])))) (ae (cj (ae (pure (.int 0)) (ae (pure (.int 1)) (pure [])))) (pure [])))) (ae (cj (ae (cj (ae (pure (.int 0)) (ae (pure (.int 1)) (pure [])))) (ae (pure .non) (pure [])))) (pure []))))))))))); pure (D.lst xs)); pure (Hn.th x))); pure (D.lst xs)))
  (do let d <- (m2 cQ (ag 1) (do let _ <- aI 0; cf 0 2 (bz cv cq) (ae (mC br (ae (ag 1) (pure []))) (pure [])))); pure (Fl.rt d))))
variable (P w K mg base) in
abbrev gI (k:Nat):Prop:=Kn P w K mg base du k "_law_odd" ["_law_box_here"] (vP 1 (bz ot l_))
theorem Fw {k:Nat} (E:Ent K mg "_law_odd" ["_law_box_here"] xX) (m:Bi mg) (G_q16:cu P w K mg base k):gI P w K mg base (k + 1) :=
 BJ E sO fun _ cdv A outer s H E hr =>
  (by
  refine ah ?_ ?_; (focus exact (by show ql _ (Stmt.Assign [Expr.Name _ _] (Expr.List _ _) _) (dY 1 _); refine vv 1 _ _ _ _ _ ?_ ?_ ?_ ?_ ?_ ?_; (focus exact sO.nd); (focus exact rfl); (focus first | exact Or.inl rfl | exact Or.inr rfl); (focus first | exact .inl rfl | exact .inr rfl); (focus exact BA); show DE _ (Expr.List _ _) _; refine az ?_; refine bh ?_; exact (by refine nV ?_ ?_; (focus exact gH); refine nV ?_ ?_; (focus exact dj); refine nV ?_ ?_; (focus exact dj); refine Jd ?_ ?_; (focus exact (kv ak)); refine nV ?_ ?_; (focus exact ak); refine nV ?_ ?_; (focus exact ak); refine nV ?_ ?_; (focus exact ak); refine nV ?_ ?_; (focus exact ak); refine nV ?_ ?_; (focus exact tQ); refine nV ?_ ?_; (focus exact tQ); refine nV ?_ ?_; (focus exact tQ); refine jZ ?_ ?_; (focus exact (aW af)); refine jZ ?_ ?_; (focus exact (aW (aa ak af))); refine jZ ?_ ?_; (focus exact (aW (aa ak (aa ak af)))); refine jZ ?_ ?_; (focus exact (aW (aa ak (aa ak af)))); refine jZ ?_ ?_; (focus exact (aW (aa ak (aa ak af)))); refine jZ ?_ ?_; (focus exact (aW (aa ak (aa dj af)))); refine Ie ?_ ?_; (focus exact (az (bh (aa ak af)))); refine JA ?_ ?_; (focus exact xq); exact af))); exact (by
  refine ah ?_ ?_; (focus exact (by refine vv 1 _ _ _ _ _ ?_ ?_ ?_ ?_ ?_ ?_; (focus exact sO.nd); (focus exact rfl); (focus first | exact Or.inl rfl | exact Or.inr rfl); (focus first | exact .inl rfl | exact .inr rfl); (focus exact rfl); refine az ?_; refine m_ ?_ ?_; (focus exact (fI (ab 1))); refine fI ?_; refine az ?_; refine bh ?_; refine jZ ?_ ?_; (focus exact (aW (aa (aW (aa ak af)) af))); refine jZ ?_ ?_; (focus exact (aW (aa (aW (aa ak (aa ak af))) af))); refine Ie ?_ ?_; (focus exact (az (bh (aa (aW (aa ak (aa ak af))) af)))); refine aa ?_ ?_; (focus exact (DX ak ak)); refine jZ ?_ ?_; (focus exact (aW (aa ak (aa ak af)))); refine jZ ?_ ?_; (focus exact (aW (aa ak (aa (kv ak) af)))); refine jZ ?_ ?_; (focus exact (aW (aa (aW af) (aa (aW af) af)))); refine jZ ?_ ?_; (focus exact (aW (aa (aW (aa ak (aa ak af))) (aa (aW (aa ak (aa ak af))) af)))); refine jZ ?_ ?_; (focus exact (aW (aa (aW (aa ak (aa ak af))) (aa gH af)))); exact af)); exact (aq (aQ (aB (ab 1) (ay 0 G_q16 hr (aa (bG m.len (aa (ab 1) af)) af)))))))
abbrev Ep:Stmt:=top 37
abbrev qN:List Str:=["_law_layout_here"]
theorem G6:aH qN ["_law_layout_here"] (ao Ep):=⟨rfl,rfl,rfl,by decide +kernel,rfl,by decide +kernel,by decide +kernel⟩
def yK:M Fl :=
 (do let d <- (aU 1 1 (mC cZ (ae (m2 cQ (ag 0) (pure (.int 0))) (pure []))) (aZ (aY 1) ((m2 (i_ true) (do let xs <- (aU 2 1 (do let x <- (m2 cQ (ag 0) (pure (.int 1))); lift (aF x)) (aZ (aY 2) (m2 (i7 false) (ag 1) (ag 2) >>= cx) (ag 2))); pure (D.lst xs)) (do let xs <- (cK (pure [])); pure (D.lst xs))) >>= cx) (ag 1))); pure (Fl.rf d))
variable (P w K mg base) in
abbrev ff (k:Nat):Prop:=Kn P w K mg base du k "_law_columns" ["_law_layout_here"] (AU 1 (eL qN yK))
theorem GK {k:Nat} (E:Ent K mg "_law_columns" ["_law_layout_here"] Ep) (m:Bi mg):ff P w K mg base (k + 1) :=
 GG E G6 fun _ cdv A outer s H E hr =>
  (aq (iX (bw (N':=qN) (own:=["_law_column"]) (lo:=1) (bT (bH rfl m.range (aa (aB (ab 0) ak) af))) (fun _ _ _ _ => (aw 1 (show (qN ++ (["_law_column"]:List Str):List Str).Nodup by decide +kernel))) (fun _ _ _ _ => bF (gY hr (az (bw (N':=(qN ++ (["_law_column"]:List Str))) (own:=["_law_head_here"]) (lo:=2) (bT (bK (aB (ab 0) ak))) (fun _ _ _ _ => (aw 2 (show ((qN ++ (["_law_column"]:List Str)) ++ (["_law_head_here"]:List Str):List Str).Nodup by decide +kernel))) (fun _ _ _ _ => bF (iE (ab 1) (ab 2))) (fun _ _ _ _ => (ab 2)))) (az (bh af)))) (fun _ _ _ _ => (ab 1)))))
abbrev xG:Stmt:=top 38
abbrev kX:List Str:=["_law_heads","_law_column"]
theorem Fi:aH kX ["_law_heads","_law_column"] (ao xG):=⟨rfl,rfl,rfl,by decide +kernel,rfl,by decide +kernel,by decide +kernel⟩
def r0:M Fl :=
 (do let d <- (aU 2 1 (do let x <- (ag 0); lift (aF x)) (aZ (aY 2) (pure true) (mC cX (ae (do let xs <- (aU 3 1 (do let x <- (ag 2); lift (aF x)) (aZ (aY 3) ((m2 (i_ true) (ag 3) (ag 1)) >>= cx) (ag 3))); pure (D.lst xs)) (pure []))))); pure (Fl.rf d))
variable (P w K mg base) in
abbrev gP (k:Nat):Prop:=Kn P w K mg base du k "_law_taken" ["_law_heads","_law_column"] (AU 2 (eL kX r0))
theorem Fe {k:Nat} (E:Ent K mg "_law_taken" ["_law_heads","_law_column"] xG) (m:Bi mg):gP P w K mg base (k + 1) :=
 GG E Fi fun _ cdv A outer s H E hr =>
  (aq (iX (bw (N':=kX) (own:=["_law_head_here"]) (lo:=2) (bT (bK (ab 0))) (fun _ _ _ _ => (aw 2 (show (kX ++ (["_law_head_here"]:List Str):List Str).Nodup by decide +kernel))) (fun _ _ _ _ => c9) (fun _ _ _ _ => (dQ m.tuple (aa (az (bw (N':=(kX ++ (["_law_head_here"]:List Str))) (own:=["_law_one"]) (lo:=3) (bT (bK (ab 2))) (fun _ _ _ _ => (aw 3 (show ((kX ++ (["_law_head_here"]:List Str)) ++ (["_law_one"]:List Str):List Str).Nodup by decide +kernel))) (fun _ _ _ _ => bF (gY hr (ab 3) (ab 1))) (fun _ _ _ _ => (ab 3)))) af))))))
abbrev Ew:Stmt:=top 39
abbrev nU:List Str:=["_law_heads","_law_column","_law_some","_law_one","_law_other"]
theorem uO:aH nU ["_law_heads","_law_column"] (ao Ew):=⟨rfl,rfl,rfl,by decide +kernel,rfl,by decide +kernel,by decide +kernel⟩
def yY:M Fl :=
 (aJ (dY 2 (do let xs <- (aU 5 1 (do let x <- (ag 0); lift (aF x)) (aZ (aY 5) (m2 (i7 false) (ag 1) (ag 5) >>= cx) (ag 5))); pure (D.lst xs)))
  (aJ (
  do let it <- (do let x <- (ag 2); lift (aF x)); forM (aY 3) (
  do let it <- (do let x <- (ag 2); lift (aF x)); forM (aY 4) (fT (my ((m2 (i_ true) (do let xs <- (aU 5 1 (do let x <- (ag 3); lift (aF x)) (aZ (aY 5) (m2 (i7 true) (ag 5) (ag 4) >>= cx) (pure (.int 1)))); pure (D.lst xs)) (do let xs <- (cK (pure [])); pure (D.lst xs))) >>= cx) ((m2 (i_ true) (do let xs <- (aU 5 1 (do let x <- (ag 4); lift (aF x)) (aZ (aY 5) (m2 (i7 true) (ag 5) (ag 3) >>= cx) (pure (.int 1)))); pure (D.lst xs)) (do let xs <- (cK (pure [])); pure (D.lst xs))) >>= cx)) (do let d <- (pure (.bl false)); pure (Fl.rt d)) (pure .nx)) it.2 it.1) it.2 it.1)
  (do let d <- (pure (.bl true)); pure (Fl.rt d))))
variable (P w K mg base) in
abbrev fg (k:Nat):Prop:=Kn P w K mg base du k "_law_is_nest" ["_law_heads","_law_column"] (jw 2 (bf nU yY))
theorem Ih {k:Nat} (E:Ent K mg "_law_is_nest" ["_law_heads","_law_column"] Ew):fg P w K mg base (k + 1) :=
 oV E uO fun _ cdv A outer s H E hr =>
  (ah (dC 2 uO.nd (N':=nU) (own:=["_law_head_here"]) (lo:=5) (bT (bK (ab 0))) (fun _ _ _ _ => (aw 5 (show (nU ++ (["_law_head_here"]:List Str):List Str).Nodup by decide +kernel))) (fun _ _ _ _ => bF (iE (ab 1) (ab 5))) (fun _ _ _ _ => (ab 5)))
  (ah (dN (bK (ab 2)) (aw 3 uO.nd) (aq (dN (bK (ab 2)) (aw 4 uO.nd) (aq (cp (gF (iA (gY hr (az (bw (N':=nU) (own:=["_law_here"]) (lo:=5) (bT (bK (ab 3))) (fun _ _ _ _ => (aw 5 (show (nU ++ (["_law_here"]:List Str):List Str).Nodup by decide +kernel))) (fun _ _ _ _ => bF (f9 (ab 5) (ab 4))) (fun _ _ _ _ => ak))) (az (bh af))) (gN (gY hr (az (bw (N':=nU) (own:=["_law_here"]) (lo:=5) (bT (bK (ab 4))) (fun _ _ _ _ => (aw 5 (show (nU ++ (["_law_here"]:List Str):List Str).Nodup by decide +kernel))) (fun _ _ _ _ => bF (f9 (ab 5) (ab 3))) (fun _ _ _ _ => ak))) (az (bh af)))))) (aq (aQ dj)) bg)))))
  (aq (aQ dj))))
abbrev zX:Stmt:=top 40
abbrev kS:List Str:=["_law_layout_here","_law_thing","_law_least","_law_part","_law_many","_law_heads","_law_columns_here","_law_k","_law_there"]
theorem ju:aH kS ["_law_layout_here","_law_thing","_law_least"] (ao zX):=⟨rfl,rfl,rfl,by decide +kernel,rfl,by decide +kernel,by decide +kernel⟩
def rY:M Fl :=
 (aJ (fT (oT (fQ (do let x <- (jl .tup (ag 1)); lift (cm x))) (m2 (dg true) (mC br (ae (ag 1) (pure []))) (pure (.int 2)) >>= cx)) (do let d <- (pure (.bl false)); pure (Fl.rt d)) (pure .nx))
  (aJ (
  do let it <- (mC kz (ae (ag 1) (ae (do let xs <- (cK (ae (mC br (ae (m2 cQ (ag 0) (pure (.int 1))) (pure []))) (ae (m2 cQ (ag 0) (pure (.int 0))) (pure [])))); pure (D.lst xs)) (pure [])))); forM (ft 2 (b4 (aY 3) (b4 (aY 4) eY))) (aJ (fT (oT (fQ (do let x <- (jl .tup (ag 3)); lift (cm x))) (oT (fQ (do let x <- (mC jm (ae (do let xs <- (aU 9 1 (do let x <- (ag 3); lift (aF x)) (aZ (aY 9) (pure true) (mC (aG 1 (bf qD oA)) (ae (ag 9) (pure []))))); pure (D.lst xs)) (pure []))); lift (cm x))) (m2 (dg true) (mQ hU (do let x <- (ag 3); lift (fK x))) (mC br (ae (ag 3) (pure []))) >>= cx))) (do let d <- (pure (.bl false)); pure (Fl.rt d)) (pure .nx))
  (fT ((m2 (i_ true) (do let xs <- (aU 9 1 (do let x <- (ag 3); lift (aF x)) (aZ (aY 9) (fQ ((AH Aw mY (pure (.int 0)) (ag 9) (ag 4)) >>= cx)) (ag 9))); pure (D.lst xs)) (do let xs <- (cK (pure [])); pure (D.lst xs))) >>= cx) (do let d <- (pure (.bl false)); pure (Fl.rt d)) (pure .nx))) it.2 it.1)
  (aJ (do let d <- (ag 1); (ft 2 (b4 (aY 5) (b4 (aY 6) eY))) d; pure Fl.nx)
  (aJ (fT (oT (m2 (dg true) (mC br (ae (ag 5) (pure []))) (mC br (ae (ag 6) (pure []))) >>= cx) (m2 mY (mC br (ae (ag 5) (pure []))) (ag 2) >>= cx)) (do let d <- (pure (.bl false)); pure (Fl.rt d)) (pure .nx))
  (aJ (
  do let it <- (mC cZ (ae (mC br (ae (ag 5) (pure []))) (pure []))); forM (aY 7) (aJ (dY 8 (do let xs <- (cK (ae (m2 cQ (m2 cQ (ag 0) (pure (.int 1))) (m2 cQ (ag 5) (ag 7))) (ae (m2 cQ (m2 cQ (ag 0) (pure (.int 1))) (m2 cQ (ag 5) (m2 nD (m2 dk (ag 7) (pure (.int 1))) (mC br (ae (ag 5) (pure [])))))) (pure [])))); pure (D.lst xs)))
  (fT (oT (m2 (i7 true) (m2 cQ (ag 6) (ag 7)) (m2 cQ (ag 8) (pure (.int 0))) >>= cx) (m2 (i7 true) (m2 cQ (ag 6) (ag 7)) (m2 cQ (ag 8) (pure (.int 1))) >>= cx)) (do let d <- (pure (.bl false)); pure (Fl.rt d)) (pure .nx))) it.2 it.1)
  (do let d <- (pure (.bl true)); pure (Fl.rt d)))))))
variable (P w K mg base) in
abbrev gD (k:Nat):Prop:=Kn P w K mg base du k "_law_turns" ["_law_layout_here","_law_thing","_law_least"] (jw 3 (bf kS rY))
theorem Fx {k:Nat} (E:Ent K mg "_law_turns" ["_law_layout_here","_law_thing","_law_least"] zX) (m:Bi mg) (G_q11:gM P w K mg base k):gD P w K mg base (k + 1) :=
 oV E ju fun _ cdv A outer s H E hr =>
  (ah (cp (gF (fV (d9 (cz (gJ .tup m.isinstance m.tuple (ab 1)))) (eI (ku (bG m.len (aa (ab 1) af)) ak)))) (aq (aQ dj)) bg)
  (ah (dN (yu m.zip (aa (ab 1) (aa (az (bh (aa (bG m.len (aa (aB (ab 0) ak) af)) (aa (aB (ab 0) ak) af)))) af))) (eJ (bp (aw 3 ju.nd) (bp (aw 4 ju.nd) dD))) (ah (cp (gF (fV (d9 (cz (gJ .tup m.isinstance m.tuple (ab 3)))) (fV (d9 (cz (ph m.all (aa (az (bw (N':=kS) (own:=["_law_one"]) (lo:=9) (bT (bK (ab 3))) (fun _ _ _ _ => (aw 9 (show (kS ++ (["_law_one"]:List Str):List Str).Nodup by decide +kernel))) (fun _ _ _ _ => c9) (fun _ _ _ _ => (ba G_q11 hr (aa (ab 9) af))))) af)))) (eI (ku (oM m.len m.set (qJ (ab 3))) (bG m.len (aa (ab 3) af))))))) (aq (aQ dj)) bg)
  (aq (cp (gY hr (az (bw (N':=kS) (own:=["_law_one"]) (lo:=9) (bT (bK (ab 3))) (fun _ _ _ _ => (aw 9 (show (kS ++ (["_law_one"]:List Str):List Str).Nodup by decide +kernel))) (fun _ _ _ _ => bF (d9 (A0 ak (ab 9) (ab 4)))) (fun _ _ _ _ => (ab 9)))) (az (bh af))) (aq (aQ dj)) bg))))
  (ah (kr (ab 1) (eJ (bp (aw 5 ju.nd) (bp (aw 6 ju.nd) dD))))
  (ah (cp (gF (fV (ku (bG m.len (aa (ab 5) af)) (bG m.len (aa (ab 6) af))) (eI (uz (bG m.len (aa (ab 5) af)) (ab 2))))) (aq (aQ dj)) bg)
  (ah (dN (bH rfl m.range (aa (bG m.len (aa (ab 5) af)) af)) (aw 7 ju.nd) (ah (bu 8 ju.nd (az (bh (aa (aB (aB (ab 0) ak) (aB (ab 5) (ab 7))) (aa (aB (aB (ab 0) ak) (aB (ab 5) (mm (cY (ab 7) ak) (bG m.len (aa (ab 5) af))))) af)))))
  (aq (cp (gF (fV (f9 (aB (ab 6) (ab 7)) (aB (ab 8) ak)) (eI (f9 (aB (ab 6) (ab 7)) (aB (ab 8) ak))))) (aq (aQ dj)) bg))))
  (aq (aQ dj)))))))
abbrev El:Stmt:=top 41
abbrev rP:List Str:=["_law_layout_here","_law_thing","_law_column"]
theorem DM:aH rP ["_law_layout_here","_law_thing"] (ao El):=⟨rfl,rfl,rfl,by decide +kernel,rfl,by decide +kernel,by decide +kernel⟩
def tU:M Fl :=
 (aJ (fT (fQ (do let x <- (mC (aG 3 (bf kS rY)) (ae (ag 0) (ae (ag 1) (ae (pure (.int 3)) (pure []))))); lift (cm x))) (do let d <- (pure (.bl false)); pure (Fl.rt d)) (pure .nx))
  (aJ (
  do let it <- (do let x <- (m2 cQ (ag 1) (pure (.int 1))); lift (aF x)); forM (aY 2) (fT (m2 (dg true) (mC br (ae (do let xs <- (aU 3 1 (do let x <- (m2 cQ (ag 1) (pure (.int 0))); lift (aF x)) (aZ (aY 3) (m2 (i7 false) (ag 2) (m2 cQ (m2 cQ (ag 0) (pure (.int 1))) (ag 3)) >>= cx) (ag 3))); pure (D.lst xs)) (pure []))) (pure (.int 2)) >>= cx) (do let d <- (pure (.bl false)); pure (Fl.rt d)) (pure .nx)) it.2 it.1)
  (do let d <- (pure (.bl true)); pure (Fl.rt d))))
variable (P w K mg base) in
abbrev d_ (k:Nat):Prop:=Kn P w K mg base du k "_law_is_wreath" ["_law_layout_here","_law_thing"] (jw 2 (bf rP tU))
theorem Hc {k:Nat} (E:Ent K mg "_law_is_wreath" ["_law_layout_here","_law_thing"] El) (m:Bi mg) (G_q15:gD P w K mg base k):d_ P w K mg base (k + 1) :=
 oV E DM fun _ cdv A outer s H E hr =>
  (ah (cp (d9 (cz (ba G_q15 hr (aa (ab 0) (aa (ab 1) (aa ak af)))))) (aq (aQ dj)) bg)
  (ah (dN (bK (aB (ab 1) ak)) (aw 2 DM.nd) (aq (cp (ku (bG m.len (aa (az (bw (N':=rP) (own:=["_law_number"]) (lo:=3) (bT (bK (aB (ab 1) ak))) (fun _ _ _ _ => (aw 3 (show (rP ++ (["_law_number"]:List Str):List Str).Nodup by decide +kernel))) (fun _ _ _ _ => bF (iE (ab 2) (aB (aB (ab 0) ak) (ab 3)))) (fun _ _ _ _ => (ab 3)))) af)) ak) (aq (aQ dj)) bg)))
  (aq (aQ dj))))
abbrev Gj:Stmt:=top 42
abbrev lh:List Str:=["_law_box_here","_law_layout_here","_law_heads","_law_columns_here","_law_turn","_law_some","_law_fresh","_law_number","_law_head_here","_law_ends","_law_there","_law_shares"]
theorem iB:aH lh ["_law_box_here","_law_layout_here"] (ao Gj):=⟨rfl,rfl,rfl,by decide +kernel,rfl,by decide +kernel,by decide +kernel⟩
def wY:M Fl :=
 (aJ (t_ 2 (cK (ae (do let _ <- aI 0; cf 0 2 (bz cv cq) (ae (mC br (ae (m2 cQ (ag 1) (pure (.int 1))) (pure []))) (pure []))) (pure []))))
  (aJ (t_ 3 (cK (pure [])))
  (aJ (
  do let it <- (mC cZ (ae (pure (.int 5)) (pure []))); forM (aY 4) (aJ (dY 5 (do let xs <- (aU 12 1 (do let x <- (m2 cQ (m2 cQ (ag 1) (pure (.int 1))) (pW 2 (m1 h9 (pure (.int 1))))); lift (aF x)) (aZ (aY 12) ((ma (DV true) (do let x <- (ag 12); pure (Hn.th x)) (pV 3)) >>= cx) (ag 12))); pure (D.lst xs)))
  (aJ (t_ 6 (cK (pure [])))
  (aJ (
  do let it <- (mC ka (ae (m2 cQ (ag 1) (pure (.int 1))) (pure []))); forM (ft 2 (b4 (aY 7) (b4 (aY 8) eY))) (fT (my ((ma (DV true) (do let x <- (ag 7); pure (Hn.th x)) (pV 2)) >>= cx) ((m2 (i_ true) (do let xs <- (aU 12 1 (do let x <- (ag 5); lift (aF x)) (aZ (aY 12) (m2 (i7 false) (ag 12) (ag 8) >>= cx) (ag 12))); pure (D.lst xs)) (do let xs <- (cK (pure [])); pure (D.lst xs))) >>= cx)) (c8 6 (ae (ag 7) (pure []))) (pure .nx)) it.2 it.1)
  (aJ (dY 9 (do let xs <- (aU 12 1 (do let x <- (ag 5); lift (aF x)) (aZ (aY 12) (m2 (i7 false) (ag 12) (m2 cQ (m2 cQ (ag 1) (pure (.int 1))) (pW 2 (pure (.int 0)))) >>= cx) (ag 12))); pure (D.lst xs)))
  (aJ (fT (my (m2 vA (jQ 2) (pure (.int 1)) >>= cx) (my ((m2 (i_ true) (ag 9) (do let xs <- (cK (pure [])); pure (D.lst xs))) >>= cx) (oT ((ma (AE false) (pV 6) (do let x <- (do let xs <- (cK (pure [])); pure (D.lst xs)); pure (Hn.th x))) >>= cx) (m2 (dg false) (do let _ <- aI 0; cf 0 2 (bz cv cq) (ae (pure (.int 3)) (pure []))) (pure (.int 0)) >>= cx)))) (do let d <- (cj (ae (do let xs <- aI 2; pure (D.tup xs)) (ae (m2 cC (do let xs <- aI 3; pure (D.tup xs)) (cj (ae (m2 cQ (ag 9) (do let _ <- aI 0; cf 0 2 (bz cv cq) (ae (mC br (ae (ag 9) (pure []))) (pure [])))) (pure [])))) (pure [])))); pure (Fl.rt d)) (pure .nx))
  (aJ (fT ((ma (AE false) (pV 6) (do let x <- (do let xs <- (cK (pure [])); pure (D.lst xs)); pure (Hn.th x))) >>= cx) (do let d <- (cj (ae (do let xs <- aI 2; pure (D.tup xs)) (ae (do let xs <- aI 3; pure (D.tup xs)) (pure [])))); pure (Fl.rt d)) (pure .nx))
  (aJ (dY 10 (pW 6 (do let _ <- aI 0; cf 0 2 (bz cv cq) (ae (jQ 6) (pure [])))))
  (aJ (dY 11 (do let xs <- (aU 12 1 (do let x <- (ag 5); lift (aF x)) (aZ (aY 12) (m2 (i7 false) (ag 12) (m2 cQ (m2 cQ (ag 1) (pure (.int 1))) (ag 10)) >>= cx) (ag 12))); pure (D.lst xs)))
  (aJ (c8 3 (ae (m2 cQ (ag 11) (do let _ <- aI 0; cf 0 2 (bz cv cq) (ae (mC br (ae (ag 11) (pure []))) (pure [])))) (pure [])))
  (c8 2 (ae (ag 10) (pure [])))))))))))) it.2 it.1)
  (do let d <- (cj (ae (do let xs <- aI 2; pure (D.tup xs)) (ae (do let xs <- aI 3; pure (D.tup xs)) (pure [])))); pure (Fl.rt d)))))
variable (P w K mg base) in
abbrev dG (k:Nat):Prop:=Kn P w K mg base du k "_law_drawn_turns" ["_law_box_here","_law_layout_here"] (vP 2 (bz lh wY))
theorem Hv {k:Nat} (E:Ent K mg "_law_drawn_turns" ["_law_box_here","_law_layout_here"] Gj) (m:Bi mg) (G_q16:cu P w K mg base k):dG P w K mg base (k + 1) :=
 BJ E iB fun _ cdv A outer s H E hr =>
  (ah (eO 2 iB.nd (bh (aa (ay 0 G_q16 hr (aa (bG m.len (aa (aB (ab 1) ak) af)) af)) af)))
  (ah (eO 3 iB.nd (bh af))
  (ah (dN (bH rfl m.range (aa ak af)) (aw 4 iB.nd) (ah (dC 5 iB.nd (N':=lh) (own:=["_law_column"]) (lo:=12) (bT (bK (aB (aB (ab 1) ak) (kb 2 (kv ak))))) (fun _ _ _ _ => (aw 12 (show (lh ++ (["_law_column"]:List Str):List Str).Nodup by decide +kernel))) (fun _ _ _ _ => bF (og (fI (ab 12)) (j6 3))) (fun _ _ _ _ => (ab 12)))
  (ah (eO 6 iB.nd (bh af))
  (ah (dN (u5 m.enumerate (aa (aB (ab 1) ak) af)) (eJ (bp (aw 7 iB.nd) (bp (aw 8 iB.nd) dD))) (aq (cp (gF (iA (og (fI (ab 7)) (j6 2)) (gN (gY hr (az (bw (N':=lh) (own:=["_law_column"]) (lo:=12) (bT (bK (ab 5))) (fun _ _ _ _ => (aw 12 (show (lh ++ (["_law_column"]:List Str):List Str).Nodup by decide +kernel))) (fun _ _ _ _ => bF (iE (ab 12) (ab 8))) (fun _ _ _ _ => (ab 12)))) (az (bh af)))))) (aq (c6 6 (aa (ab 7) af))) bg)))
  (ah (dC 9 iB.nd (N':=lh) (own:=["_law_column"]) (lo:=12) (bT (bK (ab 5))) (fun _ _ _ _ => (aw 12 (show (lh ++ (["_law_column"]:List Str):List Str).Nodup by decide +kernel))) (fun _ _ _ _ => bF (iE (ab 12) (aB (aB (ab 1) ak) (kb 2 ak)))) (fun _ _ _ _ => (ab 12)))
  (ah (cp (gF (iA (zG (i3 2 m.len) ak) (iA (gY hr (ab 9) (az (bh af))) (gN (gF (fV (xE hr (j6 6) (fI (az (bh af)))) (eI (iC (ay 0 G_q16 hr (aa ak af)) ak)))))))) (aq (aQ (aW (aa (d8 2 m.tuple) (aa (cV (d8 3 m.tuple) (aW (aa (aB (ab 9) (ay 0 G_q16 hr (aa (bG m.len (aa (ab 9) af)) af))) af))) af))))) bg)
  (ah (cp (xE hr (j6 6) (fI (az (bh af)))) (aq (aQ (aW (aa (d8 2 m.tuple) (aa (d8 3 m.tuple) af))))) bg)
  (ah (bu 10 iB.nd (kb 6 (ay 0 G_q16 hr (aa (i3 6 m.len) af))))
  (ah (dC 11 iB.nd (N':=lh) (own:=["_law_column"]) (lo:=12) (bT (bK (ab 5))) (fun _ _ _ _ => (aw 12 (show (lh ++ (["_law_column"]:List Str):List Str).Nodup by decide +kernel))) (fun _ _ _ _ => bF (iE (ab 12) (aB (aB (ab 1) ak) (ab 10)))) (fun _ _ _ _ => (ab 12)))
  (ah (c6 3 (aa (aB (ab 11) (ay 0 G_q16 hr (aa (bG m.len (aa (ab 11) af)) af))) af))
  (aq (c6 2 (aa (ab 10) af)))))))))))))
  (aq (aQ (aW (aa (d8 2 m.tuple) (aa (d8 3 m.tuple) af))))))))
abbrev zF:Stmt:=top 43
abbrev rq:List Str:=["_law_box_here","_law_layout_here","_law_thing","_law_heads","_law_columns_here","_law_odd_here","_law_at","_law_other","_law_column","_law_some"]
theorem gR:aH rq ["_law_box_here","_law_layout_here","_law_thing"] (ao zF):=⟨rfl,rfl,rfl,by decide +kernel,rfl,by decide +kernel,by decide +kernel⟩
def o4:M Fl :=
 (aJ (do let d <- (ag 2); (ft 2 (b4 (aY 3) (b4 (aY 4) eY))) d; pure Fl.nx)
  (aJ (dY 5 (do let _ <- aI 0; cf 0 1 (bz ot l_) (pure [])))
  (aJ (dY 6 (do let _ <- aI 0; cf 0 2 (bz cv cq) (ae (mC br (ae (ag 3) (pure []))) (pure []))))
  (aJ (dY 7 (do let _ <- aI 0; cf 0 2 (bz cv cq) (ae (mC br (ae (m2 cQ (ag 1) (pure (.int 1))) (pure []))) (pure []))))
  (aJ (dY 8 (do let _ <- aI 0; cf 0 2 (bz cv cq) (ae (m2 cQ (ag 1) (pure (.int 0))) (pure []))))
  (aJ (t_ 9 (cK (ae (cj (ae (m2 cC (lY (ag 3) ((pure (.int 1)) >>= mV) (pure none)) (lY (ag 3) (pure none) ((pure (.int 1)) >>= mV))) (ae (m2 cC (lY (ag 4) ((pure (.int 1)) >>= mV) (pure none)) (lY (ag 4) (pure none) ((pure (.int 1)) >>= mV))) (pure [])))) (ae (cj (ae (m1 zq (ag 3)) (ae (m1 zq (ag 4)) (pure [])))) (ae (cj (ae (ag 4) (ae (ag 3) (pure [])))) (pure []))))))
  (aJ (c8 9 (ae (cj (ae (m2 cC (m2 cC (lY (ag 3) (pure none) ((ag 6) >>= mV)) (cj (ae (ag 7) (pure [])))) (lY (ag 3) ((m2 dk (ag 6) (pure (.int 1))) >>= mV) (pure none))) (ae (ag 4) (pure [])))) (pure [])))
  (aJ (c8 9 (ae (cj (ae (ag 3) (ae (m2 cC (m2 cC (lY (ag 4) (pure none) ((ag 6) >>= mV)) (cj (ae (ag 8) (pure [])))) (lY (ag 4) ((m2 dk (ag 6) (pure (.int 1))) >>= mV) (pure none))) (pure [])))) (pure [])))
  (aJ (c8 9 (ae (cj (ae (m2 cC (lY (ag 3) (pure none) ((ag 6) >>= mV)) (lY (ag 3) ((m2 dk (ag 6) (pure (.int 1))) >>= mV) (pure none))) (ae (m2 cC (lY (ag 4) (pure none) ((ag 6) >>= mV)) (lY (ag 4) ((m2 dk (ag 6) (pure (.int 1))) >>= mV) (pure none))) (pure [])))) (pure [])))
  (aJ (t_ 9 (ma kh (pV 9) (do let x <- (do let xs <- (cK (ae (cj (ae (do let xs <- (mC dList (ae (ag 3) (pure []))); pure (D.lst xs)) (ae (ag 4) (pure [])))) (ae (do let xs <- (cK (ae (ag 3) (ae (ag 4) (pure [])))); pure (D.lst xs)) (ae (cj (ae (ag 3) (ae (ag 5) (pure [])))) (ae (ag 5) (ae (cj (ae (ag 3) (ae (ag 4) (ae (cj (pure [])) (pure []))))) (ae (cj (ae (ag 3) (ae (ag 3) (pure [])))) (pure [])))))))); pure (D.lst xs)); pure (Hn.th x))))
  (aJ (c8 9 (ae (cj (ae (m2 cC (ag 3) (lY (ag 3) (pure none) ((pure (.int 1)) >>= mV))) (ae (m2 cC (ag 4) (lY (ag 4) (pure none) ((pure (.int 1)) >>= mV))) (pure [])))) (pure [])))
  (aJ (c8 9 (ae (cj (ae (m2 cC (m2 cC (lY (ag 3) (pure none) ((ag 6) >>= mV)) (cj (ae (ag 5) (pure [])))) (lY (ag 3) ((m2 dk (ag 6) (pure (.int 1))) >>= mV) (pure none))) (ae (ag 4) (pure [])))) (pure [])))
  (do let d <- (pW 9 (do let _ <- aI 0; cf 0 2 (bz cv cq) (ae (pure (.int 14)) (pure [])))); pure (Fl.rt d))))))))))))))
variable (P w K mg base) in
abbrev iG (k:Nat):Prop:=Kn P w K mg base du k "_law_bent" ["_law_box_here","_law_layout_here","_law_thing"] (vP 3 (bz rq o4))
theorem FE {k:Nat} (E:Ent K mg "_law_bent" ["_law_box_here","_law_layout_here","_law_thing"] zF) (m:Bi mg) (G_q28:gI P w K mg base k) (G_q16:cu P w K mg base k):iG P w K mg base (k + 1) :=
 BJ E gR fun _ cdv A outer s H E hr =>
  (ah (kr (ab 2) (eJ (bp (aw 3 gR.nd) (bp (aw 4 gR.nd) dD))))
  (ah (bu 5 gR.nd (ay 0 G_q28 hr af))
  (ah (bu 6 gR.nd (ay 0 G_q16 hr (aa (bG m.len (aa (ab 3) af)) af)))
  (ah (bu 7 gR.nd (ay 0 G_q16 hr (aa (bG m.len (aa (aB (ab 1) ak) af)) af)))
  (ah (bu 8 gR.nd (ay 0 G_q16 hr (aa (aB (ab 1) ak) af)))
  (ah (eO 9 gR.nd (bh (aa (aW (aa (cV (bJ (ab 3) (b5 ak) b_) (bJ (ab 3) b_ (b5 ak))) (aa (cV (bJ (ab 4) (b5 ak) b_) (bJ (ab 4) b_ (b5 ak))) af))) (aa (aW (aa (xB (ab 3)) (aa (xB (ab 4)) af))) (aa (aW (aa (ab 4) (aa (ab 3) af))) af)))))
  (ah (c6 9 (aa (aW (aa (cV (cV (bJ (ab 3) b_ (b5 (ab 6))) (aW (aa (ab 7) af))) (bJ (ab 3) (b5 (cY (ab 6) ak)) b_)) (aa (ab 4) af))) af))
  (ah (c6 9 (aa (aW (aa (ab 3) (aa (cV (cV (bJ (ab 4) b_ (b5 (ab 6))) (aW (aa (ab 8) af))) (bJ (ab 4) (b5 (cY (ab 6) ak)) b_)) af))) af))
  (ah (c6 9 (aa (aW (aa (cV (bJ (ab 3) b_ (b5 (ab 6))) (bJ (ab 3) (b5 (cY (ab 6) ak)) b_)) (aa (cV (bJ (ab 4) b_ (b5 (ab 6))) (bJ (ab 4) (b5 (cY (ab 6) ak)) b_)) af))) af))
  (ah (eO 9 gR.nd (m_ (j6 9) (fI (az (bh (aa (aW (aa (az (uZ m.list (aa (ab 3) af))) (aa (ab 4) af))) (aa (az (bh (aa (ab 3) (aa (ab 4) af)))) (aa (aW (aa (ab 3) (aa (ab 5) af))) (aa (ab 5) (aa (aW (aa (ab 3) (aa (ab 4) (aa (aW af) af)))) (aa (aW (aa (ab 3) (aa (ab 3) af))) af)))))))))))
  (ah (c6 9 (aa (aW (aa (cV (ab 3) (bJ (ab 3) b_ (b5 ak))) (aa (cV (ab 4) (bJ (ab 4) b_ (b5 ak))) af))) af))
  (ah (c6 9 (aa (aW (aa (cV (cV (bJ (ab 3) b_ (b5 (ab 6))) (aW (aa (ab 5) af))) (bJ (ab 3) (b5 (cY (ab 6) ak)) b_)) (aa (ab 4) af))) af))
  (aq (aQ (kb 9 (ay 0 G_q16 hr (aa ak af)))))))))))))))))
abbrev zy:Stmt:=top 44
abbrev i8:List Str:=["_law_layout_here","_law_heads","_law_turn","_law_some","_law_nests"]
theorem kG:aH i8 ["_law_layout_here"] (ao zy):=⟨rfl,rfl,rfl,by decide +kernel,rfl,by decide +kernel,by decide +kernel⟩
def qq:M Fl :=
 (aJ (dY 1 (do let xs <- (mC dList (ae (m2 cQ (ag 0) (pure (.int 1))) (pure []))); pure (D.lst xs)))
  (aJ (
  do let it <- (do let x <- (do let xs <- (mC (aG 1 (eL qN yK)) (ae (ag 0) (pure []))); pure (D.lst xs)); lift (aF x)); forM (aY 2) (aJ (dY 3 (do let xs <- (aU 5 1 (mC cZ (ae (m2 cQ (ag 0) (pure (.int 0))) (pure []))) (aZ (aY 5) ((m2 (i_ true) (do let xs <- (aU 6 1 (do let x <- (ag 1); lift (aF x)) (aZ (aY 6) (m2 (i7 false) (ag 5) (ag 6) >>= cx) (ag 6))); pure (D.lst xs)) (do let xs <- (cK (pure [])); pure (D.lst xs))) >>= cx) (ag 5))); pure (D.lst xs)))
  (aJ (dY 4 (do let xs <- (aU 5 1 (do let x <- (ag 3); lift (aF x)) (aZ (aY 5) (do let x <- (mC (aG 2 (bf nU yY)) (ae (ag 1) (ae (ag 5) (pure [])))); lift (cm x)) (ag 5))); pure (D.lst xs)))
  (aJ (fT ((m2 (i_ false) (ag 4) (do let xs <- (cK (pure [])); pure (D.lst xs))) >>= cx) (do let d <- (pure (.bl false)); pure (Fl.rt d)) (pure .nx))
  (dY 1 (do let xs <- (mC (aG 2 (eL kX r0)) (ae (ag 1) (ae (m2 cQ (ag 4) (m1 h9 (pure (.int 1)))) (pure [])))); pure (D.lst xs)))))) it.2 it.1)
  (do let d <- (pure (.bl true)); pure (Fl.rt d))))
variable (P w K mg base) in
abbrev hX (k:Nat):Prop:=Kn P w K mg base du k "_law_goes" ["_law_layout_here"] (jw 1 (bf i8 qq))
theorem E_ {k:Nat} (E:Ent K mg "_law_goes" ["_law_layout_here"] zy) (m:Bi mg) (G_q6:ff P w K mg base k) (G_q5:fg P w K mg base k) (G_q14:gP P w K mg base k):hX P w K mg base (k + 1) :=
 oV E kG fun _ cdv A outer s H E hr =>
  (ah (bu 1 kG.nd (az (uZ m.list (aa (aB (ab 0) ak) af))))
  (ah (dN (bK (az (fZ G_q6 hr (aa (ab 0) af)))) (aw 2 kG.nd) (ah (dC 3 kG.nd (N':=i8) (own:=["_law_column"]) (lo:=5) (bT (bH rfl m.range (aa (aB (ab 0) ak) af))) (fun _ _ _ _ => (aw 5 (show (i8 ++ (["_law_column"]:List Str):List Str).Nodup by decide +kernel))) (fun _ _ _ _ => bF (gY hr (az (bw (N':=(i8 ++ (["_law_column"]:List Str))) (own:=["_law_head_here"]) (lo:=6) (bT (bK (ab 1))) (fun _ _ _ _ => (aw 6 (show ((i8 ++ (["_law_column"]:List Str)) ++ (["_law_head_here"]:List Str):List Str).Nodup by decide +kernel))) (fun _ _ _ _ => bF (iE (ab 5) (ab 6))) (fun _ _ _ _ => (ab 6)))) (az (bh af)))) (fun _ _ _ _ => (ab 5)))
  (ah (dC 4 kG.nd (N':=i8) (own:=["_law_column"]) (lo:=5) (bT (bK (ab 3))) (fun _ _ _ _ => (aw 5 (show (i8 ++ (["_law_column"]:List Str):List Str).Nodup by decide +kernel))) (fun _ _ _ _ => bF (cz (ba G_q5 hr (aa (ab 1) (aa (ab 5) af))))) (fun _ _ _ _ => (ab 5)))
  (ah (cp (x8 hr (ab 4) (az (bh af))) (aq (aQ dj)) bg)
  (aq (bu 1 kG.nd (az (fZ G_q14 hr (aa (ab 1) (aa (aB (ab 4) (kv ak)) af))))))))))
  (aq (aQ dj))))
abbrev qt:Stmt:=top 45
abbrev y4:List Str:=["_law_script","_law_k","_law_box_here","_law_layout_here","_law_found","_law_thing","_law_things","_law_some","_law_told"]
theorem gQ:aH y4 ["_law_script"] (ao qt):=⟨rfl,rfl,rfl,by decide +kernel,rfl,by decide +kernel,by decide +kernel⟩
def uG:M Fl :=
 (aJ (
  do let it <- (mC cZ (ae (mC qF (ae (pure (.int 1)) (ae (mC nj (ae (mC br (ae (ag 0) (pure []))) (ae (pure (.int 5)) (pure [])))) (pure [])))) (pure []))); forM (aY 1) (aJ (t_ 2 (mC (aG 2 (eL qA o5)) (ae (ag 0) (ae (ag 1) (pure [])))))
  (aJ (dY 3 (do let _ <- aI 2; cf 2 3 (bz qo xI) (ae (pure (.int 7)) (ae (pure (.int 6)) (pure [])))))
  (aJ (dY 4 (mC (aG 1 (bf oX mZ)) (ae (ag 3) (pure []))))
  (aJ (fT (oT ((m2 (i_ true) (m2 (jX false) (ag 4) (pure .non)) (mC (aG 1 (bf i8 qq)) (ae (ag 3) (pure [])))) >>= cx) (my (m2 (jX true) (ag 4) (pure .non) >>= cx) (fQ (do let x <- (mC (aG 2 (bf rP tU)) (ae (ag 3) (ae (ag 4) (pure [])))); lift (cm x))))) (do let d <- (pure (.bl false)); pure (Fl.rt d)) (pure .nx))
  (aJ (dY 5 (do let _ <- aI 2; cf 2 2 (bz lh wY) (ae (ag 3) (pure []))))
  (aJ (dY 6 (do let xs <- (cK (ae (ag 5) (ae (do let _ <- aI 2; cf 2 3 (bz rq o4) (ae (ag 3) (ae (ag 5) (pure [])))) (ae (ag 4) (ae (do let _ <- aI 2; cf 2 3 (bz rq o4) (ae (ag 3) (ae (GP (ag 4) (ag 5)) (pure [])))) (pure [])))))); pure (D.lst xs)))
  (
  do let it <- (do let x <- (do let xs <- (ma kh (do let x <- (ag 6); pure (Hn.th x)) (do let x <- (do let xs <- (cK (ae (do let _ <- aI 2; cf 2 1 (bz ot l_) (pure [])) (pure []))); pure (D.lst xs)); pure (Hn.th x))); pure (D.lst xs)); lift (aF x)); forM (aY 7) (aJ (dY 8 (mC (aG 2 (bf l8 pg)) (ae (ag 3) (ae (ag 7) (pure [])))))
  (fT (oT (fQ (do let x <- (jl .bool (ag 8)); lift (cm x))) ((m2 (i_ true) (ag 8) (mC (aG 2 (bf rP tU)) (ae (ag 3) (ae (ag 7) (pure []))))) >>= cx)) (do let d <- (pure (.bl false)); pure (Fl.rt d)) (pure .nx))) it.2 it.1))))))) it.2 it.1)
  (do let d <- (pure (.bl true)); pure (Fl.rt d)))
theorem GW {k:Nat} (m:Bi mg) (G_q23:iG P w K mg base k) (G_q31:jo P w K mg base k) (G_q1:dG P w K mg base k) (G_q17:hX P w K mg base k) (G_q3:d_ P w K mg base k) (G_q9:fM P w K mg base k) (G_q28:gI P w K mg base k) (G_q19:g8 P w K mg base k) (G_q18:gZ P w K mg base k) (f:Addr) (cdv:Value) (A:Around) (outer:List Env) (s:Shared) (H:Hp) (E:XK) (hr:c5 k (A.deeper (PyProof.Rows.envOfC "law" (ao qt) s.heap.objs.size f cdv))):sx (jW du P w K mg base y4 "law" (ao qt) f cdv A outer s H E).nox (cF qt) uG :=
  (ah (dN (bH rfl m.range (aa (ze m.max (aa ak (aa (tV m.min (aa (bG m.len (aa (ab 0) af)) (aa ak af))) af))) af)) (aw 1 gQ.nd) (ah (eO 2 gQ.nd (fZ G_q31 hr (aa (ab 0) (aa (ab 1) af))))
  (ah (bu 3 gQ.nd (ay 2 G_q9 hr (aa ak (aa ak af))))
  (ah (bu 4 gQ.nd (ba G_q18 hr (aa (ab 3) af)))
  (ah (cp (gF (fV (gY hr (EC (ab 4) gH) (ba G_q17 hr (aa (ab 3) af))) (eI (gF (iA (pw (ab 4) gH) (gN (d9 (cz (ba G_q3 hr (aa (ab 3) (aa (ab 4) af))))))))))) (aq (aQ dj)) bg)
  (ah (bu 5 gQ.nd (ay 2 G_q1 hr (aa (ab 3) af)))
  (ah (bu 6 gQ.nd (az (bh (aa (ab 5) (aa (ay 2 G_q23 hr (aa (ab 3) (aa (ab 5) af))) (aa (ab 4) (aa (ay 2 G_q23 hr (aa (ab 3) (aa (Gn (ab 4) (j9 (ab 5))) af))) af)))))))
  (aq (dN (bK (az (m_ (fI (ab 6)) (fI (az (bh (aa (ay 2 G_q28 hr af) af))))))) (aw 7 gQ.nd) (ah (bu 8 gQ.nd (ba G_q19 hr (aa (ab 3) (aa (ab 7) af))))
  (aq (cp (gF (fV (d9 (cz (gJ .bool m.isinstance m.bool (ab 8)))) (eI (gY hr (ab 8) (ba G_q3 hr (aa (ab 3) (aa (ab 7) af))))))) (aq (aQ dj)) bg))))))))))))
  (aq (aQ dj)))
end
end K42
namespace K42
section
variable (F:Nat -> List Int)
def e9 (ls:List Nat) (a b:Int):Prop:=∃ i ∈ ls,a ∈ F i ∧ b ∈ F i
structure J1 (ls:List Nat) (C:List Int):Prop where
 n:3 ≤ C.length
 nd:C.Nodup
 cl:∀ a ∈ C,∀ b ∈ C,a ≠ b -> e9 F ls a b
 out:∀ i ∈ ls,∃ a ∈ C,a ∉ F i
def iw:List Int -> List (Int × Int)
 | a :: b :: r => (a,b) :: iw (b :: r)
 | _ => []
def Nb (C:List Int) (x y:Int):Prop:=(x,y) ∈ iw (C ++ C.take 1) ∨ (y,x) ∈ iw (C ++ C.take 1)
structure Ring (ls:List Nat) (C:List Int):Prop where
 n:4 ≤ C.length
 nd:C.Nodup
 nb:∀ x ∈ C,∀ y ∈ C,x ≠ y -> (e9 F ls x y ↔ Nb C x y)
def Ic (ls:List Nat):Prop:=∃ C,J1 F ls C ∨ Ring F ls C
structure Kc (ls:List Nat) (e h:Nat):Prop where
 me:e ∈ ls
 mh:h ∈ ls
 ne:e ≠ h
 sh:∀ c ∈ F e,(∃ o ∈ ls,o ≠ e ∧ c ∈ F o) -> c ∈ F h
end
variable {F:Nat -> List Int} {ls:List Nat}
theorem e9.symm {a b:Int} (h:e9 F ls a b):e9 F ls b a:=let ⟨i,hi,h1,h2⟩:=h; ⟨i,hi,h2,h1⟩
theorem f_ {a b:Int} {r:List Int}:iw (a :: b :: r) = (a,b) :: iw (b :: r):=rfl
theorem p6:∀ (l:List Int) (y z:Int),iw (l ++ [y] ++ [z]) = iw (l ++ [y]) ++ [(y,z)]
 | [],y,z => rfl
 | [a],y,z => rfl
 | a :: b :: r,y,z => by
  have:=p6 (b :: r) y z
  show (a,b) :: iw (b :: r ++ [y] ++ [z]) = (a,b) :: iw (b :: r ++ [y]) ++ [(y,z)]
  rw [this]; rfl
theorem lG:∀ {l:List Int} {x y:Int},(x,y) ∈ iw l -> x ∈ l ∧ y ∈ l
 | a :: b :: r,x,y,h => by
  rw [f_] at h
  rcases List.mem_cons.mp h with e | h
  ·cases e; exact ⟨List.mem_cons_self,List.mem_cons_of_mem _ List.mem_cons_self⟩
  ·have:=lG h
   exact ⟨List.mem_cons_of_mem _ this.1,List.mem_cons_of_mem _ this.2⟩
 | [],_,_,h => nomatch h
 | [_],_,_,h => nomatch h
def rO (adj:Int -> Int -> Prop) (T:Int -> Prop):List Int -> Prop
 | [] => False
 | [y] => T y
 | a :: b :: r => ¬ T a ∧ adj a b ∧ (∀ c ∈ r,¬ adj a c) ∧ a ∉ b :: r ∧ rO adj T (b :: r)
section
variable {adj:Int -> Int -> Prop} {T:Int -> Prop}
theorem rO.suf:∀ {l:List Int},rO adj T l -> ∀ {m:List Int},m ≠ [] -> m <:+ l -> rO adj T m
 | [],h,m,hm,hs => absurd (List.suffix_nil.mp hs) hm
 | [y],h,m,hm,hs => by
  rcases List.suffix_cons_iff.mp hs with e | e
  ·rw [e]; exact h
  ·exact absurd (List.suffix_nil.mp e) hm
 | a :: b :: r,h,m,hm,hs => by
  rcases List.suffix_cons_iff.mp hs with e | e
  ·rw [e]; exact h
  ·exact rO.suf h.2.2.2.2 hm e
theorem qW (P:Int -> Prop):∀ {l:List Int} {c:Int},c ∈ l -> P c -> ∃ b t,b :: t <:+ l ∧ P b ∧ ∀ c ∈ t,¬ P c:= by
 intro l
 induction l with
 | nil => intro c h; cases h
 | cons a r ih =>
  intro c hc hp
  by_cases h:∃ d ∈ r,P d
  ·obtain ⟨d,hd,pd⟩:=h
   obtain ⟨b,t,hs,pb,ht⟩:=ih hd pd
   exact ⟨b,t,hs.trans (List.suffix_cons _ _),pb,ht⟩
  ·refine ⟨a,r,List.suffix_refl _,?_,fun d hd pd => h ⟨d,hd,pd⟩⟩
   rcases List.mem_cons.mp hc with e | hr
   ·exact e ▸ hp
   ·exact absurd ⟨c,hr,hp⟩ h
inductive nr (adj:Int -> Int -> Prop) (K:Int -> Prop):Int -> Int -> Prop
 | refl {x:Int}:K x -> nr adj K x x
 | step {x w y:Int}:K x -> adj x w -> nr adj K w y -> nr adj K x y
theorem nr.k {K:Int -> Prop} {x y:Int} (h:nr adj K x y):K x:=by cases h <;> assumption
theorem nr.k2 {K:Int -> Prop} {x y:Int} (h:nr adj K x y):K y:= by
 induction h with
 | refl k => exact k
 | step _ _ _ ih => exact ih
theorem nr.trans {K:Int -> Prop} {x y z:Int} (h:nr adj K x y) (g:nr adj K y z):nr adj K x z:= by
 induction h with
 | refl _ => exact g
 | step k a _ ih => exact .step k a (ih g)
theorem nr.symm {K:Int -> Prop} (sy:∀ a b,adj a b -> adj b a) {x y:Int} (h:nr adj K x y):nr adj K y x:= by
 induction h with
 | refl k => exact .refl k
 | step k a g ih => exact ih.trans (.step g.k (sy _ _ a) (.refl k))
theorem Gm {K:Int -> Prop} {x y:Int} (h:nr adj K x y):T y -> ∃ l,rO adj T (x :: l) ∧ ∀ c ∈ x :: l,K c:= by
 induction h with
 | refl k => exact fun t => ⟨[],t,fun c hc => by rw [List.mem_singleton.mp hc]; exact k⟩
 | @step x w y k a g ih =>
  intro t
  obtain ⟨l,hi,hk⟩:=ih t
  by_cases tx:T x
  ·exact ⟨[],tx,fun c hc => by rw [List.mem_singleton.mp hc]; exact k⟩
  by_cases hx:x ∈ w :: l
  ·obtain ⟨p,q,e⟩:=List.append_of_mem hx
   have hs:x :: q <:+ w :: l:=⟨p,e.symm⟩
   exact ⟨q,hi.suf (by simp) hs,fun c hc => hk c (hs.subset hc)⟩
  ·obtain ⟨b,u,hs,pb,hu⟩:=qW (adj x) (l:=w :: l) List.mem_cons_self a
   refine ⟨b :: u,⟨tx,pb,hu,fun z => hx (hs.subset z),hi.suf (by simp) hs⟩,fun c hc => ?_⟩
   rcases List.mem_cons.mp hc with e | hc
   ·rw [e]; exact k
   ·exact hk c (hs.subset hc)
theorem rO.last:∀ {l:List Int},rO adj T l -> ∃ m y,l = m ++ [y] ∧ T y ∧ ∀ c ∈ m,¬ T c
 | [],h => h.elim
 | [y],h => ⟨[],y,rfl,h,fun _ z => nomatch z⟩
 | a :: b :: r,h => by
  obtain ⟨m,y,e,ty,hm⟩:=rO.last h.2.2.2.2
  refine ⟨a :: m,y,by rw [e]; rfl,ty,fun c hc => ?_⟩
  rcases List.mem_cons.mp hc with rfl | hc
  ·exact h.1
  ·exact hm c hc
theorem rO.nodup:∀ {l:List Int},rO adj T l -> l.Nodup
 | [],h => h.elim
 | [y],_ => by simp
 | a :: b :: r,h => List.nodup_cons.mpr ⟨h.2.2.2.1,rO.nodup h.2.2.2.2⟩
theorem rO.nb (sy:∀ a b,adj a b -> adj b a):∀ {l:List Int},rO adj T l -> ∀ x ∈ l,∀ y ∈ l,x ≠ y -> (adj x y ↔ ((x,y) ∈ iw l ∨ (y,x) ∈ iw l))
 | [],h,_,_,_,_,_ => h.elim
 | [z],_,x,hx,y,hy,n => absurd ((List.mem_singleton.mp hx).trans (List.mem_singleton.mp hy).symm) n
 | a :: b :: r,h,x,hx,y,hy,n => by
  obtain ⟨_,h1,h2,h3,h4⟩:=h
  have ih:=rO.nb sy h4
  have away:∀ {u v:Int},(u,v) ∈ iw (b :: r) -> u ≠ a ∧ v ≠ a:=fun hm => ⟨fun e => h3 (e ▸ (lG hm).1),fun e => h3 (e ▸ (lG hm).2)⟩
  have first:∀ v ∈ b :: r,(adj a v ↔ ((a,v) ∈ iw (a :: b :: r) ∨ (v,a) ∈ iw (a :: b :: r))):=fun v hv => by
   rw [f_]
   constructor
   ·intro av
    rcases List.mem_cons.mp hv with rfl | hv
    ·exact .inl List.mem_cons_self
    ·exact absurd av (h2 v hv)
   ·rintro (z | z)
    ·rcases List.mem_cons.mp z with e | z
     ·cases e; exact h1
     ·exact absurd rfl (away z).1
    ·rcases List.mem_cons.mp z with e | z
     ·cases e; exact absurd List.mem_cons_self h3
     ·exact absurd rfl (away z).2
  rcases List.mem_cons.mp hx with ex | hx'
  ·rcases List.mem_cons.mp hy with ey | hy'
   ·exact absurd (ex.trans ey.symm) n
   ·subst ex; exact first y hy'
  ·rcases List.mem_cons.mp hy with ey | hy'
   ·subst ey
    constructor
    ·intro z; exact ((first x hx').mp (sy _ _ z)).symm
    ·intro z; exact sy _ _ ((first x hx').mpr z.symm)
   ·rw [ih x hx' y hy' n,f_]
    have hxa:x ≠ a:=fun e => h3 (e ▸ hx')
    have hya:y ≠ a:=fun e => h3 (e ▸ hy')
    constructor
    ·rintro (z | z)
     ·exact .inl (List.mem_cons_of_mem _ z)
     ·exact .inr (List.mem_cons_of_mem _ z)
    ·rintro (z | z)
     ·rcases List.mem_cons.mp z with e | z
      ·cases e; exact absurd rfl hxa
      ·exact .inl z
     ·rcases List.mem_cons.mp z with e | z
      ·cases e; exact absurd rfl hya
      ·exact .inr z
end
end K42
namespace K42
variable {F:Nat -> List Int} {ls:List Nat}
theorem Nb.symm {C:List Int} {x y:Int} (h:Nb C x y):Nb C y x:=Or.symm h
theorem A4 {s s' b:Int} {t:List Int} (hi:rO (e9 F ls) (fun u => e9 F ls u s) (b :: t)) (hb:e9 F ls b s') (ht:∀ c ∈ t,¬ e9 F ls c s') (hne:t ≠ []) (hs:s ∉ b :: t) (hs':s' ∉ b :: t) (hd:s ≠ s') (hc:e9 F ls s s'):Ring F ls (s' :: (b :: t) ++ [s]):= by
 obtain ⟨m,y,e,ty,hm⟩:=hi.last
 have ed:iw ((s' :: (b :: t) ++ [s]) ++ (s' :: (b :: t) ++ [s]).take 1) = (s',b) :: iw (b :: t) ++ [(y,s)] ++ [(s,s')]:= by
  show iw ((s' :: (b :: t)) ++ [s] ++ [s']) = _
  rw [p6,e]
  show iw ((s' :: m) ++ [y] ++ [s]) ++ _ = _
  rw [p6]
  show iw (s' :: (m ++ [y])) ++ _ ++ _ = _
  rw [<- e,f_]
 have mem:∀ u v,(u,v) ∈ iw ((s' :: (b :: t) ++ [s]) ++ (s' :: (b :: t) ++ [s]).take 1) ↔ (u = s' ∧ v = b) ∨ (u,v) ∈ iw (b :: t) ∨ (u = y ∧ v = s) ∨ (u = s ∧ v = s'):=fun u v => by
  rw [ed]
  simp only [List.cons_append,List.mem_cons,List.mem_append,Prod.mk.injEq,List.not_mem_nil,or_false]
  constructor
  ·rintro (h | (h | h) | h)
   ·exact .inl h
   ·exact .inr (.inl h)
   ·exact .inr (.inr (.inl h))
   ·exact .inr (.inr (.inr h))
  ·rintro (h | h | h | h)
   ·exact .inl h
   ·exact .inr (.inl (.inl h))
   ·exact .inr (.inl (.inr h))
   ·exact .inr (.inr h)
 have hy:y ∈ b :: t:=by rw [e]; simp
 have hym:y ∉ m:= by
  have:=hi.nodup
  rw [e] at this
  have:=(List.nodup_append.mp this).2.2
  exact fun z => this y z y (by simp) rfl
 have P1:∀ u v,(u,v) ∈ iw (b :: t) -> u ∈ b :: t ∧ v ∈ b :: t:=fun u v => lG
 have hby:b ≠ y:= by
  rintro rfl
  cases m with
  | nil =>
   have:b :: t = [b]:=e
   simp at this
   exact hne this
  | cons a q =>
   have:b = a:=(List.cons.inj e).1
   exact hym (this ▸ List.mem_cons_self)
 have cs':∀ u ∈ b :: t,(e9 F ls u s' ↔ u = b):=fun u hu => by
  constructor
  ·intro z
   rcases List.mem_cons.mp hu with q | q
   ·exact q
   ·exact absurd z (ht u q)
  ·rintro rfl; exact hb
 have cs:∀ u ∈ b :: t,(e9 F ls u s ↔ u = y):=fun u hu => by
  constructor
  ·intro z
   rw [e] at hu
   rcases List.mem_append.mp hu with q | q
   ·exact absurd z (hm u q)
   ·exact List.mem_singleton.mp q
  ·rintro rfl; exact ty
 have g1:∀ u ∈ b :: t,(e9 F ls s' u ↔ Nb (s' :: (b :: t) ++ [s]) s' u):=fun u hu => by
  unfold Nb
  rw [mem,mem]
  constructor
  ·intro z; exact .inl (.inl ⟨rfl,(cs' u hu).mp z.symm⟩)
  ·rintro ((h | h | h | h) | (h | h | h | h))
   ·rw [h.2]; exact hb.symm
   ·exact absurd (P1 _ _ h).1 hs'
   ·exact absurd (h.1 ▸ hy) hs'
   ·exact absurd h.1.symm hd
   ·exact absurd (h.1 ▸ hu) hs'
   ·exact absurd (P1 _ _ h).2 hs'
   ·exact absurd h.2.symm hd
   ·exact absurd (h.1 ▸ hu) hs
 have g2:∀ u ∈ b :: t,(e9 F ls u s ↔ Nb (s' :: (b :: t) ++ [s]) u s):=fun u hu => by
  unfold Nb
  rw [mem,mem]
  constructor
  ·intro z; exact .inl (.inr (.inr (.inl ⟨(cs u hu).mp z,rfl⟩)))
  ·rintro ((h | h | h | h) | (h | h | h | h))
   ·exact absurd (h.1 ▸ hu) hs'
   ·exact absurd (P1 _ _ h).2 hs
   ·rw [h.1]; exact ty
   ·exact absurd (h.1 ▸ hu) hs
   ·exact absurd h.1 hd
   ·exact absurd (P1 _ _ h).1 hs
   ·exact absurd (h.2 ▸ hu) hs
   ·exact absurd (h.2 ▸ hu) hs'
 have g3:e9 F ls s' s ↔ Nb (s' :: (b :: t) ++ [s]) s' s:= by
  unfold Nb
  rw [mem,mem]
  exact ⟨fun _ => .inr (.inr (.inr (.inr ⟨rfl,rfl⟩))),fun _ => hc.symm⟩
 have g4:∀ u ∈ b :: t,∀ v ∈ b :: t,u ≠ v -> (e9 F ls u v ↔ Nb (s' :: (b :: t) ++ [s]) u v):=fun u hu v hv n => by
  rw [hi.nb (fun _ _ => e9.symm) u hu v hv n]
  unfold Nb
  rw [mem,mem]
  constructor
  ·rintro (h | h)
   ·exact .inl (.inr (.inl h))
   ·exact .inr (.inr (.inl h))
  ·rintro ((h | h | h | h) | (h | h | h | h))
   ·exact absurd (h.1 ▸ hu) hs'
   ·exact .inl h
   ·exact absurd (h.2 ▸ hv) hs
   ·exact absurd (h.1 ▸ hu) hs
   ·exact absurd (h.1 ▸ hv) hs'
   ·exact .inr h
   ·exact absurd (h.2 ▸ hu) hs
   ·exact absurd (h.1 ▸ hv) hs
 have flip:∀ {u v:Int},(e9 F ls u v ↔ Nb (s' :: (b :: t) ++ [s]) u v) -> (e9 F ls v u ↔ Nb (s' :: (b :: t) ++ [s]) v u):=fun h => ⟨fun z => (h.mp z.symm).symm,fun z => (h.mpr z.symm).symm⟩
 have hl:0 < t.length:=List.length_pos_iff.mpr hne
 refine ⟨by simp; omega,?_,fun u hu v hv n => ?_⟩
 ·have n1:(s' :: (b :: t)).Nodup:=List.nodup_cons.mpr ⟨hs',hi.nodup⟩
  refine List.nodup_append.mpr ⟨n1,by simp,fun p hp q hq z => ?_⟩
  rw [List.mem_singleton.mp hq] at z
  subst z
  rcases List.mem_cons.mp hp with z | z
  ·exact hd z
  ·exact hs z
 ·have cas:∀ {u:Int},u ∈ s' :: (b :: t) ++ [s] -> u = s' ∨ u ∈ b :: t ∨ u = s:=fun {u} h => by
   rcases List.mem_append.mp h with h | h
   ·rcases List.mem_cons.mp h with h | h
    ·exact .inl h
    ·exact .inr (.inl h)
   ·exact .inr (.inr (List.mem_singleton.mp h))
  rcases cas hu with hu | hu | hu
  ·rcases cas hv with hv | hv | hv
   ·exact absurd (hu.trans hv.symm) n
   ·rw [hu]; exact g1 v hv
   ·rw [hu,hv]; exact g3
  ·rcases cas hv with hv | hv | hv
   ·rw [hv]; exact flip (g1 u hu)
   ·exact g4 u hu v hv n
   ·rw [hv]; exact g2 u hu
  ·rcases cas hv with hv | hv | hv
   ·rw [hu,hv]; exact flip g3
   ·rw [hu]; exact flip (g2 v hv)
   ·exact absurd (hu.trans hv.symm) n
theorem rl {α:Type} (P:α -> Prop) (f:α -> Nat) (B:Nat) (hb:∀ x,P x -> f x ≤ B):∀ (k:Nat) (x:α),P x -> B ≤ f x + k -> ∃ y,P y ∧ ∀ z,P z -> f z ≤ f y
 | 0,x,hx,h => ⟨x,hx,fun z hz => Nat.le_trans (hb z hz) h⟩
 | k + 1,x,hx,h => by
  by_cases g:∃ z,P z ∧ f x < f z
  ·obtain ⟨z,hz,hl⟩:=g
   exact rl P f B hb k z hz (by omega)
  ·exact ⟨x,hx,fun z hz => Nat.le_of_not_lt fun q => g ⟨z,hz,q⟩⟩
open Classical in
theorem Ae {P Q:Int -> Prop}:∀ {l:List Int},(∀ c ∈ l,P c -> Q c) -> ∀ {s:Int},s ∈ l -> ¬ P s -> Q s -> l.countP (fun c => decide (P c)) < l.countP (fun c => decide (Q c)):= by
 intro l
 induction l with
 | nil => intro _ s h; cases h
 | cons a r ih =>
  intro h s hs np q
  have mono:r.countP (fun c => decide (P c)) ≤ r.countP (fun c => decide (Q c)):=List.countP_mono_left fun c hc z => by simpa using h c (List.mem_cons_of_mem _ hc) (by simpa using z)
  rw [List.countP_cons,List.countP_cons]
  rcases List.mem_cons.mp hs with e | hs
  ·subst e
   simp only [np,q,decide_false,decide_true,if_true,Bool.false_eq_true,if_false]
   omega
  ·have:=ih (fun c hc => h c (List.mem_cons_of_mem _ hc)) hs np q
   by_cases pa:P a
   ·have qa:=h a List.mem_cons_self pa
    simp only [pa,qa,decide_true,if_true]
    omega
   ·simp only [pa,decide_false,Bool.false_eq_true,if_false]
    omega
section
variable (nb:¬ Ic F ls)
theorem Jw {r:Nat} (hr:r ∈ ls) (nb:¬ Ic F ls) {x0:Int} (hx0:x0 ∉ F r):∃ x,nr (e9 F ls) (fun c => c ∉ F r) x0 x ∧ ∀ s ∈ F r,(∃ y,nr (e9 F ls) (fun c => c ∉ F r) x0 y ∧ e9 F ls y s) -> e9 F ls x s:= by
 classical
 obtain ⟨x,hx,hmax⟩:=rl (fun x => nr (e9 F ls) (fun c => c ∉ F r) x0 x) (fun x => (F r).countP fun s => decide (e9 F ls x s)) (F r).length (fun _ _ => List.countP_le_length) (F r).length x0 (.refl hx0) (Nat.le_add_left _ _)
 refine ⟨x,hx,fun s hs ⟨y,hy,cy⟩ => Classical.byContradiction fun ncx => ?_⟩
 have rxy:=(hx.symm fun _ _ => e9.symm).trans hy
 obtain ⟨l,hi,hk⟩:=Gm (T:=fun u => e9 F ls u s) rxy cy
 obtain ⟨m,z,e,tz,hm⟩:=hi.last
 have rz:nr (e9 F ls) (fun c => c ∉ F r) x0 z:= by
  have go:∀ (l:List Int) (x:Int),rO (e9 F ls) (fun u => e9 F ls u s) (x :: l) -> (∀ c ∈ x :: l,c ∉ F r) -> ∀ z ∈ x :: l,nr (e9 F ls) (fun c => c ∉ F r) x z:= by
   intro l
   induction l with
   | nil => intro x _ hk z hz; rw [List.mem_singleton.mp hz]; exact .refl (hk x List.mem_cons_self)
   | cons b r' ih =>
    intro x hi hk z hz
    rcases List.mem_cons.mp hz with e | hz
    ·rw [e]; exact .refl (hk x List.mem_cons_self)
    ·exact .step (hk x List.mem_cons_self) hi.2.1 (ih b hi.2.2.2.2 (fun c hc => hk c (List.mem_cons_of_mem _ hc)) z hz)
  exact hx.trans (go l x hi hk z (by rw [e]; simp))
 obtain ⟨s',hs',c1,c2⟩:∃ s' ∈ F r,e9 F ls x s' ∧ ¬ e9 F ls z s':=Classical.byContradiction fun no => by
  have:=hmax z rz
  have lt:=Ae (P:=fun s => e9 F ls x s) (Q:=fun s => e9 F ls z s) (l:=F r) (fun c hc px => Classical.byContradiction fun q => no ⟨c,hc,px,q⟩) hs ncx tz
  exact absurd lt (Nat.not_lt.mpr this)
 obtain ⟨b,t,hsuf,pb,ht⟩:=qW (fun u => e9 F ls u s') (l:=x :: l) List.mem_cons_self c1
 have hz:z ∈ b :: t:= by
  obtain ⟨p,hp⟩:=hsuf
  have hl:(p ++ (b :: t)).getLast (by simp) = z:= by
   have:p ++ (b :: t) = m ++ [z]:=hp.trans e
   simp only [this,List.getLast_concat]
  have h2:(b :: t).getLast (by simp) = z:=by rw [<- hl,List.getLast_append_of_ne_nil]
  rw [<- h2]; exact List.getLast_mem _
 have hne:t ≠ []:= by
  rintro rfl
  rw [List.mem_singleton.mp hz] at c2
  exact c2 pb
 refine nb ⟨_,.inr (A4 (s:=s) (s':=s') (hi.suf (by simp) hsuf) pb ht hne (fun q => hk s (hsuf.subset q) hs) (fun q => hk s' (hsuf.subset q) hs') (fun q => ncx (q ▸ c1)) ⟨r,hr,hs,hs'⟩)⟩
end
end K42
namespace K42
variable {F:Nat -> List Int}
theorem yR:∀ {l:List Int} {a:Int},a ∈ l -> 2 ≤ l.length -> ∃ b ∈ l,(a,b) ∈ iw l ∨ (b,a) ∈ iw l
 | [],_,h,_ => nomatch h
 | [_],_,_,h => by simp at h
 | x :: y :: r,a,h,_ => by
  rw [f_]
  rcases List.mem_cons.mp h with rfl | h
  ·exact ⟨y,by simp,.inl List.mem_cons_self⟩
  ·rcases List.mem_cons.mp h with rfl | hr
   ·exact ⟨x,by simp,.inr List.mem_cons_self⟩
   ·obtain ⟨b,hb,z⟩:=yR (l:=y :: r) h (by have:=List.length_pos_of_mem hr; simp; omega)
    exact ⟨b,List.mem_cons_of_mem _ hb,z.imp (List.mem_cons_of_mem _) (List.mem_cons_of_mem _)⟩
theorem p_ {t:List Int}:∀ {l:List Int} {u v:Int},(u,v) ∈ iw l -> (u,v) ∈ iw (l ++ t)
 | a :: b :: r,u,v,h => by
  show (u,v) ∈ (a,b) :: iw (b :: r ++ t)
  rcases List.mem_cons.mp (show (u,v) ∈ (a,b) :: iw (b :: r) from h) with e | h
  ·rw [e]; exact List.mem_cons_self
  ·exact List.mem_cons_of_mem _ (p_ h)
 | [],_,_,h => nomatch h
 | [_],_,_,h => nomatch h
theorem ug:∀ {l:List Int} {u v:Int},l.Nodup -> (u,v) ∈ iw l -> u ≠ v
 | a :: b :: r,u,v,n,h => by
  rw [List.nodup_cons] at n
  rcases List.mem_cons.mp (show (u,v) ∈ (a,b) :: iw (b :: r) from h) with e | h
  ·cases e; exact fun q => n.1 (q ▸ List.mem_cons_self)
  ·exact ug n.2 h
 | [],_,_,_,h => nomatch h
 | [_],_,_,_,h => nomatch h
theorem Ring.next {ls:List Nat} {C:List Int} (R:Ring F ls C) {a:Int} (ha:a ∈ C):∃ b ∈ C,a ≠ b ∧ e9 F ls a b:= by
 obtain ⟨b,hb,z⟩:=yR ha (by have:=R.n; omega)
 have n:a ≠ b:=z.elim (ug R.nd) fun q => (ug R.nd q).symm
 exact ⟨b,hb,n,(R.nb a ha b hb n).mpr (z.imp p_ p_)⟩
theorem yC (hF:∀ i,(F i).Nodup):∀ (n:Nat) (ls:List Nat),ls.length ≤ n -> ls.Nodup -> ¬ Ic F ls -> ∀ r ∈ ls,2 ≤ ls.length -> ∃ e h,e ≠ r ∧ Kc F ls e h
 | 0,ls,hn,_,_,r,hr,h2 => by omega
 | n + 1,ls,hn,nd,nb,r,hr,h2 => by
  classical
  by_cases c1:∃ i ∈ ls,i ≠ r ∧ ∀ c ∈ F i,c ∈ F r
  ·obtain ⟨i,hi,ne,hs⟩:=c1
   exact ⟨i,r,ne,hi,hr,ne,fun c hc _ => hs c hc⟩
  obtain ⟨j,hj,hjr⟩:∃ j ∈ ls,j ≠ r:=Classical.byContradiction fun no => by
   have all:∀ x ∈ ls,x = r:=fun x hx => Classical.byContradiction fun q => no ⟨x,hx,q⟩
   match ls,nd,h2,all with
   | a :: b :: t,nd,_,all =>
    have e1:=all a List.mem_cons_self
    have e2:=all b (List.mem_cons_of_mem _ List.mem_cons_self)
    exact (List.nodup_cons.mp nd).1 (by rw [e1,<- e2]; exact List.mem_cons_self)
  obtain ⟨x0,hx0,nx0⟩:∃ x0 ∈ F j,x0 ∉ F r:=Classical.byContradiction fun no => c1 ⟨j,hj,hjr,fun c hc => Classical.byContradiction fun q => no ⟨c,hc,q⟩⟩
  let K:Int -> Prop:=fun c => nr (e9 F ls) (fun c => c ∉ F r) x0 c
  have kout:∀ c,K c -> c ∉ F r:=fun c h => h.k2
  have grow:∀ i ∈ ls,∀ c ∈ F i,K c -> ∀ d ∈ F i,d ∉ F r -> K d:=fun i hi c hc kc d hd nd => kc.trans (.step (kout c kc) ⟨i,hi,hc,hd⟩ (.refl nd))
  obtain ⟨x,kx,hap⟩:=Jw hr nb nx0
  let A:=ls.filter fun i => decide (∃ c ∈ F i,K c)
  have memA:∀ i,i ∈ A ↔ i ∈ ls ∧ ∃ c ∈ F i,K c:=fun i => by simp [A,List.mem_filter]
  have rA:r ∉ A:=fun h => by
   obtain ⟨_,c,hc,kc⟩:=(memA r).mp h
   exact kout c kc hc
  have inA:∀ i ∈ A,∀ c ∈ F i,c ∉ F r -> K c:=fun i hi c hc nc => by
   obtain ⟨h1,d,hd,kd⟩:=(memA i).mp hi
   exact grow i h1 d hd kd c hc nc
  have brd:∀ i ∈ A,∀ s ∈ F i,s ∈ F r -> e9 F ls x s:=fun i hi s hs hsr => by
   obtain ⟨h1,d,hd,kd⟩:=(memA i).mp hi
   exact hap s hsr ⟨d,kd,i,h1,hd,hs⟩
  let S:=(F r).filter fun s => decide (e9 F ls x s)
  have memS:∀ s,s ∈ S ↔ s ∈ F r ∧ e9 F ls x s:=fun s => by simp [S,List.mem_filter]
  obtain ⟨i0,hi0,hx,hS⟩:∃ i0 ∈ ls,x ∈ F i0 ∧ ∀ s ∈ S,s ∈ F i0:= by
   by_cases h3:2 ≤ S.length
   ·refine Classical.byContradiction fun no => nb ⟨x :: S,.inl ⟨by simp; omega,List.nodup_cons.mpr ⟨fun z => kout x kx ((memS x).mp z).1,(hF r).filter _⟩,fun a ha b hb n => ?_,fun i hi => ?_⟩⟩
    ·rcases List.mem_cons.mp ha with ea | ha
     ·rcases List.mem_cons.mp hb with eb | hb
      ·exact absurd (ea.trans eb.symm) n
      ·rw [ea]; exact ((memS b).mp hb).2
     ·rcases List.mem_cons.mp hb with eb | hb
      ·rw [eb]; exact ((memS a).mp ha).2.symm
      ·exact ⟨r,hr,((memS a).mp ha).1,((memS b).mp hb).1⟩
    ·refine Classical.byContradiction fun q => no ⟨i,hi,?_,fun s hs => ?_⟩
     ·exact Classical.byContradiction fun z => q ⟨x,List.mem_cons_self,z⟩
     ·exact Classical.byContradiction fun z => q ⟨s,List.mem_cons_of_mem _ hs,z⟩
   ·match hS:S,h3 with
    | [],_ =>
     have:∃ i ∈ ls,x ∈ F i:= by
      have g:nr (e9 F ls) (fun c => c ∉ F r) x x0:=kx.symm fun _ _ => e9.symm
      cases g with
      | refl _ => exact ⟨j,hj,hx0⟩
      | step _ a _ => obtain ⟨i,hi,h1,_⟩:=a; exact ⟨i,hi,h1⟩
     obtain ⟨i,hi,h1⟩:=this
     exact ⟨i,hi,h1,fun s hs => by cases hs⟩
    | [s],_ =>
     obtain ⟨i,hi,h1,h2⟩:=((memS s).mp List.mem_cons_self).2
     exact ⟨i,hi,h1,fun z hz => by rw [List.mem_singleton.mp hz]; exact h2⟩
    | _ :: _ :: _,h3 => exact absurd (by simp) h3
  have hiA:i0 ∈ A:=(memA i0).mpr ⟨hi0,x,hx,kx⟩
  have brd0:∀ i ∈ A,∀ s ∈ F i,s ∈ F r -> s ∈ F i0:=fun i hi s hs hsr => hS s ((memS s).mpr ⟨hsr,brd i hi s hs hsr⟩)
  have back:∀ a b i j,i ∈ A -> j ∈ A -> a ∈ F i -> b ∈ F j -> e9 F ls a b -> e9 F A a b:=fun a b i j hi hj ha hb ⟨k,hk,h1,h2⟩ => by
   by_cases na:a ∈ F r
   ·by_cases nb:b ∈ F r
    ·exact ⟨i0,hiA,brd0 i hi a ha na,brd0 j hj b hb nb⟩
    ·exact ⟨k,(memA k).mpr ⟨hk,b,h2,inA j hj b hb nb⟩,h1,h2⟩
   ·exact ⟨k,(memA k).mpr ⟨hk,a,h1,inA i hi a ha na⟩,h1,h2⟩
  have sub:∀ i ∈ A,i ∈ ls:=fun i h => ((memA i).mp h).1
  have up:∀ {a b:Int},e9 F A a b -> e9 F ls a b:=fun ⟨k,hk,h⟩ => ⟨k,sub k hk,h⟩
  have nbA:¬ Ic F A:= by
   rintro ⟨C,L | R⟩
   ·refine nb ⟨C,.inl ⟨L.n,L.nd,fun a ha b hb n => up (L.cl a ha b hb n),fun i hi => ?_⟩⟩
    by_cases hA:i ∈ A
    ·exact L.out i hA
    ·refine Classical.byContradiction fun no => ?_
     have allI:∀ a ∈ C,a ∈ F i:=fun a ha => Classical.byContradiction fun q => no ⟨a,ha,q⟩
     have home:∀ a ∈ C,∃ k ∈ A,a ∈ F k:=fun a ha => by
      have:∃ b ∈ C,a ≠ b:= by
       match C,L.n,L.nd,ha with
       | p :: q :: _,_,nd,ha =>
        by_cases e:a = p
        ·refine ⟨q,by simp,fun z => ?_⟩
         exact (List.nodup_cons.mp nd).1 (by rw [<- e,z]; simp)
        ·exact ⟨p,by simp,e⟩
      obtain ⟨b,hb,n⟩:=this
      obtain ⟨k,hk,h1,_⟩:=L.cl a ha b hb n
      exact ⟨k,hk,h1⟩
     have inr:∀ a ∈ C,a ∈ F r:=fun a ha => Classical.byContradiction fun q => by
      obtain ⟨k,hk,h1⟩:=home a ha
      exact hA ((memA i).mpr ⟨hi,a,allI a ha,inA k hk a h1 q⟩)
     obtain ⟨a,ha,na⟩:=L.out i0 hiA
     obtain ⟨k,hk,h1⟩:=home a ha
     exact na (brd0 k hk a h1 (inr a ha))
   ·refine nb ⟨C,.inr ⟨R.n,R.nd,fun a ha b hb n => ⟨fun z => ?_,fun z => up ((R.nb a ha b hb n).mpr z)⟩⟩⟩
    have home:∀ a ∈ C,∃ k ∈ A,a ∈ F k:=fun a ha => by
     obtain ⟨b,hb,n,z⟩:=R.next ha
     obtain ⟨k,hk,h1,_⟩:=z
     exact ⟨k,hk,h1⟩
    obtain ⟨i,hi,h1⟩:=home a ha
    obtain ⟨j,hj,h2⟩:=home b hb
    exact (R.nb a ha b hb n).mp (back a b i j hi hj h1 h2 z)
  by_cases one:∀ i ∈ A,i = i0
  ·refine ⟨i0,r,fun e => rA (e ▸ hiA),hi0,hr,fun e => rA (e ▸ hiA),fun c hc ⟨o,ho,no,hco⟩ => Classical.byContradiction fun nc => ?_⟩
   exact no (one o ((memA o).mpr ⟨ho,c,hco,inA i0 hiA c hc nc⟩))
  ·obtain ⟨i,hi,ni⟩:∃ i ∈ A,i ≠ i0:=Classical.byContradiction fun no => one fun i hi => Classical.byContradiction fun q => no ⟨i,hi,q⟩
   have len2:2 ≤ A.length:= by
    match hA:A,hi,hiA with
    | [],hi,_ => cases hi
    | [a],hi,h0 => exact absurd ((List.mem_singleton.mp hi).trans (List.mem_singleton.mp h0).symm) ni
    | _ :: _ :: _,_,_ => simp
   have lt:A.length < ls.length:= by
    have h1:=List.length_filter_le (fun i => decide (∃ c ∈ F i,K c)) ls
    rcases Nat.lt_or_eq_of_le h1 with z | z
    ·exact z
    ·exfalso
     have:A = ls:=(List.filter_sublist (l:=ls)).eq_of_length z
     exact rA (this ▸ hr)
   obtain ⟨e,h,ne,E⟩:=yC hF n A (by omega) (nd.filter _) nbA i0 hiA len2
   refine ⟨e,h,fun q => rA (q ▸ E.me),sub e E.me,sub h E.mh,E.ne,fun c hc ⟨o,ho,no,hco⟩ => ?_⟩
   by_cases nc:c ∈ F r
   ·exact E.sh c hc ⟨i0,hiA,fun q => ne q.symm,brd0 e E.me c hc nc⟩
   ·exact E.sh c hc ⟨o,(memA o).mpr ⟨ho,c,hco,inA e E.me c hc nc⟩,no,hco⟩
end K42
namespace K42
variable {F:Nat -> List Int} {ls:List Nat}
def cB (n i:Nat):Nat:=if i + 1 = n then 0 else i + 1
theorem uF:∀ {l:List Int} {x y:Int},(x,y) ∈ iw l ↔ ∃ i,l[i]? = some x ∧ l[i + 1]? = some y
 | [],x,y => by simp [iw]
 | [a],x,y => by simp [iw]
 | a :: b :: r,x,y => by
  rw [f_,List.mem_cons,uF (l:=b :: r)]
  constructor
  ·rintro (e | ⟨i,h1,h2⟩)
   ·cases e; exact ⟨0,rfl,rfl⟩
   ·exact ⟨i + 1,h1,h2⟩
  ·rintro ⟨i,h1,h2⟩
   cases i with
   | zero => left; simp at h1 h2; rw [h1,h2]
   | succ i => exact .inr ⟨i,h1,h2⟩
theorem uH {C:List Int} (hn:1 ≤ C.length) {x y:Int}:(x,y) ∈ iw (C ++ C.take 1) ↔ ∃ i,i < C.length ∧ C[i]? = some x ∧ C[cB C.length i]? = some y:= by
 rw [uF]
 have h1:(C.take 1).length = 1:=by rw [List.length_take]; omega
 constructor
 ·rintro ⟨i,e1,e2⟩
  have hi:i + 1 < (C ++ C.take 1).length:=(List.getElem?_eq_some_iff.mp e2).1
  rw [List.length_append,h1] at hi
  rw [List.getElem?_append_left (by omega)] at e1
  refine ⟨i,by omega,e1,?_⟩
  unfold cB
  by_cases e:i + 1 = C.length
  ·rw [if_pos e]
   rw [List.getElem?_append_right (by omega),e,Nat.sub_self,List.getElem?_take_of_lt (by omega)] at e2
   exact e2
  ·rw [if_neg e]
   rw [List.getElem?_append_left (by omega)] at e2
   exact e2
 ·rintro ⟨i,hi,e1,e2⟩
  refine ⟨i,by rw [List.getElem?_append_left hi]; exact e1,?_⟩
  unfold cB at e2
  by_cases e:i + 1 = C.length
  ·rw [if_pos e] at e2
   rw [List.getElem?_append_right (by omega),e,Nat.sub_self,List.getElem?_take_of_lt (by omega)]
   exact e2
  ·rw [if_neg e] at e2
   rw [List.getElem?_append_left (by omega)]
   exact e2
theorem get_inj {C:List Int} (nd:C.Nodup) {i j:Nat} {x:Int} (h1:C[i]? = some x) (h2:C[j]? = some x):i = j:= by
 obtain ⟨a,e1⟩:=List.getElem?_eq_some_iff.mp h1
 obtain ⟨b,e2⟩:=List.getElem?_eq_some_iff.mp h2
 exact (List.getElem_inj nd).mp (e1.trans e2.symm)
theorem tH {C:List Int} (nd:C.Nodup) (hn:1 ≤ C.length) {i j:Nat} {x y:Int} (h1:C[i]? = some x) (h2:C[j]? = some y):Nb C x y ↔ cB C.length i = j ∨ cB C.length j = i:= by
 have hi:=(List.getElem?_eq_some_iff.mp h1).1
 have hj:=(List.getElem?_eq_some_iff.mp h2).1
 unfold Nb
 rw [uH hn,uH hn]
 constructor
 ·rintro (⟨k,hk,e1,e2⟩ | ⟨k,hk,e1,e2⟩)
  ·have:=get_inj nd h1 e1
   subst this
   exact .inl (get_inj nd e2 h2)
  ·have:=get_inj nd h2 e1
   subst this
   exact .inr (get_inj nd e2 h1)
 ·rintro (e | e)
  ·exact .inl ⟨i,hi,h1,by rw [e]; exact h2⟩
  ·exact .inr ⟨j,hj,h2,by rw [e]; exact h1⟩
variable {e h:Nat}
abbrev AA (ls:List Nat) (e:Nat):List Nat:=ls.filter fun i => decide (i ≠ e)
theorem jF {i:Nat}:i ∈ AA ls e ↔ i ∈ ls ∧ i ≠ e:=by simp [AA,List.mem_filter]
end K42
namespace K42
structure Wf (F:Nat -> List Int) (ls:List Nat) (n:Nat) (h:Nat -> Nat) (c:Nat -> Int):Prop where
 n3:3 ≤ n
 inj:∀ i j,i < n -> j < n -> h i = h j -> i = j
 mem:∀ i,i < n -> h i ∈ ls
 a:∀ k,k < n -> c k ∈ F (h k)
 b:∀ k,k < n -> c k ∈ F (h (cB n k))
 only:∀ k,k < n -> ∀ j,j < n -> c k ∈ F (h j) -> j = k ∨ j = cB n k
def pG (F:Nat -> List Int) (ls:List Nat):Prop:=∃ n h c,Wf F ls n h c
variable {F:Nat -> List Int} {ls:List Nat}
theorem dh {n k:Nat} (h:k < n):cB n k < n:=by unfold cB; split <;> omega
def three {α:Type} (x y z:α):Nat -> α
 | 0 => x
 | 1 => y
 | _ => z
theorem J8 {x y z:Int} {p q r:Nat} (hp:p ∈ ls) (hq:q ∈ ls) (hr:r ∈ ls) (px:x ∈ F p) (py:y ∈ F p) (pz:z ∉ F p) (qx:x ∉ F q) (qy:y ∈ F q) (qz:z ∈ F q) (rx:x ∈ F r) (ry:y ∉ F r) (rz:z ∈ F r):pG F ls:= by
 refine ⟨3,three p q r,three y z x,Nat.le_refl _,?_,?_,?_,?_,?_⟩
 ·intro i j hi hj e
  have pq:p ≠ q:=fun z => qx (z ▸ px)
  have pr:p ≠ r:=fun z => ry (z ▸ py)
  have qr:q ≠ r:=fun z => qx (z ▸ rx)
  match i,j,hi,hj with
  | 0,0,_,_ => rfl
  | 1,1,_,_ => rfl
  | 2,2,_,_ => rfl
  | 0,1,_,_ => exact absurd e pq
  | 1,0,_,_ => exact absurd e.symm pq
  | 0,2,_,_ => exact absurd e pr
  | 2,0,_,_ => exact absurd e.symm pr
  | 1,2,_,_ => exact absurd e qr
  | 2,1,_,_ => exact absurd e.symm qr
 ·intro i hi
  match i,hi with
  | 0,_ => exact hp
  | 1,_ => exact hq
  | 2,_ => exact hr
 ·intro i hi
  match i,hi with
  | 0,_ => exact py
  | 1,_ => exact qz
  | 2,_ => exact rx
 ·intro i hi
  match i,hi with
  | 0,_ => exact qy
  | 1,_ => exact rz
  | 2,_ => exact px
 ·intro i hi j hj e
  match i,j,hi,hj with
  | 0,0,_,_ => exact .inl rfl
  | 0,1,_,_ => exact .inr rfl
  | 0,2,_,_ => exact absurd e ry
  | 1,0,_,_ => exact absurd e pz
  | 1,1,_,_ => exact .inl rfl
  | 1,2,_,_ => exact .inr rfl
  | 2,0,_,_ => exact .inr rfl
  | 2,1,_,_ => exact absurd e qx
  | 2,2,_,_ => exact .inl rfl
theorem vw:∀ (n:Nat) (C:List Int),C.length ≤ n -> J1 F ls C -> pG F ls
 | 0,C,hn,L => by have:=L.n; omega
 | n + 1,C,hn,L => by
  classical
  match C,hn,L with
  | [],_,L => have:=L.n; simp at this
  | [_],_,L => have:=L.n; simp at this
  | [_,_],_,L => have:=L.n; simp at this
  | x :: y :: z :: r,hn,L =>
   have nd:=L.nd
   have xy:x ≠ y:=fun e => by subst e; simp at nd
   have xz:x ≠ z:=fun e => by subst e; simp at nd
   have yz:y ≠ z:=fun e => by subst e; simp at nd
   by_cases all:∀ a ∈ x :: y :: z :: r,∃ i ∈ ls,∀ b ∈ x :: y :: z :: r,b ≠ a -> b ∈ F i
   ·have out:∀ a ∈ x :: y :: z :: r,∀ i ∈ ls,(∀ b ∈ x :: y :: z :: r,b ≠ a -> b ∈ F i) -> a ∉ F i:=fun a ha i hi hb q => by
     obtain ⟨w,hw,hn⟩:=L.out i hi
     by_cases e:w = a
     ·exact hn (e ▸ q)
     ·exact hn (hb w hw e)
    obtain ⟨p,hp,gp⟩:=all z (by simp)
    obtain ⟨q,hq,gq⟩:=all x (by simp)
    obtain ⟨t,ht,gt⟩:=all y (by simp)
    exact J8 hp hq ht (gp x (by simp) xz) (gp y (by simp) yz) (out z (by simp) p hp gp) (out x (by simp) q hq gq) (gq y (by simp) xy.symm) (gq z (by simp) xz.symm) (gt x (by simp) xy) (out y (by simp) t ht gt) (gt z (by simp) yz.symm)
   ·
    have ⟨a,ha,no⟩:∃ a ∈ x :: y :: z :: r,¬ ∃ i ∈ ls,∀ b ∈ x :: y :: z :: r,b ≠ a -> b ∈ F i:= by
     refine Classical.byContradiction fun q => all fun a ha => Classical.byContradiction fun w => q ⟨a,ha,w⟩
    have le:((x :: y :: z :: r).erase a).length = (x :: y :: z :: r).length - 1:=List.length_erase_of_mem ha
    have me:∀ b,b ∈ (x :: y :: z :: r).erase a ↔ b ≠ a ∧ b ∈ x :: y :: z :: r:=fun b => nd.mem_erase_iff
    by_cases h4:4 ≤ (x :: y :: z :: r).length
    ·refine vw n ((x :: y :: z :: r).erase a) (by omega) ⟨by omega,nd.erase a,fun u hu v hv ne => L.cl u ((me u).mp hu).2 v ((me v).mp hv).2 ne,fun i hi => ?_⟩
     refine Classical.byContradiction fun w => no ⟨i,hi,fun b hb ne => Classical.byContradiction fun nb => w ⟨b,(me b).mpr ⟨ne,hb⟩,nb⟩⟩
    ·
     exfalso
     have hr:r = []:= by
      cases r with
      | nil => rfl
      | cons s t => simp at h4
     subst hr
     have key:∀ u v:Int,u ∈ [x,y,z] -> v ∈ [x,y,z] -> u ≠ v -> (∀ b ∈ [x,y,z],b ≠ a -> b = u ∨ b = v) -> False:=fun u v hu hv ne hb => by
      obtain ⟨i,hi,h1,h2⟩:=L.cl u hu v hv ne
      exact no ⟨i,hi,fun b hb' n => (hb b hb' n).elim (fun e => e ▸ h1) fun e => e ▸ h2⟩
     simp only [List.mem_cons,List.not_mem_nil,or_false] at ha
     rcases ha with rfl | rfl | rfl
     ·exact key y z (by simp) (by simp) yz fun b hb n => by simp at hb; rcases hb with e | e | e; exact absurd e n; exact .inl e; exact .inr e
     ·exact key x z (by simp) (by simp) xz fun b hb n => by simp at hb; rcases hb with e | e | e; exact .inl e; exact absurd e n; exact .inr e
     ·exact key x y (by simp) (by simp) xy fun b hb n => by simp at hb; rcases hb with e | e | e; exact .inl e; exact .inr e; exact absurd e n
theorem Aq {C:List Int} (R:Ring F ls C):pG F ls:= by
 classical
 have h4:=R.n
 have hex:∀ k,∃ i,k < C.length -> i ∈ ls ∧ C.getD k 0 ∈ F i ∧ C.getD (cB C.length k) 0 ∈ F i:=fun k => by
  by_cases hk:k < C.length
  ·have hn:=dh hk
   have g1:C[k]? = some C[k]:=List.getElem?_eq_getElem hk
   have g2:C[cB C.length k]? = some C[cB C.length k]:=List.getElem?_eq_getElem hn
   have ne:C[k] ≠ C[cB C.length k]:=fun e => by
    have:=get_inj R.nd g1 (e ▸ g2)
    unfold cB at this
    split at this <;> omega
   obtain ⟨i,hi,h1,h2⟩:=(R.nb _ (List.getElem_mem hk) _ (List.getElem_mem hn) ne).mpr ((tH R.nd (by omega) g1 g2).mpr (.inl rfl))
   exact ⟨i,fun _ => ⟨hi,by simpa [hk] using h1,by simpa [hn] using h2⟩⟩
  ·exact ⟨0,fun h => absurd h hk⟩
 obtain ⟨h,hh⟩:=Classical.axiomOfChoice hex
 have two:∀ k j,k < C.length -> j < C.length -> C.getD k 0 ∈ F (h j) -> k = j ∨ k = cB C.length j:=fun k j hk hj hm => by
  obtain ⟨m1,m2,m3⟩:=hh j hj
  have hn:=dh hj
  refine Classical.byContradiction fun q => ?_
  have q1:k ≠ j:=fun e => q (.inl e)
  have q2:k ≠ cB C.length j:=fun e => q (.inr e)
  have gk:C[k]? = some (C.getD k 0):=by simp [hk]
  have gj:C[j]? = some (C.getD j 0):=by simp [hj]
  have gn:C[cB C.length j]? = some (C.getD (cB C.length j) 0):=by simp [hn]
  have mk:C.getD k 0 ∈ C:=List.mem_of_getElem? gk
  have mj:C.getD j 0 ∈ C:=List.mem_of_getElem? gj
  have mn:C.getD (cB C.length j) 0 ∈ C:=List.mem_of_getElem? gn
  have b1:=(tH R.nd (by omega) gk gj).mp ((R.nb _ mk _ mj fun e => q1 (get_inj R.nd gk (e ▸ gj))).mp ⟨h j,m1,hm,m2⟩)
  have b2:=(tH R.nd (by omega) gk gn).mp ((R.nb _ mk _ mn fun e => q2 (get_inj R.nd gk (e ▸ gn))).mp ⟨h j,m1,hm,m3⟩)
  clear gk gj gn hm m2 m3 m1 hh hex
  unfold cB at *
  split at b1 <;> split at b2 <;> (repeat' split at *) <;> omega
 refine ⟨C.length,h,fun k => C.getD (cB C.length k) 0,by omega,?_,fun i hi => (hh i hi).1,fun k hk => (hh k hk).2.2,fun k hk => (hh _ (dh hk)).2.1,?_⟩
 ·intro i j hi hj e
  have e1:=two (cB C.length i) j (dh hi) hj (e ▸ (hh i hi).2.2)
  have e2:=two (cB C.length j) i (dh hj) hi (e ▸ (hh j hj).2.2)
  unfold cB at e1 e2
  (repeat' split at *) <;> omega
 ·intro k hk j hj hm
  rcases two (cB C.length k) j (dh hk) hj hm with e | e
  ·exact .inr e.symm
  ·left
   unfold cB at e
   (repeat' split at *) <;> omega
theorem B2 (h:Ic F ls):pG F ls:= by
 obtain ⟨C,h | h⟩:=h
 ·exact vw C.length C (Nat.le_refl _) h
 ·exact Aq h
end K42
namespace K42
variable {F:Nat -> List Int} {ls:List Nat}
def v7 (F:Nat -> List Int) (ls:List Nat) (v:Int):Prop:=∀ i ∈ ls,∀ j ∈ ls,v ∈ F i -> v ∈ F j -> (∀ c ∈ F i,c ∈ F j) ∨ (∀ c ∈ F j,c ∈ F i)
theorem pG.mono {ms:List Nat} (h:pG F ms) (s:∀ i ∈ ms,i ∈ ls):pG F ls:= by
 obtain ⟨n,g,c,W⟩:=h
 exact ⟨n,g,c,W.n3,W.inj,fun i hi => s _ (W.mem i hi),W.a,W.b,W.only⟩
theorem Hu (F:Nat -> List Int):∀ ls:List Nat,∃ M:List Nat,M.Nodup ∧ (∀ m ∈ M,m ∈ ls) ∧ (∀ i ∈ ls,∃ m ∈ M,∀ c ∈ F i,c ∈ F m) ∧ ∀ a ∈ M,∀ b ∈ M,a ≠ b -> ¬ ∀ c ∈ F a,c ∈ F b
 | [] => ⟨[],List.nodup_nil,by simp,by simp,by simp⟩
 | i :: ls => by
  classical
  obtain ⟨M,nd,sub,up,inc⟩:=Hu F ls
  by_cases q:∃ m ∈ M,∀ c ∈ F i,c ∈ F m
  ·refine ⟨M,nd,fun m hm => List.mem_cons_of_mem _ (sub m hm),fun j hj => ?_,inc⟩
   rcases List.mem_cons.mp hj with rfl | hj
   ·exact q
   ·exact up j hj
  ·refine ⟨i :: M.filter (fun m => decide (¬ ∀ c ∈ F m,c ∈ F i)),?_,?_,?_,?_⟩
   ·refine List.nodup_cons.mpr ⟨fun h => ?_,nd.filter _⟩
    exact q ⟨i,(List.mem_filter.mp h).1,fun c hc => hc⟩
   ·intro m hm
    rcases List.mem_cons.mp hm with rfl | hm
    ·exact List.mem_cons_self
    ·exact List.mem_cons_of_mem _ (sub m (List.mem_filter.mp hm).1)
   ·intro j hj
    rcases List.mem_cons.mp hj with rfl | hj
    ·exact ⟨j,List.mem_cons_self,fun c hc => hc⟩
    ·obtain ⟨m,hm,hs⟩:=up j hj
     by_cases z:∀ c ∈ F m,c ∈ F i
     ·exact ⟨i,List.mem_cons_self,fun c hc => z c (hs c hc)⟩
     ·exact ⟨m,List.mem_cons_of_mem _ (List.mem_filter.mpr ⟨hm,decide_eq_true z⟩),hs⟩
   ·intro a ha b hb ne
    rcases List.mem_cons.mp ha with rfl | ha <;> rcases List.mem_cons.mp hb with rfl | hb
    ·exact absurd rfl ne
    ·exact fun z => q ⟨b,(List.mem_filter.mp hb).1,z⟩
    ·exact of_decide_eq_true (List.mem_filter.mp ha).2
    ·exact inc a (List.mem_filter.mp ha).1 b (List.mem_filter.mp hb).1 ne
def oj (F:Nat -> List Int) (ls:List Nat):Nat:=(ls.map fun i => (F i).length + 1).sum
theorem yg {F':Nat -> List Int} (h:∀ i,(F' i).length ≤ (F i).length):∀ ls:List Nat,oj F' ls ≤ oj F ls
 | [] => Nat.le_refl _
 | i :: ls => by
  have:=yg h ls
  have:=h i
  simp only [oj,List.map_cons,List.sum_cons] at *
  omega
theorem Aa {F':Nat -> List Int} (h:∀ i,(F' i).length ≤ (F i).length) {i:Nat} (hi:(F' i).length < (F i).length):∀ {ls:List Nat},i ∈ ls -> oj F' ls < oj F ls
 | j :: ls,hm => by
  have h1:=yg h ls
  have h2:=h j
  rcases List.mem_cons.mp hm with rfl | hm
  ·simp only [oj,List.map_cons,List.sum_cons] at *
   omega
  ·have h3:=Aa h hi hm
   simp only [oj,List.map_cons,List.sum_cons] at *
   omega
theorem vB {e:Nat}:∀ {ls:List Nat},e ∈ ls -> oj F (AA ls e) < oj F ls
 | j :: ls,hm => by
  classical
  have aux:∀ ks:List Nat,oj F (AA ks e) ≤ oj F ks:=fun ks => by
   induction ks with
   | nil => exact Nat.le_refl _
   | cons k ks ih =>
    unfold AA at *
    rw [List.filter_cons]
    split
    ·simp only [oj,List.map_cons,List.sum_cons] at *
     omega
    ·simp only [oj,List.map_cons,List.sum_cons] at *
     omega
  rcases List.mem_cons.mp hm with rfl | hm
  ·have h1:=aux ls
   unfold AA at *
   rw [List.filter_cons,if_neg (by simp)]
   simp only [oj,List.map_cons,List.sum_cons] at *
   omega
  ·have h1:=vB hm
   unfold AA at *
   rw [List.filter_cons]
   split
   ·simp only [oj,List.map_cons,List.sum_cons] at *
    omega
   ·simp only [oj,List.map_cons,List.sum_cons] at *
    omega
theorem filter_lt {p:Int -> Bool}:∀ {l:List Int} {x:Int},x ∈ l -> p x = false -> (l.filter p).length < l.length
 | y :: l,x,hx,hp => by
  have h1:=List.length_filter_le p l
  rw [List.filter_cons]
  rcases List.mem_cons.mp hx with rfl | hx
  ·rw [hp,if_neg Bool.false_ne_true,List.length_cons]; omega
  ·have:=filter_lt hx hp
   split <;> simp only [List.length_cons] <;> omega
theorem mF:∀ (n:Nat) (F:Nat -> List Int) (ls:List Nat),(∀ i,(F i).Nodup) -> oj F ls ≤ n -> ¬ pG F ls -> ∀ f ∈ ls,(∃ x,(∃ i ∈ ls,x ∈ F i) ∧ x ∉ F f) -> ∃ v,(∃ i ∈ ls,v ∈ F i) ∧ v ∉ F f ∧ v7 F ls v
 | 0,F,ls,_,hn,_,f,hf,_ => by
  cases ls with
  | nil => simp at hf
  | cons i ls => simp only [oj,List.map_cons,List.sum_cons] at hn; omega
 | n + 1,F,ls,hF,hn,nw,f,hf,⟨x,⟨i0,hi0,hx0⟩,hxf⟩ => by
  classical
  by_cases one:∃ e ∈ ls,∀ i ∈ ls,∀ c ∈ F i,c ∈ F e
  ·
   obtain ⟨e,he,all⟩:=one
   have fe:f ≠ e:=fun z => hxf (z ▸ all i0 hi0 x hx0)
   have hw:=vB (F:=F) he
   have sub:∀ i ∈ AA ls e,i ∈ ls:=fun i hi => (jF.mp hi).1
   by_cases q:∃ x,(∃ i ∈ AA ls e,x ∈ F i) ∧ x ∉ F f
   ·obtain ⟨v,⟨i,hi,hv⟩,hvf,N⟩:=mF n F (AA ls e) hF (by omega) (fun w => nw (w.mono sub)) f (jF.mpr ⟨hf,fe⟩) q
    refine ⟨v,⟨i,sub i hi,hv⟩,hvf,fun a ha b hb va vb => ?_⟩
    by_cases ea:a = e
    ·exact .inr fun c hc => ea ▸ all b hb c hc
    ·by_cases eb:b = e
     ·exact .inl fun c hc => eb ▸ all a ha c hc
     ·exact N a (jF.mpr ⟨ha,ea⟩) b (jF.mpr ⟨hb,eb⟩) va vb
   ·have only:∀ i ∈ ls,x ∈ F i -> i = e:=fun i hi hx => Classical.byContradiction fun ne => q ⟨x,⟨i,jF.mpr ⟨hi,ne⟩,hx⟩,hxf⟩
    refine ⟨x,⟨i0,hi0,hx0⟩,hxf,fun a ha b hb va vb => ?_⟩
    rw [only a ha va,only b hb vb]
    exact .inl fun c hc => hc
  ·
   obtain ⟨M,nd,sub,up,inc⟩:=Hu F ls
   obtain ⟨m,hm,hfm⟩:=up f hf
   have h2:2 ≤ M.length:= by
    match M,hm with
    | [m],hm =>
     exfalso
     refine one ⟨m,sub m (by simp),fun i hi c hc => ?_⟩
     obtain ⟨m',hm',hs⟩:=up i hi
     rw [List.mem_singleton.mp hm'] at hs
     exact hs c hc
    | _ :: _ :: _,_ => simp
   obtain ⟨e,g,em,E⟩:=yC hF M.length M (Nat.le_refl _) nd (fun b => nw ((B2 b).mono sub)) m hm h2
   obtain ⟨y,hye,hyg⟩:∃ y,y ∈ F e ∧ y ∉ F g:=Classical.byContradiction fun q => inc e E.me g E.mh E.ne fun c hc => Classical.byContradiction fun w => q ⟨c,hc,w⟩
   have dF:∀ i c,c ∈ (F i).filter (fun c => decide (c ∈ F e)) ↔ c ∈ F i ∧ c ∈ F e:=fun i c => by simp [List.mem_filter]
   obtain ⟨i1,hi1,c1,hc1,hc1e⟩:∃ i ∈ ls,∃ c ∈ F i,c ∉ F e:=Classical.byContradiction fun q => one ⟨e,sub e E.me,fun i hi c hc => Classical.byContradiction fun w => q ⟨i,hi,c,hc,w⟩⟩
   have hw:oj (fun i => (F i).filter fun c => decide (c ∈ F e)) ls < oj F ls:=Aa (fun i => List.length_filter_le _ _) (filter_lt hc1 (decide_eq_false hc1e)) hi1
   obtain ⟨v,⟨i,hi,hv⟩,hvg,N⟩:=mF n (fun i => (F i).filter fun c => decide (c ∈ F e)) ls (fun i => (hF i).filter _) (by omega) (fun ⟨k,h,c,W⟩ => nw ⟨k,h,c,W.n3,W.inj,W.mem,fun j hj => ((dF _ _).mp (W.a j hj)).1,fun j hj => ((dF _ _).mp (W.b j hj)).1,fun j hj l hl hc => W.only j hj l hl ((dF _ _).mpr ⟨hc,((dF _ _).mp (W.a j hj)).2⟩)⟩)
    g (sub g E.mh) ⟨y,⟨e,sub e E.me,(dF _ _).mpr ⟨hye,hye⟩⟩,fun z => hyg ((dF _ _).mp z).1⟩
   have ve:v ∈ F e:=((dF _ _).mp hv).2
   have vg:v ∉ F g:=fun z => hvg ((dF _ _).mpr ⟨z,ve⟩)
   have ine:∀ j ∈ ls,v ∈ F j -> ∀ c ∈ F j,c ∈ F e:=fun j hj hvj => by
    obtain ⟨m',hm',hs⟩:=up j hj
    by_cases z:m' = e
    ·exact z ▸ hs
    ·exact absurd (E.sh v ve ⟨m',hm',z,hs v hvj⟩) vg
   refine ⟨v,⟨i,hi,((dF _ _).mp hv).1⟩,fun z => vg (E.sh v ve ⟨m,hm,em.symm,hfm v z⟩),fun a ha b hb va vb => ?_⟩
   rcases N a ha b hb ((dF _ _).mpr ⟨va,ve⟩) ((dF _ _).mpr ⟨vb,ve⟩) with h | h
   ·exact .inl fun c hc => ((dF _ _).mp (h c ((dF _ _).mpr ⟨hc,ine a ha va c hc⟩))).1
   ·exact .inr fun c hc => ((dF _ _).mp (h c ((dF _ _).mpr ⟨hc,ine b hb vb c hc⟩))).1
theorem wq (hF:∀ i,(F i).Nodup) (nw:¬ pG F ls) {x:Int} {i0:Nat} (hi:i0 ∈ ls) (hx:x ∈ F i0):∃ v,(∃ i ∈ ls,v ∈ F i) ∧ v7 F ls v:= by
 classical
 by_cases q:∃ f ∈ ls,∃ x,(∃ i ∈ ls,x ∈ F i) ∧ x ∉ F f
 ·obtain ⟨f,hf,h⟩:=q
  obtain ⟨v,h1,_,h3⟩:=mF _ F ls hF (Nat.le_refl _) nw f hf h
  exact ⟨v,h1,h3⟩
 ·exact ⟨x,⟨i0,hi,hx⟩,fun a ha b hb _ _ => .inl fun c hc => Classical.byContradiction fun w => q ⟨b,hb,c,⟨a,ha,hc⟩,w⟩⟩
theorem Wf.no_nest {n:Nat} {h:Nat -> Nat} {c:Nat -> Int} (W:Wf F ls n h c) {k:Nat} (hk:k < n):¬ v7 F ls (c k):=fun N => by
 have n3:=W.n3
 have hn:=dh hk
 obtain ⟨p,hp,ep⟩:∃ p,p < n ∧ cB n p = k:=⟨if k = 0 then n - 1 else k - 1,by split <;> omega,by unfold cB; (repeat' split) <;> omega⟩
 rcases N _ (W.mem k hk) _ (W.mem _ hn) (W.a k hk) (W.b k hk) with s | s
 ·have:=W.only p hp _ hn (s _ (ep ▸ W.b p hp))
  unfold cB at *
  (repeat' split at *) <;> omega
 ·have:=W.only _ hn k hk (s _ (W.a _ hn))
  unfold cB at *
  (repeat' split at *) <;> omega
theorem pG.taken {v:Int} (h:pG F ls) (N:v7 F ls v):pG (fun i => (F i).filter fun c => decide (c ≠ v)) ls:= by
 obtain ⟨n,h,c,W⟩:=h
 have ne:∀ k,k < n -> c k ≠ v:=fun k hk e => W.no_nest hk (e ▸ N)
 refine ⟨n,h,c,W.n3,W.inj,W.mem,fun k hk => ?_,fun k hk => ?_,fun k hk j hj hm => W.only k hk j hj (List.mem_filter.mp hm).1⟩
 ·exact List.mem_filter.mpr ⟨W.a k hk,decide_eq_true (ne k hk)⟩
 ·exact List.mem_filter.mpr ⟨W.b k hk,decide_eq_true (ne k hk)⟩
theorem pG.untaken {p:Int -> Bool} (h:pG (fun i => (F i).filter p) ls):pG F ls:= by
 obtain ⟨n,h,c,W⟩:=h
 have pc:∀ k,k < n -> p (c k) = true:=fun k hk => (List.mem_filter.mp (W.a k hk)).2
 exact ⟨n,h,c,W.n3,W.inj,W.mem,fun k hk => (List.mem_filter.mp (W.a k hk)).1,fun k hk => (List.mem_filter.mp (W.b k hk)).1,fun k hk j hj hm => W.only k hk j hj (List.mem_filter.mpr ⟨hm,pc k hk⟩)⟩
end K42
namespace K42
variable {F:Nat -> List Int}
def df (F:Nat -> List Int) (H:List Nat) (x:Int):Bool:=(H.filter fun i => decide (x ∈ F i)).length == 2
def dZ (F:Nat -> List Int) (H:List Nat) (k:Nat):List Int:=(F (H.getD k 0)).filter fun x => decide (x ∈ F (H.getD (cB H.length k) 0)) && df F H x
def i6 (F:Nat -> List Int) (H:List Nat):List (List Int):=(List.range H.length).map (dZ F H)
def lQ (n:Nat) (H:List Nat):List Nat:=(List.range n).filter fun i => decide (H.getD 0 0 < i) && !decide (i ∈ H)
def cU (F:Nat -> List Int) (n:Nat):Nat -> List Nat -> Option (List Nat × List Int)
 | 0,_ => none
 | f + 1,H => if (i6 F H).dropLast.any List.isEmpty then none
  else if 3 ≤ H.length ∧ dZ F H (H.length - 1) ≠ [] then some (H,(i6 F H).map fun b => b.headD 0)
  else (lQ n H).findSome? fun i => cU F n f (H ++ [i])
structure WL (F:Nat -> List Int) (n:Nat) (H:List Nat) (C:List Int):Prop where
 n3:3 ≤ H.length
 nd:H.Nodup
 lt:∀ i ∈ H,i < n
 l:C.length = H.length
 a:∀ k,k < H.length -> C.getD k 0 ∈ F (H.getD k 0)
 b:∀ k,k < H.length -> C.getD k 0 ∈ F (H.getD (cB H.length k) 0)
 o:∀ k,k < H.length -> df F H (C.getD k 0) = true
theorem dI {H:List Nat} (nd:H.Nodup) {i j:Nat} (hi:i < H.length) (hj:j < H.length) (e:H.getD i 0 = H.getD j 0):i = j:= by
 simp only [List.getD_eq_getElem?_getD,List.getElem?_eq_getElem hi,List.getElem?_eq_getElem hj,Option.getD_some] at e
 exact (List.getElem_inj nd).mp e
theorem bR {H:List Nat} {i:Nat} (hi:i < H.length):H.getD i 0 ∈ H:= by
 simp only [List.getD_eq_getElem?_getD,List.getElem?_eq_getElem hi,Option.getD_some]
 exact List.getElem_mem hi
theorem j8 {H:List Nat} (nd:H.Nodup) {x:Int} (h:df F H x = true) {i j k:Nat} (hi:i ∈ H) (hj:j ∈ H) (hk:k ∈ H) (ij:i ≠ j) (xi:x ∈ F i) (xj:x ∈ F j) (xk:x ∈ F k):k = i ∨ k = j:= by
 classical
 refine Classical.byContradiction fun q => ?_
 have ki:k ≠ i:=fun e => q (.inl e)
 have kj:k ≠ j:=fun e => q (.inr e)
 have sub:[i,j,k] ⊆ H.filter fun i => decide (x ∈ F i):=fun y hy => by
  simp only [List.mem_cons,List.not_mem_nil,or_false] at hy
  rcases hy with rfl | rfl | rfl
  ·exact List.mem_filter.mpr ⟨hi,decide_eq_true xi⟩
  ·exact List.mem_filter.mpr ⟨hj,decide_eq_true xj⟩
  ·exact List.mem_filter.mpr ⟨hk,decide_eq_true xk⟩
 have hl:=List.Nodup.length_le_of_subset (l₁:=[i,j,k]) (by simp [ij,ki.symm,kj.symm]) sub
 have:=beq_iff_eq.mp h
 rw [this] at hl
 simp at hl
theorem WL.wth {n:Nat} {H:List Nat} {C:List Int} (W:WL F n H C):pG F (List.range n):= by
 refine ⟨H.length,fun k => H.getD k 0,fun k => C.getD k 0,W.n3,fun i j hi hj e => dI W.nd hi hj e,fun i hi => List.mem_range.mpr (W.lt _ (bR hi)),W.a,W.b,fun k hk j hj hm => ?_⟩
 have hn:=dh hk
 have n3:=W.n3
 have ne:H.getD k 0 ≠ H.getD (cB H.length k) 0:=fun e => by
  have:=dI W.nd hk hn e
  unfold cB at this
  split at this <;> omega
 rcases j8 W.nd (W.o k hk) (bR hk) (bR hn) (bR hj) ne (W.a k hk) (W.b k hk) hm with e | e
 ·exact .inl (dI W.nd hj hk e)
 ·exact .inr (dI W.nd hj hn e)
theorem jz (H:List Nat) {k:Nat} (hk:k < H.length):(i6 F H)[k]? = some (dZ F H k):= by
 unfold i6
 rw [List.getElem?_map,List.getElem?_range hk]
 rfl
theorem oD {H:List Nat} {k:Nat} {x:Int}:x ∈ dZ F H k ↔ x ∈ F (H.getD k 0) ∧ x ∈ F (H.getD (cB H.length k) 0) ∧ df F H x = true:= by
 unfold dZ
 rw [List.mem_filter,Bool.and_eq_true,decide_eq_true_eq]
theorem v_ {b:List Int} (h:b ≠ []):b.headD 0 ∈ b:= by
 cases b with
 | nil => exact absurd rfl h
 | cons x r => simp
theorem lP {n:Nat}:∀ (f:Nat) (H:List Nat),H.Nodup -> H ≠ [] -> (∀ i ∈ H,i < n) -> ∀ {H' C},cU F n f H = some (H',C) -> WL F n H' C
 | 0,H,_,_,_,H',C,e => by cases e
 | f + 1,H,nd,hne,lt,H',C,e => by
  unfold cU at e
  split at e
  ·cases e
  ·rename_i q
   split at e
   ·rename_i q2
    cases e
    obtain ⟨n3,last⟩:=q2
    have all:∀ k,k < H.length -> dZ F H k ≠ []:=fun k hk z => by
     by_cases kl:k = H.length - 1
     ·exact last (kl ▸ z)
     ·refine q (List.any_eq_true.mpr ⟨dZ F H k,?_,by rw [z]; rfl⟩)
      have:(i6 F H).dropLast[k]? = some (dZ F H k):= by
       rw [List.getElem?_dropLast,if_pos (by simp [i6]; omega)]
       exact jz H hk
      exact List.mem_of_getElem? this
    have get:∀ k,k < H.length -> ((i6 F H).map fun b => b.headD 0).getD k 0 = (dZ F H k).headD 0:=fun k hk => by
     rw [List.getD_eq_getElem?_getD,List.getElem?_map,jz H hk]
     rfl
    have mem:=fun k hk => oD.mp (v_ (all k hk))
    exact ⟨n3,nd,lt,by simp [i6],fun k hk => by rw [get k hk]; exact (mem k hk).1,fun k hk => by rw [get k hk]; exact (mem k hk).2.1,fun k hk => by rw [get k hk]; exact (mem k hk).2.2⟩
   ·obtain ⟨i,hi,e⟩:=List.exists_of_findSome?_eq_some e
    unfold lQ at hi
    obtain ⟨h1,h2⟩:=List.mem_filter.mp hi
    simp only [Bool.and_eq_true,Bool.not_eq_true',decide_eq_false_iff_not] at h2
    refine lP f (H ++ [i]) ?_ (by simp) ?_ e
    ·refine List.nodup_append.mpr ⟨nd,by simp,fun a ha b hb z => ?_⟩
     rw [List.mem_singleton.mp hb] at z
     exact h2.2 (z ▸ ha)
    ·intro j hj
     rcases List.mem_append.mp hj with hj | hj
     ·exact lt j hj
     ·rw [List.mem_singleton.mp hj]; exact List.mem_range.mp h1
end K42
namespace K42
variable {F:Nat -> List Int}
def rt (N r k:Nat):Nat:=if k + r < N then k + r else k + r - N
theorem ja {N r k:Nat} (hr:r < N) (hk:k < N):rt N r k < N:=by unfold rt; split <;> omega
theorem qd {N r i j:Nat} (hr:r < N) (hi:i < N) (hj:j < N) (e:rt N r i = rt N r j):i = j:= by
 unfold rt at e
 split at e <;> split at e <;> omega
theorem zh {N r k:Nat} (hr:r < N) (hk:k < N):cB N (rt N r k) = rt N r (cB N k):= by
 unfold cB rt
 (repeat' split) <;> omega
theorem Wf.rot {ls:List Nat} {N:Nat} {h:Nat -> Nat} {c:Nat -> Int} (W:Wf F ls N h c) {r:Nat} (hr:r < N):Wf F ls N (fun k => h (rt N r k)) (fun k => c (rt N r k)):= by
 refine ⟨W.n3,fun i j hi hj e => qd hr hi hj (W.inj _ _ (ja hr hi) (ja hr hj) e),fun i hi => W.mem _ (ja hr hi),fun k hk => W.a _ (ja hr hk),fun k hk => ?_,fun k hk j hj hm => ?_⟩
 ·have:=W.b _ (ja hr hk)
  rw [zh hr hk] at this
  exact this
 ·rcases W.only _ (ja hr hk) _ (ja hr hj) hm with e | e
  ·exact .inl (qd hr hj hk e)
  ·rw [zh hr hk] at e
   exact .inr (qd hr hj (dh hk) e)
theorem least (h:Nat -> Nat):∀ N,0 < N -> ∃ m,m < N ∧ ∀ i,i < N -> h m ≤ h i
 | 1,_ => ⟨0,by omega,fun i hi => by rw [show i = 0 by omega]; exact Nat.le_refl _⟩
 | N + 2,_ => by
  obtain ⟨m,hm,hl⟩:=least h (N + 1) (by omega)
  by_cases q:h m ≤ h (N + 1)
  ·refine ⟨m,by omega,fun i hi => ?_⟩
   by_cases z:i = N + 1
   ·rw [z]; exact q
   ·exact hl i (by omega)
  ·refine ⟨N + 1,by omega,fun i hi => ?_⟩
   by_cases z:i = N + 1
   ·rw [z]; exact Nat.le_refl _
   ·have:=hl i (by omega)
    omega
theorem pH {α:Type} (h:Nat -> α) (d:α) {j k:Nat} (hk:k < j):((List.range j).map h).getD k d = h k:= by
 rw [List.getD_eq_getElem?_getD,List.getElem?_map,List.getElem?_range hk]
 rfl
section
variable {n N:Nat} {h:Nat -> Nat} {c:Nat -> Int} (W:Wf F (List.range n) N h c)
include W
theorem w4 {j:Nat} (hj:j ≤ N):((List.range j).map h).Nodup:= by
 refine List.pairwise_map.mpr (List.Pairwise.imp_of_mem (fun {a b} ha hb ne e => ne (W.inj a b ?_ ?_ e)) List.nodup_range)
 ·have:=List.mem_range.mp ha; omega
 ·have:=List.mem_range.mp hb; omega
theorem zU {j k:Nat} (hj:j ≤ N) (hk:k < j) (hn:cB N k < j):df F ((List.range j).map h) (c k) = true:= by
 have n3:=W.n3
 have kn:k < N:=by omega
 have ne:h k ≠ h (cB N k):=fun e => by
  have:=W.inj _ _ kn (dh kn) e
  unfold cB at this
  split at this <;> omega
 have p:(((List.range j).map h).filter fun i => decide (c k ∈ F i)).Perm [h k,h (cB N k)]:= by
  refine (List.perm_ext_iff_of_nodup ((w4 W hj).filter _) (by simp [ne])).mpr fun a => ?_
  simp only [List.mem_filter,List.mem_map,List.mem_range,decide_eq_true_eq,List.mem_cons,List.not_mem_nil,or_false]
  constructor
  ·rintro ⟨⟨i,hi,rfl⟩,hm⟩
   rcases W.only k kn i (by omega) hm with e | e
   ·exact .inl (by rw [e])
   ·exact .inr (by rw [e])
  ·rintro (rfl | rfl)
   ·exact ⟨⟨k,hk,rfl⟩,W.a k kn⟩
   ·exact ⟨⟨cB N k,hn,rfl⟩,W.b k kn⟩
 unfold df
 rw [p.length_eq]
 rfl
theorem uV {j k:Nat} (hj:j ≤ N) (hk:k < j) (hn:cB N k < j) (e:cB j k = cB N k):c k ∈ dZ F ((List.range j).map h) k:= by
 refine oD.mpr ⟨?_,?_,zU W hj hk hn⟩
 ·rw [pH h 0 hk]; exact W.a k (by omega)
 ·rw [List.length_map,List.length_range,e,pH h 0 hn]; exact W.b k (by omega)
theorem o_ (least:∀ i,0 < i -> i < N -> h 0 < h i):∀ (t j f:Nat),N - j = t -> 1 ≤ j -> j ≤ N -> t < f -> cU F n f ((List.range j).map h) ≠ none
 | t,j,0,_,_,_,hf => by omega
 | t,j,f + 1,ht,h1,hj,hf => by
  have n3:=W.n3
  have len:((List.range j).map h).length = j:=by simp
  unfold cU
  have no:((i6 F ((List.range j).map h)).dropLast.any List.isEmpty) = false:= by
   rw [List.any_eq_false]
   intro b hb z
   obtain ⟨k,hk,e⟩:=List.getElem_of_mem hb
   have hk':k < j - 1:=by simpa [i6] using hk
   have e2:(i6 F ((List.range j).map h)).dropLast[k]? = some b:=by rw [List.getElem?_eq_getElem hk,e]
   rw [List.getElem?_dropLast,if_pos (by simpa [i6] using hk'),jz _ (by rw [len]; omega)] at e2
   cases e2
   have hn:cB N k < j:=by unfold cB; split <;> omega
   have en:cB j k = cB N k:=by unfold cB; (repeat' split) <;> omega
   have:=uV W hj (show k < j by omega) hn en
   rw [List.isEmpty_iff.mp z] at this
   cases this
  rw [no,if_neg Bool.false_ne_true]
  split
  ·exact Option.some_ne_none _
  ·rename_i q
   have jN:j < N:= by
    refine Classical.byContradiction fun z => q ?_
    have:j = N:=by omega
    subst this
    rw [len]
    refine ⟨n3,fun z => ?_⟩
    have hn:cB j (j - 1) < j:=dh (by omega)
    have:=uV W hj (show j - 1 < j by omega) hn rfl
    rw [z] at this
    cases this
   intro z
   have hm:h j ∈ lQ n ((List.range j).map h):= by
    unfold lQ
    refine List.mem_filter.mpr ⟨W.mem j jN,?_⟩
    rw [pH h 0 (by omega),Bool.and_eq_true,Bool.not_eq_true',decide_eq_true_eq,decide_eq_false_iff_not]
    refine ⟨least j (by omega) jN,fun w => ?_⟩
    obtain ⟨i,hi,e⟩:=List.mem_map.mp w
    have hi:=List.mem_range.mp hi
    have:=W.inj i j (by omega) jN e
    omega
   have:=List.findSome?_eq_none_iff.mp z _ hm
   refine o_ least (t - 1) (j + 1) f (by omega) (by omega) (by omega) (by omega) ?_
   rw [List.range_succ,List.map_append]
   exact this
end
theorem uo {n:Nat} (h:pG F (List.range n)):∃ i,i < n ∧ ∀ f,n ≤ f -> cU F n f [i] ≠ none:= by
 obtain ⟨N,h,c,W0⟩:=h
 have n3:=W0.n3
 obtain ⟨m,hm,hl⟩:=least h N (by omega)
 have W:=W0.rot hm
 have z0:rt N m 0 = m:=by unfold rt; split <;> omega
 have lst:∀ i,0 < i -> i < N -> (fun k => h (rt N m k)) 0 < (fun k => h (rt N m k)) i:=fun i h0 hi => by
  have h1:=hl _ (ja hm hi)
  have h2:h (rt N m i) ≠ h (rt N m 0):=fun e => by
   have:=qd hm hi (by omega) (W0.inj _ _ (ja hm hi) (ja hm (by omega)) e)
   omega
  show h (rt N m 0) < h (rt N m i)
  rw [z0] at h2 ⊢
  omega
 have nN:N ≤ n:= by
  have:=List.Nodup.length_le_of_subset (l₁:=(List.range N).map h) (l₂:=List.range n) (w4 W0 (Nat.le_refl _)) fun y hy => by
   obtain ⟨i,hi,rfl⟩:=List.mem_map.mp hy
   exact W0.mem i (List.mem_range.mp hi)
  simpa using this
 refine ⟨h (rt N m 0),List.mem_range.mp (W.mem 0 (by omega)),fun f hf => ?_⟩
 exact o_ W lst (N - 1) 1 f (by omega) (Nat.le_refl _) (by omega) (by omega)
theorem sY {n:Nat} {f:Nat} (hf:n ≤ f):(∀ i,i < n -> cU F n f [i] = none) ↔ ¬ pG F (List.range n):= by
 constructor
 ·intro h w
  obtain ⟨i,hi,q⟩:=uo w
  exact q f hf (h i hi)
 ·intro nw i hi
  cases e:cU F n f [i] with
  | none => rfl
  | some p => exact absurd (lP f [i] (by simp) (by simp) (fun j hj => by rw [List.mem_singleton.mp hj]; exact hi) e).wth nw
end K42
namespace K42
def wU (hs:List (List Int)) (i:Nat):List Int:=hs.getD i []
def gX (hs:List (List Int)) (v:Int):Bool:=(hs.filter fun h => decide (v ∈ h)).all fun a => (hs.filter fun h => decide (v ∈ h)).all fun b => (a.all fun c => decide (c ∈ b)) || (b.all fun c => decide (c ∈ a))
def tk (hs:List (List Int)) (v:Int):List (List Int):=hs.map fun h => h.filter fun c => decide (c ≠ v)
def bW (M:Nat) (hs:List (List Int)):List Nat:=(List.range M).filter fun c => hs.any fun h => decide ((c:Int) ∈ h)
def fz (M:Nat):Nat -> List (List Int) -> Bool
 | 0,_ => true
 | t + 1,hs => match ((bW M hs).filter fun (c:Nat) => gX hs (c:Int)).getLast? with
  | none => false
  | some v => fz M t (tk hs (v:Int))
def kD (M:Nat) (hs:List (List Int)):Prop:=∀ h ∈ hs,h.Nodup ∧ ∀ c ∈ h,0 ≤ c ∧ c < (M:Int)
variable {hs:List (List Int)} {M:Nat}
theorem c7 {i:Nat} (hi:i < hs.length):wU hs i = hs[i]:=by simp [wU,hi]
theorem pA {i:Nat} (hi:¬ i < hs.length):wU hs i = []:=by simp [wU,Nat.le_of_not_lt hi]
theorem Es (v:Int):wU (tk hs v) = fun i => (wU hs i).filter fun c => decide (c ≠ v):= by
 funext i
 by_cases hi:i < hs.length
 ·rw [c7 hi,c7 (by simpa [tk] using hi)]
  simp [tk]
 ·rw [pA hi,pA (by simpa [tk] using hi)]
  rfl
theorem kD.nd (h:kD M hs) (i:Nat):(wU hs i).Nodup:= by
 by_cases hi:i < hs.length
 ·rw [c7 hi]; exact (h _ (List.getElem_mem hi)).1
 ·rw [pA hi]; exact List.nodup_nil
theorem kD.tk (h:kD M hs) (v:Int):kD M (tk hs v):=fun g hg => by
 obtain ⟨h0,hm,rfl⟩:=List.mem_map.mp hg
 exact ⟨(h h0 hm).1.filter _,fun c hc => (h h0 hm).2 c (List.mem_filter.mp hc).1⟩
theorem E4 (v:Int):(tk hs v).length = hs.length:=List.length_map _
theorem rn (h:kD M hs) {v:Int} {i:Nat} (hi:i < hs.length) (hv:v ∈ wU hs i):∃ c:Nat,v = (c:Int) ∧ c ∈ bW M hs:= by
 rw [c7 hi] at hv
 have:=(h _ (List.getElem_mem hi)).2 v hv
 refine ⟨v.toNat,by omega,List.mem_filter.mpr ⟨List.mem_range.mpr (by omega),List.any_eq_true.mpr ⟨hs[i],List.getElem_mem hi,decide_eq_true ?_⟩⟩⟩
 rw [Int.toNat_of_nonneg this.1]
 exact hv
theorem r9 {v:Int}:gX hs v = true ↔ v7 (wU hs) (List.range hs.length) v:= by
 unfold gX v7
 simp only [List.all_eq_true,List.mem_filter,decide_eq_true_eq,Bool.or_eq_true,List.mem_range]
 constructor
 ·intro h i hi j hj vi vj
  rw [c7 hi] at vi ⊢
  rw [c7 hj] at vj ⊢
  exact h _ ⟨List.getElem_mem hi,vi⟩ _ ⟨List.getElem_mem hj,vj⟩
 ·rintro h a ⟨ha,va⟩ b ⟨hb,vb⟩
  obtain ⟨i,hi,rfl⟩:=List.getElem_of_mem ha
  obtain ⟨j,hj,rfl⟩:=List.getElem_of_mem hb
  have:=h i hi j hj (by rw [c7 hi]; exact va) (by rw [c7 hj]; exact vb)
  rw [c7 hi,c7 hj] at this
  exact this
theorem Cp (v:Nat):bW M (tk hs (v:Int)) = (bW M hs).filter fun c => decide (c ≠ v):= by
 unfold bW
 rw [List.filter_filter]
 refine List.filter_congr fun c _ => ?_
 rw [Bool.eq_iff_iff]
 simp only [List.any_eq_true,Bool.and_eq_true,decide_eq_true_eq,tk,List.mem_map]
 constructor
 ·rintro ⟨_,⟨h,hm,rfl⟩,hc⟩
  obtain ⟨h1,h2⟩:=List.mem_filter.mp hc
  exact ⟨fun e => of_decide_eq_true h2 (by rw [e]),h,hm,h1⟩
 ·rintro ⟨ne,h,hm,hc⟩
  exact ⟨_,⟨h,hm,rfl⟩,List.mem_filter.mpr ⟨hc,decide_eq_true fun e => ne (by omega)⟩⟩
theorem qR:∀ {l:List Nat} {v:Nat},l.Nodup -> v ∈ l -> (l.filter fun c => decide (c ≠ v)).length + 1 = l.length
 | x :: l,v,nd,hv => by
  obtain ⟨h1,h2⟩:=List.nodup_cons.mp nd
  by_cases e:x = v
  ·subst e
   have:(l.filter fun c => decide (c ≠ x)) = l:=List.filter_eq_self.mpr fun c hc => decide_eq_true fun z => h1 (z ▸ hc)
   rw [List.filter_cons,if_neg (by simp),this,List.length_cons]
  ·have hv:v ∈ l:=(List.mem_cons.mp hv).resolve_left fun z => e z.symm
   have:=qR h2 hv
   rw [List.filter_cons,if_pos (by simp [e]),List.length_cons,List.length_cons]
   omega
theorem rF:∀ (t:Nat) (hs:List (List Int)),kD M hs -> (bW M hs).length = t -> (fz M t hs = true ↔ ¬ pG (wU hs) (List.range hs.length))
 | 0,hs,hf,hl => by
  refine ⟨fun _ w => ?_,fun _ => rfl⟩
  obtain ⟨n,h,c,W⟩:=w
  have n3:=W.n3
  obtain ⟨x,_,hx⟩:=rn hf (List.mem_range.mp (W.mem 0 (by omega))) (W.a 0 (by omega))
  rw [List.length_eq_zero_iff.mp hl] at hx
  cases hx
 | t + 1,hs,hf,hl => by
  unfold fz
  cases e:((bW M hs).filter fun (c:Nat) => gX hs (c:Int)).getLast? with
  | none =>
   refine ⟨(fun h => by cases h),fun nw => ?_⟩
   exfalso
   have e:((bW M hs).filter fun (c:Nat) => gX hs (c:Int)) = []:=List.getLast?_eq_none_iff.mp e
   obtain ⟨x,hx⟩:∃ x,x ∈ bW M hs:= by
    cases q:bW M hs with
    | nil => rw [q] at hl; cases hl
    | cons x r => exact ⟨x,List.mem_cons_self⟩
   obtain ⟨_,hx⟩:=List.mem_filter.mp hx
   obtain ⟨g,hg,hx⟩:=List.any_eq_true.mp hx
   obtain ⟨i,hi,rfl⟩:=List.getElem_of_mem hg
   obtain ⟨v,⟨j,hj,hv⟩,N⟩:=wq hf.nd nw (List.mem_range.mpr hi) (show (x:Int) ∈ wU hs i by rw [c7 hi]; exact of_decide_eq_true hx)
   obtain ⟨c,rfl,hc⟩:=rn hf (List.mem_range.mp hj) hv
   have:c ∈ ((bW M hs).filter fun (c:Nat) => gX hs (c:Int)):=List.mem_filter.mpr ⟨hc,r9.mpr N⟩
   rw [e] at this
   cases this
  | some v =>
   have hv:=List.mem_of_getLast? e
   obtain ⟨h1,h2⟩:=List.mem_filter.mp hv
   have N:=r9.mp h2
   have nd:(bW M hs).Nodup:=List.nodup_range.filter _
   have hl2:(bW M (tk hs (v:Int))).length = t:= by
    rw [Cp]
    have:=qR nd h1
    omega
   have ih:=rF t (tk hs (v:Int)) (hf.tk _) hl2
   rw [E4,Es] at ih
   show fz M t (tk hs (v:Int)) = true ↔ _
   rw [ih]
   exact ⟨fun h w => h (w.taken N),fun h w => h w.untaken⟩
theorem found_iff (hf:kD M hs) {f:Nat} (h:hs.length ≤ f):(∀ i,i < hs.length -> cU (wU hs) hs.length f [i] = none) ↔ fz M (bW M hs).length hs = true :=
 (sY h).trans (rF _ hs hf rfl).symm
end K42
namespace K42
open PySem L2 Jt
def hD (h:List Int):D:=.tup (h.map .int)
def bB (m:Int) (hs:List (List Int)):D:=.tup [.int m,.tup (hs.map hD)]
def lD (ls:List Nat):List D:=ls.map fun (i:Nat) => .int (i:Int)
def G (hs:List (List Int)) (i:Nat):List Int:=hs.getD i []
theorem v5 (h:List Int):kY (h.map .int) = some (h.map V.int):= by
 induction h with
 | nil => rfl
 | cons a r ih => simp [kY,flat,ih]
theorem CW (c:Int) (h:List Int):Gq (.int c) (h.map V.int) = decide (c ∈ h):= by
 induction h with
 | nil => rfl
 | cons a r ih =>
  show (a == c || Gq (.int c) (r.map V.int)) = _
  rw [ih]
  by_cases e:c = a
  ·subst e; simp
  ·simp [e,Ne.symm e]
theorem eK (neg:Bool) (c:Int) (h:List Int):i7 neg (.int c) (hD h) = some (.bl (if neg then !decide (c ∈ h) else decide (c ∈ h))):= by
 simp [i7,hD,fK,flat,v5,CW]
theorem f7 (h:List Int):aF (hD h) = some (a_ (h.map .int)):=rfl
theorem dM {α:Type} (f:α -> Bool) (as:List α):boolsOf (as.map fun a => .bl (f a)) = some (as.map f):= by
 induction as with
 | nil => rfl
 | cons a r ih => simp [boolsOf,ih]
theorem eA {α:Type} (xs:List α) (i:Nat) (h:i < xs.length):jx xs (i:Int) = some xs[i]:= by
 have h1:(i:Int) < xs.length:=by omega
 simp [jx,tD,h1,h]
theorem iz {hs:List (List Int)} {i:Nat} (h:i < hs.length):cQ (.tup (hs.map hD)) (.int (i:Int)) = some (hD (G hs i)):= by
 show jx _ _ = _
 rw [eA _ _ (by simpa using h)]
 simp [G,h]
theorem de (m:Int) (hs:List (List Int)):cQ (bB m hs) (.int 1) = some (.tup (hs.map hD)):=rfl
theorem g_ (m:Int) (hs:List (List Int)):cQ (bB m hs) (.int 0) = some (.int m):=rfl
theorem qb (neg:Bool) (a b:Int):i_ neg (.int a) (.int b) = some (.bl (if neg then !decide (a = b) else decide (a = b))):= by
 exact D6 neg a b
theorem A7 (neg:Bool) (a b:Nat):i_ neg (.int (a:Int)) (.int (b:Int)) = some (.bl (if neg then !decide (a = b) else decide (a = b))):= by
 rw [qb]
 simp only [Int.natCast_inj,show ((a:Int) = (b:Int)) = (a = b) from propext Int.ofNat_inj]
theorem cG (neg:Bool) (xs:List D):i_ neg (.lst xs) (.lst []) = some (.bl (if neg then !xs.isEmpty else xs.isEmpty)):= by
 cases xs <;> simp [i_,ng,eF,eF.go]
theorem tj (n:Nat):bL 0 n = lD (List.range n):= by
 simp [bL,lD]
theorem gm (n i:Nat) (h:i < (bL 0 n).length):(bL 0 n)[i] = .int (i:Int):=by simp [bL]
variable {hs:List (List Int)} {ls:List Nat} {x:D}
theorem tE {i j:Int} (h:-(2 ^ 64) < j) (h2:j < 2 ^ 64):nI (.int i) (.int j) = some (.int (i * j)):= by
 show (if ((decide (-(2 ^ 64) < i) && decide (i < 2 ^ 64)) || (decide (-(2 ^ 64) < j) && decide (j < 2 ^ 64))) = true then _ else _) = _
 rw [if_pos (by rw [decide_eq_true h,decide_eq_true h2]; simp)]
def eN (m:Int) (h:List Int):Prop:=h ≠ [] ∧ h.Pairwise (· < ·) ∧ ∀ c ∈ h,0 ≤ c ∧ c < m
theorem qh:∀ (l:List Int) (lo hi:Int),l.Pairwise (· < ·) -> (∀ y ∈ l,lo ≤ y ∧ y < hi) -> lo ≤ hi -> (l.length:Int) ≤ hi - lo
 | [],lo,hi,_,_,h => by simp; omega
 | z :: t,lo,hi,hp,hb,h => by
  rw [List.pairwise_cons] at hp
  have hz:=hb z List.mem_cons_self
  have:=qh t (z + 1) hi hp.2 (fun y hy => ⟨by have:=hp.1 y hy; omega,(hb y (List.mem_cons_of_mem _ hy)).2⟩) (by omega)
  rw [List.length_cons]; omega
theorem eN.len {m:Int} {h:List Int} (H:eN m h) (h1:1 ≤ m) (hm:m ≤ 7):h.length ≤ 7:= by
 have:=qh h 0 m H.2.1 H.2.2 (by omega)
 omega
theorem ee (a:Int):∀ l:List Int,a ∈ jY l ↔ a ∈ l
 | [] => by simp [jY]
 | x :: r => by
  unfold jY
  split
  ·rename_i h
   rw [ee a r,List.mem_cons]
   constructor
   ·exact .inr
   ·rintro (rfl | h')
    ·exact (ee a r).mp h
    ·exact h'
  ·rw [List.mem_cons,List.mem_cons,ee a r]
theorem eS:∀ l:List Int,(jY l).Nodup
 | [] => by simp [jY]
 | x :: r => by
  unfold jY
  split
  ·exact eS r
  ·rename_i h
   exact List.nodup_cons.mpr ⟨h,eS r⟩
theorem mN {l:List Int} (h:l.Nodup):(dA l).Pairwise (· < ·):= by
 refine ((lJ l).and ((eW l).nodup_iff.mpr h)).imp fun {a b} h => ?_
 have:=h.1
 have:=h.2
 omega
theorem kA {a:Int} {l:List Int}:a ∈ dA l ↔ a ∈ l:=(eW l).mem_iff
def LQ (d:D) (xs:List D):Prop:=∃ (m:Int) (hs:List (List Int)) (n:Int),d = bB m hs ∧ xs = [.int n] ∧ 1 ≤ hs.length ∧ hs.length ≤ 6 ∧ (1 ≤ m ∧ m ≤ 7) ∧ ∀ h ∈ hs,eN m h
theorem fY (h:List Int):fG (h.map .int) = some h:= by
 induction h with
 | nil => rfl
 | cons a r ih => simp [fG,ih]
theorem CP (h:List Int):(jY h).length ≤ h.length:= by
 induction h with
 | nil => simp [jY]
 | cons a r ih => unfold jY; split <;> simp <;> omega
theorem oo (h:List Int):(dA h).length = h.length:=(eW h).length_eq
theorem jU (neg:Bool) (xs:List D):AE neg (.lst xs) (.lst []) = some (.bl (if neg then !xs.isEmpty else xs.isEmpty)):=cG neg xs
theorem yn (hs:List (List Int)) (n:Int) (hp:0 < hs.length):∃ h ∈ hs,cQ (.lst (hs.map hD)) (.int (n % (hs.length:Int))) = some (hD h):= by
 have h1:=Int.emod_nonneg n (show (hs.length:Int) ≠ 0 by omega)
 have h2:=Int.emod_lt_of_pos n (show (0:Int) < hs.length by omega)
 obtain ⟨j,hj⟩:∃ j:Nat,n % (hs.length:Int) = (j:Int):=⟨(n % (hs.length:Int)).toNat,by omega⟩
 have hlt:j < hs.length:=by omega
 refine ⟨hs[j],List.getElem_mem hlt,?_⟩
 rw [hj]
 show jx _ _ = _
 rw [eA _ _ (by simpa using hlt)]
 simp
theorem ky {α β:Type} (f:α -> β):∀ (l:List α) (j:Nat),(l.map f).eraseIdx j = (l.eraseIdx j).map f
 | [],_ => rfl
 | _ :: _,0 => rfl
 | a :: r,j + 1 => by
  show f a :: (r.map f).eraseIdx j = f a :: (r.eraseIdx j).map f
  rw [ky f r j]
theorem d6 (xs:List D):cX [.lst xs] = some (.tup xs):=rfl
def isInt:D -> Bool
 | .int _ => true
 | _ => false
def dt (n:Int):D -> Bool
 | .int i => decide (0 ≤ i) && decide (i < n)
 | _ => false
theorem Ai (x:D):bf vt rM [x] = some (.bl (isInt x)):= by
 apply cn
 show Ok rM [.pu x] _
 unfold rM
 cases x <;> simp [cM,pJ,isInt]
theorem kP (x:D):bf qD oA [x] = some (.bl (isInt x)):= by
 apply cn
 show Ok oA [.pu x] _
 unfold oA
 cases x <;> simp [cM,pJ,isInt]
theorem yZ (x:D) (n:Int):bf lU kU [x,.int n] = some (.bl (dt n x)):= by
 apply cn
 show Ok kU [.pu x,.pu (.int n)] _
 unfold kU
 cases x with
 | int i =>
  by_cases h:0 ≤ i
  ·simp [aG,Ai,isInt,dt,Aw,mY,cg,h]
  ·simp [aG,Ai,isInt,dt,Aw,mY,cg,h]
 | _ => simp [aG,Ai,isInt,dt]
def kI (n:Int):D -> Bool
 | .tup xs => xs.all (dt n)
 | _ => false
def Short (x:D):Prop:=∀ xs,x = .tup xs -> xs.length ≤ 60
theorem HY {x:D} (n:Int) (h:Short x):bf nZ qM [x,.int n] = some (.bl (kI n x)):= by
 apply cn
 show Ok qM [.pu x,.pu (.int n)] _
 unfold qM
 cases x with
 | tup xs =>
  have hl:=h xs rfl
  simp [cM,pJ]
  refine aX xs id (fun x => some (.bl (dt n x))) rfl ?_ (by omega) (fun x hx => ?_) ?_
  ·simp [aF]
  ·simp [aG,yZ]
  ·simp [jm,dM,List.filterMap_eq_map,kI,Function.comp_def]
 | _ => simp [cM,pJ,kI]
theorem mJ {n:Nat}:∀ {xs:List D},xs.all (dt n) = true -> ∃ ls:List Nat,xs = lD ls ∧ ∀ i ∈ ls,i < n
 | [],_ => ⟨[],rfl,by simp⟩
 | x :: xs,h => by
  simp only [List.all_cons,Bool.and_eq_true] at h
  obtain ⟨ls,rfl,hl⟩:=mJ h.2
  cases x with
  | int i =>
   simp only [dt,Bool.and_eq_true,decide_eq_true_eq] at h
   refine ⟨i.toNat :: ls,?_,?_⟩
   ·simp [lD]; omega
   ·intro j hj
    rcases List.mem_cons.mp hj with rfl | hj
    ·omega
    ·exact hl j hj
  | _ => simp [dt] at h
theorem yU {n:Nat} (ls:List Nat):(lD ls).all (dt n) = ls.all fun i => decide (i < n):= by
 unfold lD
 rw [List.all_map]
 refine List.all_congr rfl fun i => ?_
 simp [dt]
theorem kf:∀ l:List Int,(jY l).length = l.length ↔ l.Nodup
 | [] => by simp [jY]
 | x :: r => by
  have h1:=CP r
  unfold jY
  rw [List.nodup_cons,<- kf r]
  split
  ·rename_i h
   rw [ee] at h
   constructor
   ·intro e; rw [List.length_cons] at e; omega
   ·exact fun q => absurd h q.1
  ·rename_i h
   rw [ee] at h
   simp [h]
theorem jI {ls:List Nat}:(ls.map fun (i:Nat) => (i:Int)).Nodup ↔ ls.Nodup:= by
 constructor
 ·intro h
  exact List.Pairwise.of_map (S:=(· ≠ ·)) _ (fun a b hab e => hab (by rw [e])) h
 ·intro h
  exact List.Pairwise.map _ (fun a b hab e => hab (Int.ofNat_inj.mp e)) h
theorem jT (ls:List Nat):fG (lD ls) = some (ls.map fun (i:Nat) => (i:Int)):= by
 have:lD ls = (ls.map fun (i:Nat) => (i:Int)).map .int:=by simp [lD]
 rw [this,fY]
theorem mG {ls ls':List Nat} (e:lD ls = lD ls'):ls = ls':= by
 have:=congrArg fG e
 rw [jT,jT] at this
 exact List.map_inj_right (fun a b q => Int.ofNat_inj.mp q) |>.mp (Option.some.inj this)
theorem dv (ls:List Nat):(lD ls).length = ls.length:=by simp [lD]
variable {hs:List (List Int)} {ls:List Nat}
theorem uR (xs:List D) (lo hi:Option Int):(cutD xs lo hi).length ≤ xs.length:= by
 unfold cutD
 rw [List.length_take,List.length_drop]
 omega
variable {hs:List (List Int)} {ls:List Nat}
theorem mI:∀ {xs:List D},xs.all isInt = true -> ∃ ns:List Int,xs = ns.map .int
 | [],_ => ⟨[],rfl⟩
 | x :: xs,h => by
  simp only [List.all_cons,Bool.and_eq_true] at h
  obtain ⟨ns,rfl⟩:=mI h.2
  cases x with
  | int i => exact ⟨i :: ns,rfl⟩
  | _ => cases h.1
theorem zB (neg:Bool) (k:Nat) (ls:List Nat):i7 neg (.int (k:Int)) (.tup (lD ls)) = some (.bl (if neg then !decide (k ∈ ls) else decide (k ∈ ls))):= by
 have:lD ls = (ls.map fun (i:Nat) => (i:Int)).map .int:=by simp [lD]
 have e:=eK neg k (ls.map fun (i:Nat) => (i:Int))
 unfold hD at e
 rw [this,e]
 have:((k:Int) ∈ ls.map fun (i:Nat) => (i:Int)) = (k ∈ ls):= by
  refine propext ⟨fun h => ?_,fun h => List.mem_map.mpr ⟨k,h,rfl⟩⟩
  obtain ⟨i,hi,e⟩:=List.mem_map.mp h
  rw [<- Int.ofNat_inj.mp e]; exact hi
 simp only [this]
variable {hs:List (List Int)} {ls:List Nat}
theorem g6:∀ (n:Nat) (ls:List Nat),ls.Nodup -> (∀ i ∈ ls,i < n) -> ls.length ≤ n
 | 0,[],_,_ => Nat.le_refl _
 | 0,a :: r,_,h => absurd (h a List.mem_cons_self) (Nat.not_lt_zero a)
 | n + 1,ls,hn,h => by
  have h1:=g6 n (ls.erase n) (hn.erase n) fun i hi => by
   have:=(hn.mem_erase_iff).mp hi
   have:=h i this.2
   omega
  rw [List.length_erase] at h1
  split at h1 <;> omega
theorem jG (xs:List D) (n:Int) (h:0 < xs.length):∃ d ∈ xs,cQ (.lst xs) (.int (n % (xs.length:Int))) = some d:= by
 have h1:=Int.emod_nonneg n (show (xs.length:Int) ≠ 0 by omega)
 have h2:=Int.emod_lt_of_pos n (show (0:Int) < xs.length by omega)
 obtain ⟨j,hj⟩:∃ j:Nat,n % (xs.length:Int) = (j:Int):=⟨(n % (xs.length:Int)).toNat,by omega⟩
 have hlt:j < xs.length:=by omega
 refine ⟨xs[j],List.getElem_mem hlt,?_⟩
 rw [hj]
 show jx _ _ = _
 rw [eA _ _ hlt]
variable {hs:List (List Int)} {ls:List Nat}
theorem rL (xs ys:List D) (h1:xs.length ≤ 100) (h2:ys.length ≤ 100):cC (.tup xs) (.tup ys) = some (.tup (xs ++ ys)):= by
 show (if xs.length + ys.length ≤ 100000 then _ else _) = _
 rw [if_pos (by omega)]
theorem iV {xs:List D} (h:xs.length ≤ 60):Short (.tup xs):=fun ys e => by cases e; exact h
end K42
namespace K42
open PySem L2 Jt
open Builtin.Int (intBits)
theorem tG (ns:List Int) (hb:∀ i ∈ ns,intBits i ≤ 2 ^ 20) (k:Nat) (hk:k < 100):∃ c:Int,bf vz mx [.lst (ns.map .int),.int k] = some (.int c) ∧ intBits c ≤ 2 ^ 20:= by
 by_cases h:k < ns.length
 ·refine ⟨ns[k],cn ?_,hb _ (List.getElem_mem h)⟩
  show Ok mx [.pu (.lst (ns.map .int)),.pu (.int k)] _
  unfold mx
  have e:cQ (.lst (ns.map .int)) (.int (k:Int)) = some (.int ns[k]):= by
   show jx _ _ = _
   rw [eA _ _ (by simpa using h)]
   simp
  simp [br,mY,cg,h,e]
 ·refine ⟨6151 * (k:Int) + 29,cn ?_,?_⟩
  ·show Ok mx [.pu (.lst (ns.map .int)),.pu (.int k)] _
   unfold mx
   simp [br,mY,cg,h,nI,dk]
  ·exact Nat.le_trans (intBits_le_64 (by omega) (by omega)) (by decide)
theorem rB {i j:Int} (h:intBits i + intBits j ≤ 134217728):o9 (.int i) (.int j) = some (.int (i * j)):= by
 show (if decide (intBits i + intBits j ≤ 134217728) = true then _ else _) = _
 rw [decide_eq_true h]; rfl
theorem v8 {c:Int} (hc:intBits c ≤ 2 ^ 20) (k:Nat) (hk:k < 100):∃ n:Int,bf qm nY [.int c,.int k] = some (.int n):= by
 have key:∃ d,bf qm nY [.int c,.int k] = some d ∧ ∃ n,d = .int n:= by
  apply u3
  show Ok nY [.pu (.int c),.pu (.int k),.un] _
  unfold nY
  have s1:∀ z:Int,-(2 ^ 63) < z -> z < 2 ^ 63 -> intBits z ≤ 64:=fun z h1 h2 => intBits_le_64 (by omega) (by omega)
  have e1:nI (.int (c + 1)) (.int 40692) = some (.int ((c + 1) * 40692)):=tE (by omega) (by omega)
  have e2:nI (.int 104729) (.int (k:Int)) = some (.int (104729 * (k:Int))):=tE (by omega) (by omega)
  have b1:=PyProof.Rows.bits_add hc (s1 1 (by omega) (by omega))
  have b2:=PyProof.Rows.bits_mul b1 (s1 40692 (by omega) (by omega))
  have b3:=PyProof.Rows.bits_add b2 (s1 (104729 * (k:Int)) (by omega) (by omega))
  have e3:o9 (.int ((c + 1) * 40692 + 104729 * (k:Int))) (.int ((c + 1) * 40692 + 104729 * (k:Int))) = some (.int (((c + 1) * 40692 + 104729 * (k:Int)) * ((c + 1) * 40692 + 104729 * (k:Int)))):=rB (Nat.le_trans (Nat.add_le_add b3 b3) (by decide))
  have g1:=Int.emod_nonneg (((c + 1) * 40692 + 104729 * (k:Int)) * ((c + 1) * 40692 + 104729 * (k:Int))) (show (2147483399:Int) ≠ 0 by omega)
  have g2:=Int.emod_lt_of_pos (((c + 1) * 40692 + 104729 * (k:Int)) * ((c + 1) * 40692 + 104729 * (k:Int))) (show (0:Int) < 2147483399 by omega)
  simp only [cN,dW,dX,bX,au,List.getElem?_cons_zero,List.getElem?_cons_succ,Option.some.injEq,Jt.Slot.pu.injEq,exists_eq_left',dk,cg,if_true,b9,e1,e2]
  refine ⟨by simp,?_⟩
  simp only [List.set_cons_succ,List.set_cons_zero,List.getElem?_cons_zero,List.getElem?_cons_succ,Option.some.injEq,Jt.Slot.pu.injEq,exists_eq_left',dX,bX,e3,b9,au,nD,cg]
  generalize (((c + 1) * 40692 + 104729 * (k:Int)) * ((c + 1) * 40692 + 104729 * (k:Int))) % 2147483399 = z at g1 g2 ⊢
  have e4:o9 (.int (z + k)) (.int (z + k + 31)) = some (.int ((z + k) * (z + k + 31))):=rB (Nat.le_trans (Nat.add_le_add (s1 (z + k) (by omega) (by omega)) (s1 (z + k + 31) (by omega) (by omega))) (by decide))
  simp [e4,dk,cg]
 obtain ⟨d,e,n,rfl⟩:=key
 exact ⟨n,e⟩
theorem wx (ns:List Int) (hb:∀ i ∈ ns,intBits i ≤ 2 ^ 20) (k:Nat) (hk:k < 100):∃ n:Int,eL qA o5 [.lst (ns.map .int),.int k] = some [.int n]:= by
 obtain ⟨c,ec,bc⟩:=tG ns hb k hk
 have:∃ d,eL qA o5 [.lst (ns.map .int),.int k] = some d ∧ ∃ c,d = [.int c]:= by
  apply C4
  show Ok o5 [.pu (.lst (ns.map .int)),.pu (.int k),.un,.un,.un] _
  unfold o5
  simp [aG,ec,nD,Ea,cg,bO]
  by_cases h:c % 2 = 0
  ·simp [h]
  ·simp [h,cZ,bt]
   refine uj (bL 0 24) (fun _ δ => ∃ a x,δ = [.pu (.lst (ns.map .int)),.pu (.int k),.pu (.int c),.pu (.int a),x]) ?_ (fun i hk δ hI => ?_) (fun δ hI => ?_)
   ·exact ⟨_,_,rfl⟩
   ·obtain ⟨a,x,rfl⟩:=hI
    have hk':i < 24:=by simpa [bL] using hk
    have e4:∀ z:Int,nI (.int z) (.int 2147483647) = some (.int (z * 2147483647)):=fun z => tE (by omega) (by omega)
    obtain ⟨m,em⟩:=v8 bc i (by omega)
    rw [gm]
    simp [e4,aG,em,dk,cg]
   ·obtain ⟨a,x,rfl⟩:=hI
    simp
 obtain ⟨d,e,c,rfl⟩:=this
 exact ⟨c,e⟩
theorem aK (n j:Int) (h:0 < j) (h2:j < 1073741824):bz cv cq [.int n] [.int j] = some (.int (n % j),[.int (n / j)]):= by
 have:∃ d xs',bz cv cq [.int n] [.int j] = some (d,xs') ∧ (d = .int (n % j) ∧ xs' = [.int (n / j)]):= by
  apply eP
  show Ok cq [.ow true [.int n],.pu (.int j),.un,.un] _
  unfold cq
  simp [jH,cQ,jx,tD,h,h2]
 obtain ⟨d,xs',e,rfl,rfl⟩:=this
 exact e
def Up (M k:Nat) (cs:List Int):Prop:=cs.Pairwise (· < ·) ∧ ∀ c ∈ cs,0 ≤ c ∧ c < (k:Int) ∧ c < (M:Int)
theorem Up.snoc {M k:Nat} {cs:List Int} (h:Up M k cs) (hk:k < M):Up M (k + 1) (cs ++ [(k:Int)]):= by
 refine ⟨List.pairwise_append.mpr ⟨h.1,by simp,fun a ha b hb => ?_⟩,fun c hc => ?_⟩
 ·rw [List.mem_singleton.mp hb]; exact (h.2 a ha).2.1
 ·rcases List.mem_append.mp hc with q | q
  ·have:=h.2 c q; omega
  ·rw [List.mem_singleton.mp q]; omega
theorem Up.more {M k:Nat} {cs:List Int} (h:Up M k cs):Up M (k + 1) cs:=⟨h.1,fun c hc => by have:=h.2 c hc; omega⟩
theorem m9 (n0:Int) {M:Nat} (hM1:1 ≤ M) (hM7:M ≤ 7):∃ d xs',bz ik je [.int n0] [.int M] = some (d,xs') ∧ (∃ h,d = hD h ∧ eN M h) ∧ ∃ n:Int,xs' = [.int n]:= by
 apply eP
 show Ok je [.ow true [.int n0],.pu (.int M),.un] _
 unfold je
 have sM:bt M = true:=by simp [bt]; omega
 refine aR (fun δ => ∃ (n:Int) (cs:List Int),δ = [.ow true [.int n],.pu (.int M),.pu (.lst (cs.map .int))] ∧ Up M M cs) ?_ ?_
 ·simp only [dW,ax,au]
  refine eE (bL 0 M) (fun k acc δ => ∃ (n:Int) (cs:List Int),acc = cs.map .int ∧ δ = [.ow true [.int n],.pu (.int M),.un] ∧ Up M k cs) rfl ?_ (by simp [bL]; omega) ⟨n0,[],rfl,rfl,List.Pairwise.nil,by simp⟩ ?_ ?_
  ·simp [cZ,sM]
  ·rintro j hj acc _ ha hl ⟨n,cs,rfl,rfl,hb⟩
   have hj':j < M:=by simpa [bL] using hj
   rw [gm]
   by_cases q:n % 3 = 0
   ·simp [-Prod.exists,aK,bO,q]
    exact ⟨_,cs ++ [(j:Int)],by simp,rfl,hb.snoc hj'⟩
   ·simp [-Prod.exists,aK,bO,q]
    exact ⟨_,cs,rfl,rfl,hb.more⟩
  ·rintro xs _ hx hl ⟨n,cs,rfl,rfl,hb⟩
   have:(bL 0 M).length = M:=by simp [bL]
   rw [this] at hb
   exact ⟨by simp,trivial,n,cs,rfl,hb⟩
 rintro _ ⟨n,cs,rfl,hb⟩
 have et:=aK n M (by omega) (by omega)
 by_cases q:cs = []
 ·subst q
  simp [-Prod.exists,cG,et,d6]
  refine ⟨[n % (M:Int)],rfl,by simp,by simp,fun c hc => ?_⟩
  rw [List.mem_singleton.mp hc]
  exact ⟨Int.emod_nonneg n (by omega),Int.emod_lt_of_pos n (by omega)⟩
 ·have q':(cs.map D.int).isEmpty = false:= by
   cases cs with
   | nil => exact absurd rfl q
   | cons a r => rfl
  simp only [cN,xm,ax,dX,bX,dU,au,dw,List.getElem?_cons_zero,List.getElem?_cons_succ,Option.some.injEq,Jt.Slot.pu.injEq,exists_eq_left',List.length_nil,Nat.zero_le,true_and,cG,q',b9,eT,Bool.false_eq_true,if_false,D.bl.injEq,fH,bQ,d6]
  exact ⟨_,_,rfl,rfl,⟨cs,rfl,q,hb.1,fun c hc => by have:=hb.2 c hc; omega⟩,n,rfl⟩
end K42
namespace K42
open PySem L2 Jt
open Builtin.Int (intBits)
theorem FH (hs:List (List Int)) (c:Int):((hs.filter fun h => decide (c ∈ h)).map hD).isEmpty = !(hs.any fun h => decide (c ∈ h)):= by
 rw [List.isEmpty_map,Bool.eq_iff_iff,List.isEmpty_iff,List.filter_eq_nil_iff,Bool.not_eq_true',List.any_eq_false]
theorem vF {a b:List Int} (h1:a.Pairwise (· < ·)) (h2:b.Pairwise (· < ·)) (h:∀ x ∈ a,x ∉ b):(a ++ b).Nodup :=
 List.nodup_append.mpr ⟨h1.imp fun {x y} (q:x < y) => Int.ne_of_lt q,h2.imp fun {x y} (q:x < y) => Int.ne_of_lt q,fun x hx y hy e => h x hx (e ▸ hy)⟩
def fP (M:Nat) (hs:List (List Int)):List Nat:=(List.range M).filter fun c => hs.any fun h => decide ((c:Int) ∈ h)
theorem xa (a b:D):cQ (.lst [a,b]) (.int 0) = some a:=rfl
theorem zt (a b:D):cQ (.lst [a,b]) (.int 1) = some b:=rfl
theorem lA (neg:Bool) (k:Nat) (ls:List Nat):i7 neg (.int (k:Int)) (.lst (lD ls)) = some (.bl (if neg then !decide (k ∈ ls) else decide (k ∈ ls))):=zB neg k ls
theorem qO (n0:Int) {M Z:Nat} (hM1:1 ≤ M) (hM7:M ≤ 7) (hZ1:1 ≤ Z) (hZ6:Z ≤ 6):∃ d xs',bz jb qQ [.int n0] [.int M,.int Z] = some (d,xs') ∧ (∃ hs:List (List Int),d = .lst (hs.map hD) ∧ hs.length = Z ∧ ∀ h ∈ hs,eN M h) ∧ ∃ n:Int,xs' = [.int n]:= by
 apply eP
 show Ok qQ [.ow true [.int n0],.pu (.int M),.pu (.int Z),.un,.un,.un,.un,.un,.un,.un,.un] _
 unfold qQ
 have sM:bt M = true:=by simp [bt]; omega
 obtain ⟨d,xs',eh,⟨h0,rfl,hh0⟩,n1,rfl⟩:=m9 n0 hM1 hM7
 refine aR (fun δ => δ = [.ow true [.int n1],.pu (.int M),.pu (.int Z),.ow false [hD h0],.un,.un,.un,.un,.un,.un,.un]) ?_ ?_
 ·simp [-Prod.exists,eh]
 rintro _ rfl
 have hZ':((Z:Int) - 1) = ((Z - 1:Nat):Int):=by omega
 have sZ:bt ((Z - 1:Nat):Int) = true:=by simp [bt]; omega
 refine aR (fun δ => ∃ (n:Int) (hs:List (List Int)) (a4 a5 a6 a7 a8 a9 a10:Jt.Slot),δ = [.ow true [.int n],.pu (.int M),.pu (.int Z),.ow false (hs.map hD),a4,a5,a6,a7,a8,a9,a10] ∧ hs.length = Z ∧ ∀ h ∈ hs,eN M h) ?_ ?_
 ·refine gW (bL 0 (Z - 1)) (fun k δ => ∃ (n:Int) (hs:List (List Int)) (a4 a5 a6 a7 a8 a9 a10:Jt.Slot),δ = [.ow true [.int n],.pu (.int M),.pu (.int Z),.ow false (hs.map hD),a4,a5,a6,a7,a8,a9,a10] ∧ hs.length = k + 1 ∧ ∀ h ∈ hs,eN M h) ?_ ⟨n1,[h0],_,_,_,_,_,_,_,rfl,rfl,by simpa using hh0⟩ ?_ ?_
  ·simp [kL,cg,hZ',cZ,sZ]
  ·rintro k hk _ ⟨n,hs,a4,a5,a6,a7,a8,a9,a10,rfl,hlen,hq⟩
   have hk':k < Z - 1:=by simpa [bL] using hk
   rw [gm,bA]
   refine ⟨by simp,?_⟩
   simp only [List.set_cons_succ,List.set_cons_zero]
   refine aR (fun δ => ∃ n way:Int,δ = [.ow true [.int n],.pu (.int M),.pu (.int Z),.ow false (hs.map hD),.pu (.int k),.pu (.int way),a6,a7,a8,a9,a10]) ?_ ?_
   ·simp [-Prod.exists,aK]
   rintro _ ⟨n,way,rfl⟩
   have hpos:0 < hs.length:=by omega
   have et:=aK n hs.length (by omega) (by omega)
   refine aR (fun δ => ∃ (n:Int) (h:List Int),h ∈ hs ∧ δ = [.ow true [.int n],.pu (.int M),.pu (.int Z),.ow false (hs.map hD),.pu (.int k),.pu (.int way),.pu (hD h),a7,a8,a9,a10]) ?_ ?_
   ·obtain ⟨h,hh,eh⟩:=yn hs n hpos
    have el:cQ (.lst (hs.map hD)) (.int ((hs.length:Int) - 1)) = some (hD hs[hs.length - 1]):= by
     rw [show (hs.length:Int) - 1 = ((hs.length - 1:Nat):Int) by omega]
     show jx _ _ = _
     rw [eA _ _ (by simp; omega)]
     simp
    by_cases q:1 < way
    ·simp [-Prod.exists,et,kL,vA,cg,o8,q,zt,eh]
     exact ⟨_,h,hh,rfl,rfl⟩
    ·simp [-Prod.exists,et,kL,vA,cg,o8,q,xa,el]
     exact ⟨_,_,List.getElem_mem (by omega),rfl,rfl⟩
   rintro _ ⟨n,h,hh,rfl⟩
   have hok:=hq h hh
   have h7:=hok.len (by omega) (by omega)
   refine aR (fun δ => ∃ (n:Int) (cs:List Int),δ = [.ow true [.int n],.pu (.int M),.pu (.int Z),.ow false (hs.map hD),.pu (.int k),.pu (.int way),.pu (hD h),.pu (.lst (cs.map .int)),a8,a9,a10] ∧ cs.Sublist h) ?_ ?_
   ·simp only [dW,ax,au]
    refine eE (h.map .int) (fun j acc δ => ∃ (n:Int) (cs:List Int),acc = cs.map .int ∧ δ = [.ow true [.int n],.pu (.int M),.pu (.int Z),.ow false (hs.map hD),.pu (.int k),.pu (.int way),.pu (hD h),a7,a8,a9,a10] ∧ cs.Sublist (h.take j)) rfl ?_ (by simp; omega) ⟨n,[],rfl,rfl,by simp⟩ ?_ ?_
    ·simp [f7]
    ·rintro j hj acc _ ha hl ⟨n,cs,rfl,rfl,hb⟩
     have hj':j < h.length:=by simpa using hj
     rw [List.getElem_map]
     have e3:=aK n 3 (by omega) (by omega)
     have tk:h.take (j + 1) = h.take j ++ [h[j]]:=List.take_succ_eq_append_getElem hj'
     by_cases q:0 < n % 3
     ·simp [-Prod.exists,e3,vA,cg,q]
      exact ⟨_,cs ++ [h[j]],by simp,rfl,by rw [tk]; exact List.Sublist.append hb (List.Sublist.refl _)⟩
     ·simp [-Prod.exists,e3,vA,cg,q]
      exact ⟨_,cs,rfl,rfl,by rw [tk]; exact hb.trans (List.sublist_append_left _ _)⟩
    ·rintro xs _ hx hl ⟨n,cs,rfl,rfl,hb⟩
     rw [List.length_map,List.take_length] at hb
     exact ⟨by simp,trivial,n,cs,rfl,hb⟩
   rintro _ ⟨n,cs,rfl,hcs⟩
   refine aR (fun δ => δ = [.ow true [.int n],.pu (.int M),.pu (.int Z),.ow false (hs.map hD),.pu (.int k),.pu (.int way),.pu (hD h),.pu (.lst (cs.map .int)),.pu (.lst (lD (fP M hs))),a9,a10]) ?_ ?_
   ·simp only [dW,ax,au]
    refine aX (List.range M) (fun (i:Nat) => .int (i:Int)) (fun c => if (hs.any fun h => decide ((c:Int) ∈ h)) = true then some (.int (c:Int)) else none) rfl ?_ (by simp; omega) (fun c hc => ?_) ?_
    ·simp [cZ,sM,bL]
    ·simp only [cP,bA,ax,dX]
     refine ⟨by simp,?_⟩
     refine w6 (i:=3) (b:=false) hs hD (fun h => if decide ((c:Int) ∈ h) = true then some (hD h) else none) rfl rfl ?_ (by omega) (fun h hh => ?_) ?_
     ·simp
     ·by_cases q:(c:Int) ∈ h <;> simp [eK,q]
     ·rw [aO]
      have:=FH hs (c:Int)
      cases q:(hs.any fun h => decide ((c:Int) ∈ h)) with
      | true =>
       rw [q] at this
       simp only [au,dU,dw,List.length_nil,Nat.zero_le,true_and,cG,this,b9,eT,if_true,D.bl.injEq,exists_eq_left']
       simp
      | false =>
       rw [q] at this
       simp only [au,dU,dw,List.length_nil,Nat.zero_le,true_and,cG,this,b9,eT,if_true,D.bl.injEq,exists_eq_left']
       simp
    ·rw [aO]
     simp [lD,fP]
   rintro _ rfl
   refine aR (fun δ => ∃ (n:Int) (fs:List Int),δ = [.ow true [.int n],.pu (.int M),.pu (.int Z),.ow false (hs.map hD),.pu (.int k),.pu (.int way),.pu (hD h),.pu (.lst (cs.map .int)),.pu (.lst (lD (fP M hs))),.pu (.lst (fs.map .int)),a10] ∧ Up M M fs ∧ ∀ c ∈ fs,c ∉ h) ?_ ?_
   ·simp only [dW,ax,au]
    refine eE (bL 0 M) (fun j acc δ => ∃ (n:Int) (fs:List Int),acc = fs.map .int ∧ δ = [.ow true [.int n],.pu (.int M),.pu (.int Z),.ow false (hs.map hD),.pu (.int k),.pu (.int way),.pu (hD h),.pu (.lst (cs.map .int)),.pu (.lst (lD (fP M hs))),a9,a10] ∧ Up M j fs ∧ ∀ c ∈ fs,c ∉ h) rfl ?_ (by simp [bL]; omega) ⟨n,[],rfl,rfl,⟨List.Pairwise.nil,by simp⟩,by simp⟩ ?_ ?_
    ·simp [cZ,sM]
    ·rintro j hj acc _ ha hl ⟨n,fs,rfl,rfl,hb,hn⟩
     have hj':j < M:=by simpa [bL] using hj
     rw [gm]
     have e2:=aK n 2 (by omega) (by omega)
     by_cases q:j ∈ fP M hs
     ·simp only [cP,bA,jL,ax,dX,bX]
      simp [-Prod.exists,lA,q]
      exact ⟨_,fs,rfl,rfl,hb.more,hn⟩
     ·have nh:(j:Int) ∉ h:=fun z => q (List.mem_filter.mpr ⟨List.mem_range.mpr hj',List.any_eq_true.mpr ⟨h,hh,decide_eq_true z⟩⟩)
      by_cases q2:n % 2 = 0
      ·simp only [cP,bA,jL,ax,dX,bX]
       simp [-Prod.exists,lA,q,e2,bO,q2]
       refine ⟨_,fs ++ [(j:Int)],by simp,rfl,hb.snoc hj',fun c hc => ?_⟩
       rcases List.mem_append.mp hc with z | z
       ·exact hn c z
       ·rw [List.mem_singleton.mp z]; exact nh
      ·simp only [cP,bA,jL,ax,dX,bX]
       simp [-Prod.exists,lA,q,e2,bO,q2]
       exact ⟨_,fs,rfl,rfl,hb.more,hn⟩
    ·rintro xs _ hx hl ⟨n,fs,rfl,rfl,hb,hn⟩
     have:(bL 0 M).length = M:=by simp [bL]
     rw [this] at hb
     exact ⟨by simp,trivial,n,fs,rfl,hb,hn⟩
   rintro _ ⟨n,fs,rfl,hfs,hfn⟩
   have hcl:=hcs.length_le
   have hfl:fs.length ≤ 7:= by
    have:=qh fs 0 M hfs.1 (fun c hc => by have:=hfs.2 c hc; omega) (by omega)
    omega
   have l1:cs.length + fs.length ≤ 100000:=by omega
   have l2:(cs ++ fs).length < 64:=by rw [List.length_append]; omega
   refine aR (fun δ => δ = [.ow true [.int n],.pu (.int M),.pu (.int Z),.ow false (hs.map hD),.pu (.int k),.pu (.int way),.pu (hD h),.pu (.lst (cs.map .int)),.pu (.lst (lD (fP M hs))),.pu (.lst (fs.map .int)),.pu (.lst ((dA (cs ++ fs)).map .int))]) ?_ ?_
   ·have e:fG (cs.map D.int ++ fs.map D.int) = some (cs ++ fs):=by rw [<- List.map_append,fY]
    have es:sortI (cs.map D.int ++ fs.map D.int) = some ((dA (cs ++ fs)).map D.int):= by
     unfold sortI
     rw [e]
     exact if_pos l2
    simp [kh,wO,l1,fK,es]
   rintro _ rfl
   have hnd:(cs ++ fs).Nodup:=vF (hok.2.1.sublist hcs) hfs.1 fun x hx hy => hfn x hy (hcs.subset hx)
   have hpos':0 < h.length:=List.length_pos_iff.mpr hok.1
   have e7:=aK n h.length (by omega) (by omega)
   refine aR (fun δ => ∃ (n:Int) (g:List Int),δ = [.ow true [.int n],.pu (.int M),.pu (.int Z),.ow false (hs.map hD),.pu (.int k),.pu (.int way),.pu (hD h),.pu (.lst (cs.map .int)),.pu (.lst (lD (fP M hs))),.pu (.lst (fs.map .int)),.pu (.lst (g.map .int))] ∧ eN M g) ?_ ?_
   ·by_cases q:dA (cs ++ fs) = []
    ·obtain ⟨j,hj,ej⟩:∃ j,∃ hj:j < h.length,n % (h.length:Int) = (j:Int):= by
      have g1:=Int.emod_nonneg n (show (h.length:Int) ≠ 0 by omega)
      have g2:=Int.emod_lt_of_pos n (show (0:Int) < h.length by omega)
      exact ⟨(n % (h.length:Int)).toNat,by omega,by omega⟩
     rw [ej] at e7
     have ei:cQ (hD h) (.int (j:Int)) = some (.int h[j]):= by
      show jx _ _ = _
      rw [eA _ _ (by simpa using hj)]
      simp
     have el:br [hD h] = some (.int h.length):=by simp [hD,br]
     simp [-Prod.exists,q,cG,el,e7,ei]
     refine ⟨_,[h[j]],⟨rfl,rfl⟩,by simp,by simp,fun c hc => ?_⟩
     rw [List.mem_singleton.mp hc]
     exact hok.2.2 _ (List.getElem_mem hj)
    ·have q':((dA (cs ++ fs)).map D.int).isEmpty = false:= by
      cases z:dA (cs ++ fs) with
      | nil => exact absurd z q
      | cons a r => rfl
     simp only [xm,ax,dX,bX,dU,au,dw,List.getElem?_cons_zero,List.getElem?_cons_succ,Option.some.injEq,Jt.Slot.pu.injEq,exists_eq_left',List.length_nil,Nat.zero_le,true_and,cG,q',b9,eT,Bool.false_eq_true,if_false,D.bl.injEq]
     refine ⟨n,_,rfl,q,mN hnd,fun c hc => ?_⟩
     rw [kA] at hc
     rcases List.mem_append.mp hc with z | z
     ·exact hok.2.2 c (hcs.subset z)
     ·have:=hfs.2 c z; omega
   rintro _ ⟨n,g,rfl,hg⟩
   refine d5 ⟨_,_,rfl⟩ ?_
   have hl3:hs.length ≤ 100000:=by omega
   simp [d6,hl3]
   refine ⟨_,hs ++ [g],⟨rfl,by simp [hD]⟩,by simp [hlen],fun h' hh' => ?_⟩
   rcases List.mem_append.mp hh' with z | z
   ·exact hq h' z
   ·rw [List.mem_singleton.mp z]; exact hg
  ·rintro _ ⟨n,hs,a4,a5,a6,a7,a8,a9,a10,rfl,hlen,hq⟩
   have:(bL 0 (Z - 1)).length = Z - 1:=by simp [bL]
   rw [this] at hlen
   exact ⟨rfl,n,hs,_,_,_,_,_,_,_,rfl,by omega,hq⟩
 rintro _ ⟨n,hs,a4,a5,a6,a7,a8,a9,a10,rfl,hlen,hq⟩
 simp
 exact ⟨hs,rfl,hlen,hq⟩
end K42
namespace K42
open PySem L2 Jt
open Builtin.Int (intBits)
theorem B6 {M S k:Nat} (hS:3 ≤ S) (hSM:S ≤ M) (hk:k < S):eN M (dA [(k:Int),((k:Int) + 1) % (S:Int)]):= by
 have a1:=Int.emod_nonneg ((k:Int) + 1) (show (S:Int) ≠ 0 by omega)
 have a2:=Int.emod_lt_of_pos ((k:Int) + 1) (show (0:Int) < S by omega)
 have ne:(k:Int) ≠ ((k:Int) + 1) % (S:Int):= by
  by_cases q:k + 1 < S
  ·rw [Int.emod_eq_of_lt (by omega) (by omega)]; omega
  ·rw [show (k:Int) + 1 = S by omega,Int.emod_self]; omega
 refine ⟨?_,mN (by simpa using ne),?_⟩
 ·intro e
  have:=congrArg List.length e
  rw [oo] at this
  simp at this
 ·intro c hc
  rw [kA] at hc
  rcases List.mem_cons.mp hc with rfl | hc
  ·omega
  ·rw [List.mem_singleton.mp hc]; omega
theorem A8 {M S k:Nat} (hS:3 ≤ S) (hSM:S ≤ M):eN M (((List.range S).filter fun i => decide (i ≠ k)).map fun (i:Nat) => (i:Int)):= by
 refine ⟨?_,?_,?_⟩
 ·intro e
  have:(if k = 0 then 1 else 0) ∈ (List.range S).filter fun i => decide (i ≠ k):= by
   rw [List.mem_filter,List.mem_range]
   split <;> simp <;> omega
  rw [List.map_eq_nil_iff] at e
  rw [e] at this; cases this
 ·refine List.Pairwise.map _ (fun a b hab => ?_) (List.Pairwise.filter _ List.pairwise_lt_range)
  exact Int.ofNat_lt.mpr hab
 ·intro c hc
  obtain ⟨i,hi,rfl⟩:=List.mem_map.mp hc
  have:=List.mem_range.mp (List.mem_filter.mp hi).1
  omega
theorem p8 (n0:Int) {M:Nat} (hM3:3 ≤ M) (hM7:M ≤ 7):∃ d xs',bz nz w9 [.int n0] [.int M] = some (d,xs') ∧ (∃ hs:List (List Int),d = .lst (hs.map hD) ∧ 3 ≤ hs.length ∧ hs.length ≤ 6 ∧ ∀ h ∈ hs,eN M h) ∧ ∃ n:Int,xs' = [.int n]:= by
 apply eP
 show Ok w9 [.ow true [.int n0],.pu (.int M),.un] _
 unfold w9
 obtain ⟨N,hN,hN1,hN2,hNM⟩:∃ N:Nat,(if (M:Int) < 6 then (M:Int) else 6) = (N:Int) ∧ 3 ≤ N ∧ N ≤ 6 ∧ N ≤ M:= by
  refine ⟨(if (M:Int) < 6 then (M:Int) else 6).toNat,?_,?_,?_,?_⟩ <;> split <;> omega
 have lot:∀ n:Int,Ok (aJ (dY 2 (m2 dk (pure (.int 3)) (do let _ <- aI 0; cf 0 2 (bz cv cq) (ae (m2 kL (mC nj (ae (pure (.int 6)) (ae (ag 1) (pure [])))) (pure (.int 2))) (pure [])))))
  (do let d <- (do let xs <- (aU 3 1 (mC cZ (ae (ag 2) (pure []))) (aZ (aY 3) (pure true) (mC cX (ae (do let xs <- (aU 4 1 (mC cZ (ae (ag 2) (pure []))) (aZ (aY 4) ((m2 (i_ true) (ag 4) (ag 3)) >>= cx) (ag 4))); pure (D.lst xs)) (pure []))))); pure (D.lst xs)); pure (Fl.rt d))) [.ow true [.int n],.pu (.int M),.un] (fun fl δ => ∃ d,fl = .rt d ∧ ∃ xs',δ[0]? = some (.ow true xs') ∧ (∃ hs:List (List Int),d = .lst (hs.map hD) ∧ 3 ≤ hs.length ∧ hs.length ≤ 6 ∧ ∀ h ∈ hs,eN M h) ∧ ∃ n:Int,xs' = [.int n]):= by
  intro n
  have hp:(0:Int) < N - 2:=by omega
  have hq:(N:Int) - 2 < 1073741824:=by omega
  obtain ⟨S,hS,hS1,hS2⟩:∃ S:Nat,3 + n % ((N:Int) - 2) = (S:Int) ∧ 3 ≤ S ∧ S ≤ N:= by
   have h1:=Int.emod_nonneg n (show (N:Int) - 2 ≠ 0 by omega)
   have h2:=Int.emod_lt_of_pos n hp
   exact ⟨(3 + n % ((N:Int) - 2)).toNat,by omega,by omega,by omega⟩
  have hsm:bt S = true:=by simp [bt]; omega
  refine aR (fun δ => δ = [.ow true [.int (n / ((N:Int) - 2))],.pu (.int M),.pu (.int S)]) ?_ ?_
  ·simp [-Prod.exists,nj,hN,kL,dk,cg,aK _ _ hp hq,hS]
  rintro _ rfl
  simp only [ax,au]
  refine aX (List.range S) (fun (k:Nat) => .int (k:Int)) (fun k => some (hD (((List.range S).filter fun i => decide (i ≠ k)).map fun (i:Nat) => (i:Int)))) rfl ?_ (by simp; omega) (fun k _ => ?_) ?_
  ·simp [cZ,hsm,bL]
  ·simp
   refine aX (List.range S) (fun (k:Nat) => .int (k:Int)) (fun i => if decide (i ≠ k) = true then some (.int (i:Int)) else none) rfl ?_ (by simp; omega) (fun i _ => ?_) ?_
   ·simp [cZ,hsm,bL]
   ·by_cases e:i = k <;> simp [A7,e]
   ·rw [aO]
    simp [cX,fK,hD]
  ·refine ⟨_,rfl,_,rfl,⟨(List.range S).map fun (k:Nat) => (((List.range S).filter fun i => decide (i ≠ k)).map fun (i:Nat) => (i:Int)),by simp [List.filterMap_eq_map'],by simp; omega,by simp; omega,fun h hh => ?_⟩,_,rfl⟩
   obtain ⟨k,hk,rfl⟩:=List.mem_map.mp hh
   exact A8 hS1 (by omega)
 by_cases h3:M = 3
 ·rw [cN]
  have:(M:Int) = 3:=by omega
  refine i5 (fun b δ => b = true ∧ δ = [.ow true [.int n0],.pu (.int M),.un]) ?_ ?_ ?_
  ·simp [bO,this]
  ·rintro _ ⟨_,rfl⟩
   refine (lot n0).mono fun fl δ1 ⟨d,e,xs',q⟩ => ?_
   subst e
   exact ⟨d,xs',rfl,q⟩
  ·rintro _ ⟨h,_⟩; cases h
 ·have h3':¬ ((M:Int) = 3):=by omega
  have e2:=aK n0 2 (by omega) (by omega)
  rw [cN]
  refine i5 (fun b δ => δ = [.ow true [.int (n0 / 2)],.pu (.int M),.un]) ?_ ?_ ?_
  ·simp [-Prod.exists,bO,h3',e2]
   omega
  ·rintro _ rfl
   refine (lot _).mono fun fl δ1 ⟨d,e,xs',q⟩ => ?_
   subst e
   exact ⟨d,xs',rfl,q⟩
  ·rintro _ rfl
   rw [au]
   generalize n0 / 2 = n
   have hp:(0:Int) < N - 3:=by omega
   have hq:(N:Int) - 3 < 1073741824:=by omega
   obtain ⟨S,hS,hS1,hS2⟩:∃ S:Nat,4 + n % ((N:Int) - 3) = (S:Int) ∧ 3 ≤ S ∧ S ≤ N:= by
    have h1:=Int.emod_nonneg n (show (N:Int) - 3 ≠ 0 by omega)
    have h2:=Int.emod_lt_of_pos n hp
    exact ⟨(4 + n % ((N:Int) - 3)).toNat,by omega,by omega,by omega⟩
   have hsm:bt S = true:=by simp [bt]; omega
   refine aR (fun δ => δ = [.ow true [.int (n / ((N:Int) - 3))],.pu (.int M),.pu (.int S)]) ?_ ?_
   ·simp [-Prod.exists,nj,hN,kL,dk,cg,aK _ _ hp hq,hS]
   rintro _ rfl
   simp only [ax,au]
   refine aX (List.range S) (fun (k:Nat) => .int (k:Int)) (fun k => some (hD (dA [(k:Int),((k:Int) + 1) % (S:Int)]))) rfl ?_ (by simp; omega) (fun k _ => ?_) ?_
   ·simp [cZ,hsm,bL]
   ·have:0 < S:=by omega
    simp [dk,nD,cg,fK,sortI,fG,this,cX,hD]
   ·refine ⟨_,_,rfl,rfl,⟨(List.range S).map fun (k:Nat) => dA [(k:Int),((k:Int) + 1) % (S:Int)],by simp [List.filterMap_eq_map'],by simp; omega,by simp; omega,fun h hh => ?_⟩,_,rfl⟩
    obtain ⟨k,hk,rfl⟩:=List.mem_map.mp hh
    exact B6 hS1 (by omega) (List.mem_range.mp hk)
theorem zR {ls:List Nat} (h:ls.Nodup) (j:Nat):(ls.eraseIdx j).Nodup:=h.sublist (List.eraseIdx_sublist ls j)
theorem kM {ls:List Nat} (h:ls.Nodup) {j:Nat} (hj:j < ls.length):ls[j] ∉ ls.eraseIdx j:=fun hm => by
 obtain ⟨i,hi,e⟩:=List.mem_eraseIdx_iff_getElem.mp hm
 obtain ⟨hl,e⟩:=e
 have:=(List.getElem_inj h).mp e
 exact hl this
theorem rK (n0:Int) {M:Nat} {hs:List (List Int)} (hM1:1 ≤ M) (hM7:M ≤ 7) (h1:1 ≤ hs.length) (h6:hs.length ≤ 6) (hq:∀ h ∈ hs,eN M h):∃ d xs',bz fW kZ [.int n0] [.int M,.lst (hs.map hD)] = some (d,xs') ∧ (∃ gs:List (List Int),d = .tup (gs.map hD) ∧ gs.length = hs.length ∧ ∀ g ∈ gs,eN M g) ∧ ∃ n:Int,xs' = [.int n]:= by
 apply eP
 show Ok kZ [.ow true [.int n0],.pu (.int M),.pu (.lst (hs.map hD)),.un,.un,.un,.un] _
 unfold kZ
 have hn:(M:Int) < 100000:=by omega
 have sM:bt M = true:=by simp [bt]; omega
 refine aR (fun δ => δ = [.ow true [.int n0],.pu (.int M),.pu (.lst (hs.map hD)),.ow false (lD (List.range M)),.un,.un,.un]) (by simp [C6,hn,tj]) ?_
 rintro _ rfl
 refine aR (fun δ => ∃ (n:Int) (ls os:List Nat),δ = [.ow true [.int n],.pu (.int M),.pu (.lst (hs.map hD)),.ow false (lD ls),.pu (.lst (lD os)),.un,.un] ∧ os.length = M ∧ os.Nodup ∧ ∀ o ∈ os,o < M) ?_ ?_
 ·simp only [dW,ax,au]
  refine eE (bL 0 M) (fun k acc δ => ∃ (n:Int) (ls os:List Nat),acc = lD os ∧ δ = [.ow true [.int n],.pu (.int M),.pu (.lst (hs.map hD)),.ow false (lD ls),.un,.un,.un] ∧ os.length = k ∧ ls.length + k = M ∧ os.Nodup ∧ ls.Nodup ∧ (∀ o ∈ os,o < M ∧ o ∉ ls) ∧ ∀ o ∈ ls,o < M) rfl ?_ (by simp [bL]; omega) ⟨n0,List.range M,[],rfl,rfl,rfl,by simp,by simp,List.nodup_range,by simp,by simp⟩ ?_ ?_
  ·simp [cZ,sM]
  ·rintro k hk acc _ ha hl ⟨n,ls,os,rfl,rfl,h1,h2,h3,h4,h5,h6⟩
   have hk':k < M:=by simpa [bL] using hk
   have et:=aK n ls.length (by omega) (by omega)
   have g1:=Int.emod_nonneg n (show (ls.length:Int) ≠ 0 by omega)
   have g2:=Int.emod_lt_of_pos n (show (0:Int) < ls.length by omega)
   obtain ⟨j,hj⟩:∃ j:Nat,n % (ls.length:Int) = (j:Int):=⟨(n % (ls.length:Int)).toNat,by omega⟩
   have hlt:j < ls.length:=by omega
   rw [hj] at et
   rw [gm]
   simp only [cP,bA,au]
   refine ⟨by simp,?_⟩
   simp only [if_true]
   refine vk ⟨_,_,rfl⟩ ?_
   simp [-Prod.exists,dv,et]
   have hne:=kM h4 hlt
   have hmem:=List.getElem_mem hlt
   refine ⟨j,rfl,by omega,.int (ls[j]:Int),by simp [lD,hlt],_,ls.eraseIdx j,os ++ [ls[j]],by simp [lD],⟨rfl,ky _ ls j⟩,by simp [h1],?_,?_,zR h4 j,?_,fun o ho => h6 o (List.mem_of_mem_eraseIdx ho)⟩
   ·rw [List.length_eraseIdx,if_pos hlt]; omega
   ·refine List.nodup_append.mpr ⟨h3,by simp,fun a ha b hb e => ?_⟩
    rw [List.mem_singleton.mp hb] at e
    exact (h5 a ha).2 (e ▸ hmem)
   ·intro o ho
    rcases List.mem_append.mp ho with z | z
    ·exact ⟨(h5 o z).1,fun q => (h5 o z).2 (List.mem_of_mem_eraseIdx q)⟩
    ·rw [List.mem_singleton.mp z]; exact ⟨h6 _ hmem,hne⟩
  ·rintro xs _ hx hl ⟨n,ls,os,rfl,rfl,h1,h2,h3,h4,h5,h6⟩
   have:(bL 0 M).length = M:=by simp [bL]
   exact ⟨by simp,trivial,n,ls,os,rfl,by omega,h3,fun o ho => (h5 o ho).1⟩
 rintro _ ⟨n,ls,os,rfl,o1,o2,o3⟩
 let mv:List Int -> List Int:=fun h => dA (h.map fun c => ((os.getD c.toNat 0:Nat):Int))
 have mvOk:∀ h ∈ hs,eN M (mv h):=fun h hh => by
  obtain ⟨q1,q2,q3⟩:=hq h hh
  have inj:(h.map fun c => ((os.getD c.toNat 0:Nat):Int)).Nodup:= by
   refine List.Pairwise.map _ (fun a b (hab:a ∈ h ∧ b ∈ h ∧ a < b) e => ?_) (List.Pairwise.imp_of_mem (fun {a b} ha hb (l:a < b) => (⟨ha,hb,l⟩:a ∈ h ∧ b ∈ h ∧ a < b)) q2)
   have ha:=q3 a hab.1
   have hb:=q3 b hab.2.1
   have e':=Int.ofNat_inj.mp e
   rw [List.getD_eq_getElem?_getD,List.getD_eq_getElem?_getD,List.getElem?_eq_getElem (by omega),List.getElem?_eq_getElem (by omega)] at e'
   have:=(List.getElem_inj o2).mp e'
   have:=hab.2.2
   omega
  refine ⟨?_,mN inj,fun c hc => ?_⟩
  ·intro e
   have:=congrArg List.length e
   rw [oo,List.length_map] at this
   exact q1 (List.eq_nil_of_length_eq_zero this)
  ·rw [kA] at hc
   obtain ⟨x,hx,rfl⟩:=List.mem_map.mp hc
   have:=q3 x hx
   have hlt:x.toNat < os.length:=by omega
   rw [List.getD_eq_getElem?_getD,List.getElem?_eq_getElem hlt]
   have:=o3 _ (List.getElem_mem hlt)
   simp; omega
 refine aR (fun δ => δ = [.ow true [.int n],.pu (.int M),.pu (.lst (hs.map hD)),.ow false (lD ls),.pu (.lst (lD os)),.ow false ((hs.map mv).map hD),.un]) ?_ ?_
 ·simp only [FQ]
  refine aX hs hD (fun h => some (hD (mv h))) rfl ?_ (by omega) (fun h hh => ?_) ?_
  ·simp [aF]
  ·have h7:=(hq h hh).len (by omega) (by omega)
   simp only [cP,bA,au,if_true,fH,bQ,ax,Du]
   refine ⟨by simp,?_⟩
   refine aX h .int (fun c => some (.int ((os.getD c.toNat 0:Nat):Int))) rfl ?_ (by omega) (fun c hc => ?_) ?_
   ·simp [f7]
   ·have hb:=(hq h hh).2.2 c hc
    have e:cQ (.lst (lD os)) (.int c) = some (.int ((os.getD c.toNat 0:Nat):Int)):= by
     obtain ⟨i,rfl⟩:∃ i:Nat,c = (i:Int):=⟨c.toNat,by omega⟩
     show jx _ _ = _
     have:i < os.length:=by omega
     rw [eA _ _ (by rw [dv]; omega)]
     simp [lD,this]
    simp [e]
   ·have es:sortI (h.map fun c => D.int ((os.getD c.toNat 0:Nat):Int)) = some ((mv h).map D.int):= by
     have:(h.map fun c => D.int ((os.getD c.toNat 0:Nat):Int)) = (h.map fun c => ((os.getD c.toNat 0:Nat):Int)).map D.int:=by rw [List.map_map]; rfl
     unfold sortI
     rw [this,fY]
     exact if_pos (by rw [List.length_map]; omega)
    simp only [List.filterMap_eq_map',fK,b9,es,d6,au]
    simp [hD]
  ·simp [List.filterMap_eq_map']
 rintro _ rfl
 refine aR (fun δ => δ = [.ow true [.int n],.pu (.int M),.pu (.lst (hs.map hD)),.ow false (lD ls),.pu (.lst (lD os)),.ow false ((hs.map mv).map hD),.ow false []]) (by simp) ?_
 rintro _ rfl
 refine aR (fun δ => ∃ (n:Int) (gs:List (List Int)) (a5:Jt.Slot),δ = [.ow true [.int n],.pu (.int M),.pu (.lst (hs.map hD)),.ow false (lD ls),.pu (.lst (lD os)),a5,.ow false (gs.map hD)] ∧ gs.length = hs.length ∧ ∀ g ∈ gs,eN M g) ?_ ?_
 ·refine vq (fun k δ => ∃ (n:Int) (rs gs:List (List Int)),δ = [.ow true [.int n],.pu (.int M),.pu (.lst (hs.map hD)),.ow false (lD ls),.pu (.lst (lD os)),.ow false (rs.map hD),.ow false (gs.map hD)] ∧ rs.length = k ∧ gs.length + k = hs.length ∧ (∀ g ∈ gs,eN M g) ∧ ∀ g ∈ rs,eN M g) ?_ 7 hs.length _ (by omega) ⟨n,hs.map mv,[],rfl,by simp,by simp,by simp,fun g hg => ?_⟩
  ·rintro k _ ⟨n,rs,gs,rfl,r1,r2,r3,r4⟩
   have e1:(rs.map hD).isEmpty = rs.isEmpty:=by rw [List.isEmpty_map]
   cases q:rs.isEmpty with
   | true =>
    have:k = 0:=by rw [<- r1,List.isEmpty_iff.mp q]; rfl
    simp [jU,e1,q]
    exact .inl ⟨List.isEmpty_iff.mp q,_,gs,⟨rfl,rfl⟩,by omega,r3⟩
   | false =>
    simp only [ax,yy,vn,dU,au,dw,eT,yH,yM,List.getElem?_cons_zero,List.getElem?_cons_succ,Option.some.injEq,List.length_nil,Nat.zero_le,true_and,jU,D.bl.injEq]
    refine ⟨_,_,rfl,_,_,rfl,?_⟩
    simp only [jU,e1,q,b9,D.bl.injEq,exists_eq_left']
    refine ⟨fun _ => ?_,fun h => by cases h⟩
    have hpos:0 < rs.length:=List.length_pos_iff.mpr fun z => by rw [z] at q; cases q
    have et:=aK n rs.length (by omega) (by omega)
    have g1:=Int.emod_nonneg n (show (rs.length:Int) ≠ 0 by omega)
    have g2:=Int.emod_lt_of_pos n (show (0:Int) < rs.length by omega)
    obtain ⟨j,hj⟩:∃ j:Nat,n % (rs.length:Int) = (j:Int):=⟨(n % (rs.length:Int)).toNat,by omega⟩
    have hlt:j < rs.length:=by omega
    rw [hj] at et
    refine ⟨k - 1,by omega,?_⟩
    refine d5 ⟨_,_,rfl⟩ ?_
    simp only [bQ]
    refine vk ⟨_,_,rfl⟩ ?_
    simp [-Prod.exists,et]
    refine ⟨j,rfl,by omega,hD rs[j],by simp [hlt],by omega,n / (rs.length:Int),rs.eraseIdx j,gs ++ [rs[j]],⟨rfl,ky _ rs j,by simp⟩,?_,by simp; omega,fun g hg => ?_,fun g hg => r4 g (List.mem_of_mem_eraseIdx hg)⟩
    ·rw [List.length_eraseIdx,if_pos hlt]; omega
    ·rcases List.mem_append.mp hg with z | z
     ·exact r3 g z
     ·rw [List.mem_singleton.mp z]; exact r4 _ (List.getElem_mem hlt)
  ·obtain ⟨h,hh,rfl⟩:=List.mem_map.mp hg
   exact mvOk h hh
 rintro _ ⟨n,gs,a5,rfl,g1,g2⟩
 simp
 exact ⟨gs,rfl,g1,g2⟩
end K42
namespace K42
open PySem L2 Jt
open Builtin.Int (intBits)
theorem td {lo own:Nat} {fi:M lg} {turn:D -> M (Option D)} {Q:List D -> DS -> Prop} {δ:DS} (hl:δ.length = lo) (h:Ok fi δ fun it δ' => Ok (aU lo own (pure it) turn) δ' Q):Ok (aU lo own fi turn) δ Q:= by
 obtain ⟨it,δ',e,z⟩:=h
 obtain ⟨xs,δ2,e2,q⟩:=z
 refine ⟨xs,δ2,?_,q⟩
 unfold aU at e2 ⊢
 obtain ⟨u,δ3,e3,e4⟩:=bind_some e2
 obtain ⟨it',δ4,e5,e6⟩:=bind_some e4
 obtain ⟨rfl,rfl⟩:=ar e5
 have e7:δ3 = δ':= by
  unfold i9 at e3
  split at e3
  ·cases e3; rfl
  ·cases e3
 subst e7
 show (i9 lo >>= _) δ = _
 have:i9 lo δ = some ((),δ):=by unfold i9; rw [if_pos hl]
 simp only [M.bind_def,this,e] at e6 ⊢
 exact e6
theorem mw {M:Nat} (hM1:1 ≤ M) (hM7:M ≤ 7) (Z:Nat) (hZ:Z ≤ 100) (n:Int) {a1 a2 a4 a5 a6 a7:Jt.Slot} {fi:Jt.M lg} {Q:List D -> DS -> Prop}
  (hi:Ok fi [.ow true [.int n],a1,a2,.pu (.int M),a4,a5,a6,a7] fun it δ' => it = a_ (bL 0 Z) ∧ δ' = [.ow true [.int n],a1,a2,.pu (.int M),a4,a5,a6,a7])
  (hQ:∀ (hs:List (List Int)) (n:Int),hs.length = Z -> (∀ h ∈ hs,eN M h) -> Q (hs.map hD) [.ow true [.int n],a1,a2,.pu (.int M),a4,a5,a6,a7]) :
  Ok (aU 8 1 fi (aZ (aY 8) (pure true) (do let _ <- aI 0; cf 0 2 (bz ik je) (ae (ag 3) (pure []))))) [.ow true [.int n],a1,a2,.pu (.int M),a4,a5,a6,a7] Q:= by
 refine eE (bL 0 Z) (fun k acc δ => ∃ (n:Int) (hs:List (List Int)),acc = hs.map hD ∧ δ = [.ow true [.int n],a1,a2,.pu (.int M),a4,a5,a6,a7] ∧ hs.length = k ∧ ∀ h ∈ hs,eN M h) rfl hi (by simp [bL]; omega) ⟨n,[],rfl,rfl,rfl,by simp⟩ ?_ ?_
 ·rintro k hk acc _ ha hl ⟨n,hs,rfl,rfl,h1,h2⟩
  rw [gm]
  obtain ⟨d,xs',eh,⟨h,rfl,hh⟩,n',rfl⟩:=m9 n hM1 hM7
  simp [-Prod.exists,eh]
  refine ⟨n',hs ++ [h],by simp,rfl,by simp [h1],fun g hg => ?_⟩
  rcases List.mem_append.mp hg with z | z
  ·exact h2 g z
  ·rw [List.mem_singleton.mp z]; exact hh
 ·rintro xs _ hx hl ⟨n,hs,rfl,rfl,h1,h2⟩
  exact hQ hs n (by rw [h1]; simp [bL]) h2
theorem pZ (n0:Int) {P Z:Nat} (hP1:1 ≤ P) (hP7:P ≤ 7) (hZ1:1 ≤ Z) (hZ6:Z ≤ 6):∃ d xs',bz qo xI [.int n0] [.int P,.int Z] = some (d,xs') ∧ LQ d xs':= by
 apply eP
 show Ok xI [.ow true [.int n0],.pu (.int P),.pu (.int Z),.un,.un,.un,.un,.un] _
 unfold xI
 obtain ⟨M,hM,hM1,hM7⟩:∃ M:Nat,1 + n0 % (P:Int) = (M:Int) ∧ 1 ≤ M ∧ M ≤ 7:= by
  have h1:=Int.emod_nonneg n0 (show (P:Int) ≠ 0 by omega)
  have h2:=Int.emod_lt_of_pos n0 (show (0:Int) < P by omega)
  exact ⟨(1 + n0 % (P:Int)).toNat,by omega,by omega,by omega⟩
 refine aR (fun δ => ∃ n:Int,δ = [.ow true [.int n],.pu (.int P),.pu (.int Z),.pu (.int M),.un,.un,.un,.un]) ?_ ?_
 ·simp [-Prod.exists,aK n0 P (by omega) (by omega),dk,cg,hM]
 rintro _ ⟨n,rfl⟩
 obtain ⟨N,hN,hN1,hN7⟩:∃ M:Nat,1 + n % (Z:Int) = (M:Int) ∧ 1 ≤ M ∧ M ≤ Z:= by
  have h1:=Int.emod_nonneg n (show (Z:Int) ≠ 0 by omega)
  have h2:=Int.emod_lt_of_pos n (show (0:Int) < Z by omega)
  exact ⟨(1 + n % (Z:Int)).toNat,by omega,by omega,by omega⟩
 refine aR (fun δ => ∃ n:Int,δ = [.ow true [.int n],.pu (.int P),.pu (.int Z),.pu (.int M),.pu (.int N),.un,.un,.un]) ?_ ?_
 ·simp [-Prod.exists,aK n Z (by omega) (by omega),dk,cg,hN]
 rintro _ ⟨n,rfl⟩
 refine aR (fun δ => ∃ n way:Int,δ = [.ow true [.int n],.pu (.int P),.pu (.int Z),.pu (.int M),.pu (.int N),.pu (.int way),.un,.un]) ?_ ?_
 ·simp [-Prod.exists,aK n 5 (by omega) (by omega)]
 rintro _ ⟨n,way,rfl⟩
 have fin:∀ {hs:List (List Int)} (n:Int),1 ≤ hs.length -> hs.length ≤ 6 -> (∀ h ∈ hs,eN M h) -> ∃ d xs',bz fW kZ [.int n] [.int M,.lst (hs.map hD)] = some (d,xs') ∧ LQ (.tup [.int M,d]) xs':=fun n h1 h6 hq => by
  obtain ⟨d,xs',e,⟨gs,rfl,g1,g2⟩,n',rfl⟩:=rK n hM1 hM7 h1 h6 hq
  exact ⟨_,_,e,M,gs,n',rfl,rfl,by omega,by omega,by omega,g2⟩
 refine bP (decide (way = 0 ∧ 2 < M)) ?_ ?_ ?_
 ·by_cases q:way = 0
  ·by_cases q2:2 < M
   ·simp [bO,vA,cg,q,q2]
    omega
   ·have:¬ (M:Int) > 2:=by omega
    simp [bO,vA,cg,q,q2]
    omega
  ·simp [bO,vA,cg,q]
 ·intro hw
  obtain ⟨hw,hM2⟩:=of_decide_eq_true hw
  obtain ⟨d,xs',eb,⟨bs,rfl,b3,b6,bq⟩,n',rfl⟩:=p8 n (by omega) hM7
  refine aR (fun δ => δ = [.ow true [.int n'],.pu (.int P),.pu (.int Z),.pu (.int M),.pu (.int N),.pu (.int way),.pu (.lst (bs.map hD)),.un]) (by simp [-Prod.exists,eb]) ?_
  rintro _ rfl
  refine aR (fun δ => ∃ (n:Int) (es:List (List Int)),δ = [.ow true [.int n],.pu (.int P),.pu (.int Z),.pu (.int M),.pu (.int N),.pu (.int way),.pu (.lst (bs.map hD)),.pu (.lst (es.map hD))] ∧ bs.length + es.length ≤ 6 ∧ ∀ h ∈ es,eN M h) ?_ ?_
  ·simp only [dW,ax,au]
   refine td rfl ?_
   obtain ⟨W,hW,hW1,hW2⟩:∃ W:Nat,1 + (if bs.length < Z then (Z:Int) - (bs.length:Int) else 0) = (W:Int) ∧ 1 ≤ W ∧ bs.length + W ≤ 7:= by
    refine ⟨(1 + (if bs.length < Z then (Z:Int) - (bs.length:Int) else 0)).toNat,?_,?_,?_⟩ <;> split <;> omega
   obtain ⟨V,hV,hV1⟩:∃ V:Nat,n' % (W:Int) = (V:Int) ∧ V < W:= by
    have h1:=Int.emod_nonneg n' (show (W:Int) ≠ 0 by omega)
    have h2:=Int.emod_lt_of_pos n' (show (0:Int) < W by omega)
    exact ⟨(n' % (W:Int)).toNat,by omega,by omega⟩
   have sV:bt V = true:=by simp [bt]; omega
   have hcomp:∀ n:Int,Ok (aU 8 1 (pure (a_ (bL 0 V))) (aZ (aY 8) (pure true) (do let _ <- aI 0; cf 0 2 (bz ik je) (ae (ag 3) (pure []))))) [.ow true [.int n],.pu (.int P),.pu (.int Z),.pu (.int M),.pu (.int N),.pu (.int way),.pu (.lst (bs.map hD)),.un] (fun xs δ => ∃ (m:Int) (es:List (List Int)),xs = es.map hD ∧ δ = [.ow true [.int m],.pu (.int P),.pu (.int Z),.pu (.int M),.pu (.int N),.pu (.int way),.pu (.lst (bs.map hD)),.un] ∧ es.length = V ∧ ∀ h ∈ es,eN M h):=fun n =>
    mw hM1 hM7 V (by omega) n (by simp) fun hs m h1 h2 => ⟨m,hs,rfl,rfl,h1,h2⟩
   have et:=aK n' W (by omega) (by omega)
   simp [-Prod.exists,br,kL,qF,dk,cg,hW,et,hV,cZ,sV]
   refine (hcomp _).mono fun xs δ ⟨m,es,e1,e2,e3,e4⟩ => ?_
   subst e1; subst e2
   simp
   exact ⟨m,es,⟨rfl,rfl⟩,by omega,e4⟩
  rintro _ ⟨n,es,rfl,hl,eq⟩
  obtain ⟨d,xs',e,z⟩:=fin (hs:=bs ++ es) n (by simp; omega) (by simp; omega) fun h hh => by
   rcases List.mem_append.mp hh with z | z
   ·exact bq h z
   ·exact eq h z
  have ec:cutD (bs.map hD ++ es.map hD) none (some 6) = (bs ++ es).map hD:= by
   rw [<- List.map_append]
   unfold cutD
   rw [HT.sIx_none,show (some (6:Int)) = some ((6:Nat):Int) from rfl,HT.sIx_nat,List.drop_zero,List.length_map,List.take_of_length_le]
   rw [List.length_map,List.length_append]; simp; omega
  have hc:wO (bs.map hD) (es.map hD) = some (bs.map hD ++ es.map hD):= by
   unfold wO; rw [if_pos (by simp; omega)]
  rw [List.map_append] at e
  simp [-Prod.exists,kh,hc,FY,ec,e]
  exact z
 ·intro _
  refine bP (decide (way = 1)) ?_ ?_ ?_
  ·by_cases q:way = 1 <;> simp [bO,q]
  ·intro _
   have sN:bt N = true:=by simp [bt]; omega
   have hcomp:Ok (aU 8 1 (mC cZ (ae (ag 4) (pure []))) (aZ (aY 8) (pure true) (do let _ <- aI 0; cf 0 2 (bz ik je) (ae (ag 3) (pure []))))) [.ow true [.int n],.pu (.int P),.pu (.int Z),.pu (.int M),.pu (.int N),.pu (.int way),.un,.un] (fun xs δ => ∃ (m:Int) (es:List (List Int)),xs = es.map hD ∧ δ = [.ow true [.int m],.pu (.int P),.pu (.int Z),.pu (.int M),.pu (.int N),.pu (.int way),.un,.un] ∧ es.length = N ∧ ∀ h ∈ es,eN M h) :=
    mw hM1 hM7 N (by omega) n (by simp [cZ,sN]) fun hs m h1 h2 => ⟨m,hs,rfl,rfl,h1,h2⟩
   simp only [ax,uK,bQ,bX,vC,au,fj,List.getElem?_cons_zero,List.getElem?_cons_succ,Option.some.injEq,Jt.Slot.pu.injEq,exists_eq_left']
   refine ⟨_,_,rfl,hcomp.mono fun xs δ ⟨m,es,e1,e2,e3,e4⟩ => ?_⟩
   subst e1; subst e2
   obtain ⟨d,xs',e,z⟩:=fin (hs:=es) m (by omega) (by omega) e4
   simp [-Prod.exists,e]
   exact z
  ·intro _
   obtain ⟨d,xs',eg,⟨hs,rfl,g1,g2⟩,n',rfl⟩:=qO n hM1 hM7 hN1 (Z:=N) (by omega)
   obtain ⟨d,xs',e,z⟩:=fin (hs:=hs) n' (by omega) (by omega) g2
   simp [-Prod.exists,eg,e]
   exact z
end K42
namespace K42
open PySem L2 Jt
def nT:List D:=[.non,.bl true,.bl false,.int (-1),.int 0,.int 1,.int 7,.int 10,.str "",.str "0",.str "none",.tup [],.tup [.int 0],.tup [.int 0,.int 1],.tup [.int 1,.int 0],.tup [.int 0,.int 0],.tup [.int 0,.bl true],.lst [.int 0],.dct,
 .tup [.tup [.int 0]],.tup [.tup [.int 0,.int 1]],.lst [.tup [.int 0,.int 1]],.int (10 ^ 39),.tup [.int 0,.int 10],.tup [.int 0,.int (-1)],.tup [.tup [],.tup []],.tup [.tup [.int 0,.int 1],.tup [.int 0,.int 1]],.tup [.tup [.int 0,.int 1],.non]]
theorem oO (n0:Int):∃ d xs',bz ot l_ [.int n0] [] = some (d,xs') ∧ (Short d ∧ ∀ p c,d = .tup [p,c] -> Short p ∧ Short c) ∧ ∃ n:Int,xs' = [.int n]:= by
 apply eP
 show Ok l_ [.ow true [.int n0],.un] _
 unfold l_
 have et:=aK n0 28 (by omega) (by omega)
 have ep:xK (.int 10) (.int 39) = some (.int (10 ^ 39)):=by first | rfl | (simp [xK]; done) | (unfold xK; rw [if_pos (by decide)]; rfl)
 obtain ⟨d,hd,e⟩:=jG nT n0 (by decide)
 refine aR (fun δ => δ = [.ow true [.int n0],.pu (.lst (nT.take 19))]) (by simp [h9,nT]) ?_
 rintro _ rfl
 refine aR (fun δ => δ = [.ow true [.int n0],.pu (.lst nT)]) (by simp [h9,nT,kh,wO,ep]) ?_
 rintro _ rfl
 have el:br [.lst nT] = some (.int 28):=rfl
 simp [-Prod.exists,el,et]
 refine iZ e ⟨_,rfl,?_,_,rfl⟩
 have all:∀ d ∈ nT,Short d:= by
  intro d hd xs e
  subst e
  simp [nT] at hd
  rcases hd with rfl | rfl | rfl | rfl | rfl | rfl | rfl | rfl | rfl | rfl | rfl | rfl | rfl <;> simp
 have all2:∀ d ∈ nT,∀ p c,d = .tup [p,c] -> Short p ∧ Short c:= by
  intro d hd p c e
  subst e
  simp [nT] at hd
  rcases hd with ⟨rfl,rfl⟩ | ⟨rfl,rfl⟩ | ⟨rfl,rfl⟩ | ⟨rfl,rfl⟩ | ⟨rfl,rfl⟩ | ⟨rfl,rfl⟩ | ⟨rfl,rfl⟩ | ⟨rfl,rfl⟩ | ⟨rfl,rfl⟩ <;> exact ⟨fun ys e => by cases e <;> simp,fun ys e => by cases e <;> simp⟩
 exact ⟨all d hd,all2 d hd⟩
end K42
namespace K42
open PySem L2 Jt
def sub (w h:List Int):Bool:=w.all fun c => decide (c ∈ h)
def AZ (hs:List (List Int)) (c:Int):List (List Int):=hs.filter fun h => decide (c ∈ h)
def nest (hs:List (List Int)) (c:Int):Bool:=(AZ hs c).all fun a => (AZ hs c).all fun b => sub b a || sub a b
def rem (c:Int) (h:List Int):List Int:=h.filter fun x => !decide (x = c)
def out (hs:List (List Int)) (c:Int):List (List Int):=hs.map (rem c)
structure Sm (hs:List (List Int)):Prop where
 n:hs.length ≤ 6
 h:∀ h ∈ hs,h.length ≤ 7
variable {hs:List (List Int)}
theorem Sm.out (S:Sm hs) (c:Int):Sm (out hs c):= by
 refine ⟨by unfold K42.out; rw [List.length_map]; exact S.n,fun h hh => ?_⟩
 obtain ⟨g,hg,rfl⟩:=List.mem_map.mp hh
 exact Nat.le_trans (List.length_filter_le _ _) (S.h g hg)
theorem B4 {c:Int} {h:List Int}:(h.filterMap fun x => if (!decide (x = c)) = true then some (D.int x) else none) = (rem c h).map .int:=aO _ _ _
theorem xQ {n:Nat} {δ:DS} {i j k:Nat} {c:Int} {h:List Int} (hl:δ.length = n) (h7:h.length ≤ 7) (ei:δ[i]? = some (.pu (hD h))) (ej:δ[j]? = some (.pu (.int c))) (hk:k = n) {Q:D -> DS -> Prop} (hQ:Q (hD (rem c h)) δ) :
  Ok (mC cX (ae (do let xs <- (aU n 1 (do let x <- (ag i); lift (aF x)) (aZ (aY k) ((m2 (i_ true) (ag k) (ag j)) >>= cx) (ag k))); pure (D.lst xs)) (pure []))) δ Q:= by
 simp only [ax,fH,bQ,au]
 subst hk
 have hj:j < δ.length:=(List.getElem?_eq_some_iff.mp ej).1
 refine aX h .int (fun x => if (!decide (x = c)) = true then some (D.int x) else none) hl ?_ (by omega) (fun x hx => ?_) ?_
 ·simp [ei,f7]
 ·have e1:((δ ++ [Jt.Slot.un]).set k (.pu (.int x))) = δ ++ [.pu (.int x)]:= by
   rw [List.set_append_right _ _ (by omega),hl,Nat.sub_self]; rfl
  have e2:(δ ++ [Jt.Slot.pu (.int x)])[k]? = some (.pu (.int x)):=by rw [List.getElem?_append_right (by omega),hl,Nat.sub_self]; rfl
  have e3:(δ ++ [Jt.Slot.pu (.int x)])[j]? = some (.pu (.int c)):=by rw [List.getElem?_append_left hj]; exact ej
  have e4:(δ ++ [Jt.Slot.pu (.int x)]).take k = δ:=List.take_left' hl
  simp only [cP,bA,ax,dX,bX]
  refine ⟨by simp [hl],?_⟩
  rw [show List.replicate 1 Jt.Slot.un = [.un] from rfl,e1]
  by_cases q:x = c
  ·subst q; simp [e2,e3,qb,e4]
  ·simp [e2,e3,qb,q,e4]
 ·rw [B4]
  simpa [cX,fK,hD] using hQ
theorem rh (S:Sm hs) (c:Int):eL kX r0 [.lst (hs.map hD),.int c] = some ((out hs c).map hD):= by
 apply lq
 show Ok r0 [.pu (.lst (hs.map hD)),.pu (.int c)] _
 unfold r0
 simp only [ax,au]
 have h6:=S.n
 refine aX hs hD (fun h => some (hD (rem c h))) rfl ?_ (by omega) (fun h hh => ?_) ?_
 ·simp [aF]
 ·simp only [cP,bA,au,if_true,ax]
  refine ⟨by simp,?_⟩
  refine xQ (c:=c) (h:=h) (by rfl) (S.h h hh) (by rfl) (by rfl) (by rfl) ?_; exact ⟨rfl,rfl⟩
 ·simp [List.filterMap_eq_map,out,Function.comp_def]
end K42
namespace K42
open PySem L2 Jt
variable {hs:List (List Int)}
theorem yE (a b:List Int):((a.filter fun x => !decide (x ∈ b)).map fun _ => D.int 1).isEmpty = sub a b:= by
 rw [List.isEmpty_map,Bool.eq_iff_iff,List.isEmpty_iff,List.filter_eq_nil_iff]
 simp [sub]
theorem oW {δ:DS} {i j:Nat} {a b:List Int} (hl:δ.length = 5) (h7:a.length ≤ 7) (ei:δ[i]? = some (.pu (hD a))) (ej:δ[j]? = some (.pu (hD b))) {Q:Bool -> DS -> Prop} (hQ:Q (!sub a b) δ) :
  Ok ((m2 (i_ true) (do let xs <- (aU 5 1 (do let x <- (ag i); lift (aF x)) (aZ (aY 5) (m2 (i7 true) (ag 5) (ag j) >>= cx) (pure (.int 1)))); pure (D.lst xs)) (do let xs <- (cK (pure [])); pure (D.lst xs))) >>= cx) δ Q:= by
 simp only [ax,dX,au]
 have hj:j < δ.length:=(List.getElem?_eq_some_iff.mp ej).1
 refine aX a .int (fun x => if (!decide (x ∈ b)) = true then some (D.int 1) else none) hl ?_ (by omega) (fun x hx => ?_) ?_
 ·simp [ei,f7]
 ·have e1:((δ ++ [Jt.Slot.un]).set 5 (.pu (.int x))) = δ ++ [.pu (.int x)]:= by
   rw [List.set_append_right _ _ (by omega),hl]; rfl
  have e2:(δ ++ [Jt.Slot.pu (.int x)])[5]? = some (.pu (.int x)):=by rw [List.getElem?_append_right (by omega),hl]; rfl
  have e3:(δ ++ [Jt.Slot.pu (.int x)])[j]? = some (.pu (hD b)):=by rw [List.getElem?_append_left hj]; exact ej
  have e4:(δ ++ [Jt.Slot.pu (.int x)]).take 5 = δ:=List.take_left' hl
  simp only [cP,bA,ax,dX,bX]
  refine ⟨by simp [hl],?_⟩
  rw [show List.replicate 1 Jt.Slot.un = [.un] from rfl,e1]
  by_cases q:x ∈ b
  ·simp [e2,e3,eK,q,e4]
  ·simp [e2,e3,eK,q,e4]
 ·rw [aO]
  have e:=yE a b
  simp only [dU,au,dw,List.length_nil,Nat.zero_le,true_and,cG,if_true,e,b9,eT]
  exact ⟨_,rfl,hQ⟩
theorem nQ (S:Sm hs) (c:Int):bf nU yY [.lst (hs.map hD),.int c] = some (.bl (nest hs c)):= by
 apply cn
 show Ok yY [.pu (.lst (hs.map hD)),.pu (.int c),.un,.un,.un] _
 unfold yY
 have h6:=S.n
 refine aR (fun δ => δ = [.pu (.lst (hs.map hD)),.pu (.int c),.pu (.lst ((AZ hs c).map hD)),.un,.un]) ?_ ?_
 ·simp only [dW,ax,au]
  refine aX hs hD (fun h => if decide (c ∈ h) = true then some (hD h) else none) rfl ?_ (by omega) (fun h hh => ?_) ?_
  ·simp [aF]
  ·by_cases q:c ∈ h <;> simp [eK,q]
  ·rw [aO]
   simp [AZ]
 rintro _ rfl
 have L:∀ h ∈ AZ hs c,h.length ≤ 7:=fun h hh => S.h h (List.mem_filter.mp hh).1
 have N:nest hs c = (AZ hs c).all fun a => (AZ hs c).all fun b => sub b a || sub a b:=rfl
 generalize AZ hs c = ks at *
 generalize (Jt.Slot.pu (.lst (hs.map hD)):Jt.Slot) = z0
 rw [cN]
 refine gW (ks.map hD) (fun k δ => (∃ a3 a4:Jt.Slot,δ = [z0,.pu (.int c),.pu (.lst (ks.map hD)),a3,a4]) ∧ ∀ i (h:i < ks.length),i < k -> (ks.all fun b => sub b ks[i] || sub ks[i] b) = true) ?_ ⟨⟨_,_,rfl⟩,fun i _ h => by omega⟩ ?_ ?_
 ·simp [aF]
 ·rintro k hk _ ⟨⟨a3,a4,rfl⟩,hq⟩
  have hk':k < ks.length:=by simpa using hk
  have la:=L ks[k] (List.getElem_mem hk')
  rw [List.getElem_map,bA]
  refine ⟨by simp,?_⟩
  show Ok _ [z0,.pu (.int c),.pu (.lst (ks.map hD)),.pu (hD ks[k]),a4] _
  refine gW (ks.map hD) (fun l δ => (∃ a4:Jt.Slot,δ = [z0,.pu (.int c),.pu (.lst (ks.map hD)),.pu (hD ks[k]),a4]) ∧ ∀ i (h:i < ks.length),i < l -> (sub ks[i] ks[k] || sub ks[k] ks[i]) = true) ?_ ⟨⟨_,rfl⟩,fun i _ h => by omega⟩ ?_ ?_
  ·simp [aF]
  ·rintro l hl _ ⟨⟨a4,rfl⟩,hq2⟩
   have hl':l < ks.length:=by simpa using hl
   have lb:=L ks[l] (List.getElem_mem hl')
   rw [List.getElem_map,bA]
   refine ⟨by simp,?_⟩
   show Ok _ [z0,.pu (.int c),.pu (.lst (ks.map hD)),.pu (hD ks[k]),.pu (hD ks[l])] _
   refine i5 (fun b δ => b = !(sub ks[l] ks[k] || sub ks[k] ks[l]) ∧ δ = [z0,.pu (.int c),.pu (.lst (ks.map hD)),.pu (hD ks[k]),.pu (hD ks[l])]) ?_ ?_ ?_
   ·rw [jL]
    refine oW (a:=ks[k]) (b:=ks[l]) rfl la rfl rfl ?_
    cases q:sub ks[k] ks[l] with
    | true => simp
    | false =>
     rw [if_pos (by rfl)]
     refine oW (a:=ks[l]) (b:=ks[k]) rfl lb rfl rfl ?_
     simp
   ·rintro _ ⟨e,rfl⟩
    simp only [ax,au]
    show Fl.rt (D.bl false) = Fl.rt (D.bl (nest hs c))
    have:nest hs c = false:= by
     rw [N,List.all_eq_false]
     refine ⟨ks[k],List.getElem_mem hk',?_⟩
     rw [Bool.not_eq_true,List.all_eq_false]
     exact ⟨ks[l],List.getElem_mem hl',by simpa using e⟩
    rw [this]
   ·rintro _ ⟨e,rfl⟩
    refine au.mpr ⟨⟨_,rfl⟩,fun i hi hil => ?_⟩
    by_cases hh:i = l
    ·subst hh; revert e; cases (sub ks[i] ks[k] || sub ks[k] ks[i]) <;> simp
    ·exact hq2 i hi (by omega)
  ·rintro _ ⟨⟨a4,rfl⟩,hq2⟩
   refine ⟨⟨_,_,rfl⟩,fun i hi hik => ?_⟩
   by_cases hh:i = k
   ·subst hh
    rw [List.all_eq_true]
    intro b hb
    obtain ⟨j,hj,rfl⟩:=List.getElem_of_mem hb
    exact hq2 j hj (by simpa using hj)
   ·exact hq i hi (by omega)
 ·rintro _ ⟨⟨a3,a4,rfl⟩,hq⟩
  have:nest hs c = true:= by
   rw [N,List.all_eq_true]
   intro a ha
   obtain ⟨j,hj,rfl⟩:=List.getElem_of_mem ha
   exact hq j hj (by simpa using hj)
  rw [this]
  simp
theorem mM:∀ (hs:List (List Int)) (n:Nat),k_ n (hs.map hD) = (List.range hs.length).map fun (i:Nat) => .tup [.int ((n + i:Nat):Int),hD (G hs i)]:= by
 intro hs
 induction hs with
 | nil => intro n; rfl
 | cons h r ih =>
  intro n
  show D.tup [.int (n:Int),hD h] :: k_ (n + 1) (r.map hD) = _
  rw [ih,List.length_cons,List.range_succ_eq_map,List.map_cons,List.map_map]
  congr 1
  refine List.map_congr_left fun i _ => ?_
  simp [G,Function.comp]
  omega
theorem GF {M:Nat} (h6:hs.length ≤ 6) (c:Nat) (hc:c < M):bf mD sg [bB M hs,.int c] = some (.tup (lD ((List.range hs.length).filter fun i => decide ((c:Int) ∈ G hs i)))):= by
 apply cn
 show Ok sg [.pu (bB M hs),.pu (.int c),.un,.un] _
 unfold sg
 refine aR (fun δ => δ = [.pu (bB M hs),.pu (.int c),.pu (.int M),.pu (.tup (hs.map hD))]) ?_ ?_
 ·simp [bB]
 rintro _ rfl
 have eb:bf lU kU [.int (c:Int),.int (M:Int)] = some (.bl true):= by
  rw [yZ]
  simp [dt]
  omega
 refine bP false ?_ (by simp) fun _ => ?_
 ·simp [aG,eb,cm]
 simp only [ax,fH,bQ,au]
 refine aX (List.range hs.length) (fun (i:Nat) => .tup [.int (i:Int),hD (G hs i)]) (fun i => if decide ((c:Int) ∈ G hs i) = true then some (.int (i:Int)) else none) rfl ?_ (by simp; omega) (fun i hi => ?_) ?_
 ·have:=mM hs 0
  simp [ka,nF,this]
 ·by_cases q:(c:Int) ∈ G hs i <;> simp [eK,q]
 ·rw [aO]
  simp [cX,fK,lD]
theorem ny {M:Nat} (h6:hs.length ≤ 6) (hM:M ≤ 7):eL qN yK [bB M hs] = some (lD (fP M hs)):= by
 apply lq
 show Ok yK [.pu (bB M hs)] _
 unfold yK
 simp only [ax,au]
 have sM:bt M = true:=by simp [bt]; omega
 refine aX (List.range M) (fun (i:Nat) => .int (i:Int)) (fun c => if (hs.any fun h => decide ((c:Int) ∈ h)) = true then some (.int (c:Int)) else none) rfl ?_ (by simp; omega) (fun c hc => ?_) ?_
 ·simp [g_,cZ,sM,bL]
 ·simp only [cP,bA,ax,dX]
  refine ⟨by simp,?_⟩
  refine aX hs hD (fun h => if decide ((c:Int) ∈ h) = true then some (hD h) else none) rfl ?_ (by omega) (fun h hh => ?_) ?_
  ·simp [de,aF]
  ·by_cases q:(c:Int) ∈ h <;> simp [eK,q]
  ·rw [aO]
   have:=FH hs (c:Int)
   cases q:(hs.any fun h => decide ((c:Int) ∈ h)) with
   | true =>
    rw [q] at this
    simp only [au,dU,dw,List.length_nil,Nat.zero_le,true_and,cG,this,b9,eT,if_true,D.bl.injEq,exists_eq_left']
    simp
   | false =>
    rw [q] at this
    simp only [au,dU,dw,List.length_nil,Nat.zero_le,true_and,cG,this,b9,eT,if_true,D.bl.injEq,exists_eq_left']
    simp
 ·rw [aO]
  simp [lD,fP]
end K42
namespace K42
open PySem L2 Jt
variable {hs:List (List Int)} {M:Nat}
theorem vX (c:Int):nest hs c = gX hs c:= by
 unfold nest gX AZ sub
 refine Bool.eq_iff_iff.mpr ?_
 simp only [List.all_eq_true,Bool.or_eq_true]
 exact ⟨fun h a ha b hb => (h a ha b hb).symm,fun h a ha b hb => (h a ha b hb).symm⟩
theorem zQ (c:Int):out hs c = tk hs c:= by
 unfold out rem tk
 refine List.map_congr_left fun h _ => List.filter_congr fun x _ => ?_
 simp
end K42
namespace K42
open PySem L2 Jt
variable {hs:List (List Int)} {M:Nat}
theorem u0 {ls:List Nat} (hne:ls ≠ []):cQ (.lst (lD ls)) (.int (-1)) = some (.int ((ls.getLast hne:Nat):Int)):= by
 have hl:0 < ls.length:=List.length_pos_iff.mpr hne
 show jx (lD ls) (-1) = _
 have e:tD (lD ls).length (-1) = some (ls.length - 1):= by
  unfold tD
  simp [lD]
  omega
 unfold jx
 rw [e]
 show (lD ls)[ls.length - 1]? = _
 unfold lD
 rw [List.getElem?_map,List.getLast_eq_getElem,List.getElem?_eq_getElem (by omega)]
 rfl
theorem sF (hS:Sm hs) (hM:M ≤ 7):bf i8 qq [bB M hs] = some (.bl (fz M (bW M hs).length hs)):= by
 apply cn
 show Ok qq [.pu (bB M hs),.un,.un,.un,.un] _
 unfold qq
 have ec:=ny (hs:=hs) (M:=M) hS.n hM
 have e0:=g_ (M:Int) hs
 have e1:=de (M:Int) hs
 have el:dList [.tup (hs.map hD)] = some (hs.map hD):=rfl
 generalize bB (M:Int) hs = lay at *
 refine aR (fun δ => δ = [.pu lay,.pu (.lst (hs.map hD)),.un,.un,.un]) (by simp [e1,el]) ?_
 rintro _ rfl
 rw [cN]
 have sM:bt M = true:=by simp [bt]; omega
 refine gW (lD (fP M hs)) (fun k δ => ∃ (gs:List (List Int)) (a2 a3 a4:Jt.Slot),δ = [.pu lay,.pu (.lst (gs.map hD)),a2,a3,a4] ∧ Sm gs ∧ fz M ((bW M hs).length - k) gs = fz M (bW M hs).length hs) ?_ ⟨hs,_,_,_,rfl,hS,rfl⟩ ?_ ?_
 ·simp [aG,ec,aF]
 ·rintro k hk _ ⟨gs,a2,a3,a4,rfl,S,hg⟩
  have hk':k < (bW M hs).length:= by
   have:(lD (fP M hs)).length = (bW M hs).length:=by simp [lD]; rfl
   omega
  generalize (lD (fP M hs))[k] = x
  rw [bA]
  refine ⟨by simp,?_⟩
  simp only [List.set_cons_succ,List.set_cons_zero]
  obtain ⟨t,ht⟩:∃ t,(bW M hs).length - k = t + 1:=⟨(bW M hs).length - k - 1,by omega⟩
  have ht2:(bW M hs).length - (k + 1) = t:=by omega
  rw [ht] at hg
  have hn6:=S.n
  refine aR (fun δ => δ = [.pu lay,.pu (.lst (gs.map hD)),.pu x,.pu (.lst (lD (fP M gs))),a4]) ?_ ?_
  ·simp only [dW,ax,au]
   refine aX (List.range M) (fun (i:Nat) => .int (i:Int)) (fun c => if (gs.any fun h => decide ((c:Int) ∈ h)) = true then some (.int (c:Int)) else none) rfl ?_ (by simp; omega) (fun c hc => ?_) ?_
   ·simp [e0,cZ,sM,bL]
   ·simp only [cP,bA,ax,dX]
    refine ⟨by simp,?_⟩
    refine aX gs hD (fun h => if decide ((c:Int) ∈ h) = true then some (hD h) else none) rfl ?_ (by omega) (fun h hh => ?_) ?_
    ·simp [aF]
    ·by_cases q:(c:Int) ∈ h <;> simp [eK,q]
    ·rw [aO]
     have:=FH gs (c:Int)
     cases q:(gs.any fun h => decide ((c:Int) ∈ h)) with
     | true =>
      rw [q] at this
      simp only [au,dU,dw,List.length_nil,Nat.zero_le,true_and,cG,this,b9,eT,if_true,D.bl.injEq,exists_eq_left']
      simp
     | false =>
      rw [q] at this
      simp only [au,dU,dw,List.length_nil,Nat.zero_le,true_and,cG,this,b9,eT,if_true,D.bl.injEq,exists_eq_left']
      simp
   ·rw [aO]
    simp [lD,fP]
  rintro _ rfl
  have hml:(fP M gs).length ≤ 7:= by
   have:=List.length_filter_le (fun c => gs.any fun h => decide (((c:Nat):Int) ∈ h)) (List.range M)
   unfold fP
   rw [List.length_range] at this
   omega
  have hcol:fP M gs = bW M gs:=rfl
  refine aR (fun δ => δ = [.pu lay,.pu (.lst (gs.map hD)),.pu x,.pu (.lst (lD (fP M gs))),.pu (.lst (lD ((bW M gs).filter fun (c:Nat) => gX gs (c:Int))))]) ?_ ?_
  ·simp only [dW,ax,au]
   refine aX (fP M gs) (fun (i:Nat) => .int (i:Int)) (fun c => if gX gs (c:Int) = true then some (.int (c:Int)) else none) rfl ?_ (by omega) (fun c hc => ?_) ?_
   ·simp [aF,lD]
   ·have en:=nQ S (c:Int)
    rw [vX] at en
    cases q:gX gs (c:Int) <;> rw [q] at en <;> simp [aG,en,cm]
   ·rw [aO,hcol]
    simp [lD]
  rintro _ rfl
  generalize fz M (bW M hs).length hs = g0 at *
  unfold fz at hg
  cases q:((bW M gs).filter fun (c:Nat) => gX gs (c:Int)) with
  | nil =>
   rw [q] at hg
   have hg:false = g0:=hg
   rw [<- hg]
   refine bP true ?_ (fun _ => by simp) (fun h => by cases h)
   simp [lD,cG]
  | cons y r =>
   have hne:y :: r ≠ []:=List.cons_ne_nil _ _
   rw [q,List.getLast?_eq_getLast hne] at hg
   have hg:fz M t (tk gs (((y :: r).getLast hne:Nat):Int)) = g0:=hg
   have ixl:=u0 hne
   have etk:=rh S (((y :: r).getLast hne:Nat):Int)
   have hne2:(lD (y :: r)).isEmpty = false:=rfl
   refine bP false ?_ (fun h => by cases h) (fun _ => ?_)
   ·generalize lD (y :: r) = zs at *
    simp [cG,hne2]
   generalize (y :: r).getLast hne = v at *
   generalize lD (y :: r) = zs at *
   have en:h9 (.int 1) = some (.int (-1)):=by simp [h9]
   refine (show Ok _ _ fun fl δ => fl = .nx ∧ δ = [.pu lay,.pu (.lst ((out gs (v:Int)).map hD)),.pu x,.pu (.lst (lD (fP M gs))),.pu (.lst zs)] by simp [aG,ixl,etk,en]).mono fun fl δ hq => ?_
   obtain ⟨rfl,rfl⟩:=hq
   refine ⟨out gs (v:Int),_,_,_,rfl,S.out _,?_⟩
   rw [ht2,zQ]
   exact hg
 ·rintro _ ⟨gs,a2,a3,a4,rfl,S,hg⟩
  have hk':(lD (fP M hs)).length = (bW M hs).length:=by simp [lD]; rfl
  rw [hk',Nat.sub_self] at hg
  have hg:true = fz M (bW M hs).length hs:=hg
  rw [<- hg]
  simp
end K42
namespace K42
open PySem L2 Jt
variable {hs:List (List Int)} {M:Nat}
theorem Cg {N:List Str} {body:Jt.M Fl} {ds:List D} (h:Ok body (entry N ds) fun fl _ => fl = .nx):bf N body ds = some .non:= by
 obtain ⟨z,δ',e,rfl⟩:=h
 unfold bf
 rw [e]
theorem jq (hs:List (List Int)):br [.tup (hs.map hD)] = some (.int (hs.length:Int)):=by simp [br]
theorem BU {a n:Nat} (h:a < n):dt (n:Int) (.int (a:Int)) = true:=by simp [dt]; omega
theorem zE {a:Nat} (m:Int) (h:a < hs.length):bf sm oy [bB m hs,.int (a:Int)] = some .non:= by
 apply Cg
 show Ok oy [.pu (bB m hs),.pu (.int (a:Int))] _
 unfold oy
 have e:=yZ (.int (a:Int)) (hs.length:Int)
 rw [BU h] at e
 have e1:=de m hs
 have e2:=jq hs
 generalize bB m hs = lay at *
 refine i5 (fun b δ => b = false ∧ δ = [.pu lay,.pu (.int (a:Int))]) ?_ (fun _ h => by cases h.1) ?_
 ·simp [aG,e,e1,e2,cm]
 ·rintro _ ⟨_,rfl⟩
  simp
def ip (hs:List (List Int)) (a b:Nat):List Int:=(G hs a).filter fun c => decide (c ∈ G hs b)
theorem Dw (m:Int) (h7:∀ h ∈ hs,h.length ≤ 7) {a b:Nat} (ha:a < hs.length) (hb:b < hs.length):bf mi oC [bB m hs,.int (a:Int),.int (b:Int)] = some (hD (ip hs a b)):= by
 apply cn
 show Ok oC [.pu (bB m hs),.pu (.int (a:Int)),.pu (.int (b:Int)),.un] _
 unfold oC
 have n1:=zE m ha
 have n2:=zE m hb
 have e1:=de m hs
 have ga:=iz ha
 have gb:=iz hb
 have g7:(G hs a).length ≤ 7:= by
  have:G hs a = hs[a]:=by simp [G,ha]
  rw [this]; exact h7 _ (List.getElem_mem ha)
 generalize bB m hs = lay at *
 refine aR (fun δ => δ = [.pu lay,.pu (.int (a:Int)),.pu (.int (b:Int)),.un]) (by simp [aG,n1]) ?_
 rintro _ rfl
 refine aR (fun δ => δ = [.pu lay,.pu (.int (a:Int)),.pu (.int (b:Int)),.un]) (by simp [aG,n2]) ?_
 rintro _ rfl
 refine aR (fun δ => δ = [.pu lay,.pu (.int (a:Int)),.pu (.int (b:Int)),.pu (.tup (hs.map hD))]) (by simp [e1]) ?_
 rintro _ rfl
 simp only [ax,fH,bQ,au]
 refine aX (G hs a) .int (fun c => if decide (c ∈ G hs b) = true then some (.int c) else none) rfl ?_ (by omega) (fun c _ => ?_) ?_
 ·simp [ga,f7]
 ·by_cases q:c ∈ G hs b <;> simp [gb,eK,q]
 ·rw [aO]
  simp [d6,ip,hD]
theorem nk (h6:hs.length ≤ 6) {H:List Nat} (hH:H.length ≤ 6) (nd:H.Nodup) (lt:∀ i ∈ H,i < hs.length) {c:Nat} (hc:c < M):bf uf wm [bB M hs,.tup (lD H),.int (c:Int)] = some (.bl (df (G hs) H (c:Int))):= by
 apply cn
 show Ok wm [.pu (bB M hs),.pu (.tup (lD H)),.pu (.int (c:Int))] _
 unfold wm
 have eh:=GF (hs:=hs) (M:=M) h6 c hc
 generalize bB M hs = lay at *
 have hw:((List.range hs.length).filter fun i => decide ((c:Int) ∈ G hs i)).length ≤ 6:=Nat.le_trans (List.length_filter_le _ _) (by rw [List.length_range]; exact h6)
 have key:(((List.range hs.length).filter fun i => decide ((c:Int) ∈ G hs i)).filter fun i => decide (i ∈ H)).length = (H.filter fun i => decide ((c:Int) ∈ G hs i)).length:= by
  refine List.Perm.length_eq ((List.perm_ext_iff_of_nodup ((List.nodup_range.filter _).filter _) (nd.filter _)).mpr fun i => ?_)
  simp only [List.mem_filter,List.mem_range,decide_eq_true_eq]
  exact ⟨fun h => ⟨h.2,h.1.2⟩,fun h => ⟨⟨lt i h.1,h.2⟩,h.1⟩⟩
 simp only [ax,dX,fH,bQ,au]
 refine aX ((List.range hs.length).filter fun i => decide ((c:Int) ∈ G hs i)) (fun (i:Nat) => .int (i:Int)) (fun i => if decide (i ∈ H) = true then some (.int (i:Int)) else none) rfl ?_ (by omega) (fun i _ => ?_) ?_
 ·simp [aG,eh,aF,lD]
 ·have e:i7 false (.int (i:Int)) (.tup (lD H)) = some (.bl (decide (i ∈ H))):= by
   have:=eK false (i:Int) (H.map fun (i:Nat) => (i:Int))
   unfold hD at this
   rw [List.map_map] at this
   refine this.trans ?_
   have e:decide ((i:Int) ∈ H.map fun (i:Nat) => (i:Int)) = decide (i ∈ H):=decide_eq_decide.mpr ⟨fun h => by
    obtain ⟨a,ha,e⟩:=List.mem_map.mp h
    rw [<- Int.ofNat_inj.mp e]; exact ha,fun h => List.mem_map.mpr ⟨i,h,rfl⟩⟩
   rw [e]
   rfl
  cases q:decide (i ∈ H) <;> rw [q] at e <;> simp [e]
 ·rw [aO]
  have e2:dg false (.int ((((List.range hs.length).filter fun i => decide ((c:Int) ∈ G hs i)).filter fun i => decide (i ∈ H)).length:Int)) (.int 2) = some (.bl (df (G hs) H (c:Int))):= by
   rw [bO,key]
   unfold df
   have:decide (((H.filter fun i => decide ((c:Int) ∈ G hs i)).length:Int) = 2) = ((H.filter fun i => decide ((c:Int) ∈ G hs i)).length == 2):= by
    rw [Bool.eq_iff_iff,decide_eq_true_eq,beq_iff_eq]
    omega
   rw [this]
   rfl
  generalize ((List.range hs.length).filter fun i => decide ((c:Int) ∈ G hs i)).filter (fun i => decide (i ∈ H)) = zs at *
  have e3:br [.lst (zs.map fun (i:Nat) => D.int (i:Int))] = some (.int (zs.length:Int)):=by simp [br]
  generalize df (G hs) H (c:Int) = ob at *
  generalize (zs.length:Int) = zl at *
  generalize D.lst (zs.map fun (i:Nat) => D.int (i:Int)) = zd at *
  simp [e3,e2]
end K42
namespace K42
open PySem L2 Jt
variable {hs:List (List Int)} {M:Nat}
theorem u6:∀ a b:List Nat,eG (lD a) (lD b) = (a.zip b).map fun p => .tup [.int (p.1:Int),.int (p.2:Int)]
 | [],b => by cases b <;> simp [lD,eG]
 | x :: a,[] => by simp [lD,eG]
 | x :: a,y :: b => by
  have ih:=u6 a b
  show D.tup [.int (x:Int),.int (y:Int)] :: eG (lD a) (lD b) = _
  rw [ih]; rfl
theorem Cy (xs:List D) (k:Nat):cutD xs none (some (k:Int)) = xs.take k:= by
 unfold cutD
 have h1:HT.sIx xs.length 0 none = 0:=rfl
 have h2:HT.sIx xs.length xs.length (some (k:Int)) = min k xs.length:= by
  simp [HT.sIx]
  omega
 rw [h1,h2]
 simp
theorem vI (xs:List D) (k:Nat):cutD xs (some (k:Int)) none = xs.drop k:= by
 unfold cutD
 have h1:HT.sIx xs.length xs.length none = xs.length:=rfl
 have h2:HT.sIx xs.length 0 (some (k:Int)) = min k xs.length:= by
  simp [HT.sIx]
  omega
 rw [h1,h2]
 by_cases h:k ≤ xs.length
 ·rw [Nat.min_eq_left h]
  exact List.take_of_length_le (by rw [List.length_drop]; omega)
 ·rw [Nat.min_eq_right (by omega),List.drop_eq_nil_of_le (Nat.le_refl _),List.drop_eq_nil_of_le (by omega),List.take_nil]
theorem uk (H:List Nat):H.zip (H.drop 1 ++ H.take 1) = (List.range H.length).map fun k => (H.getD k 0,H.getD (cB H.length k) 0):= by
 refine List.ext_getElem? fun k => ?_
 by_cases hk:k < H.length
 ·have hn:=dh hk
  have g2:(H.drop 1 ++ H.take 1)[k]? = some (H.getD (cB H.length k) 0):= by
   unfold cB at hn ⊢
   by_cases e:k + 1 = H.length
   ·rw [if_pos e] at hn ⊢
    rw [List.getElem?_append_right (by rw [List.length_drop]; omega),List.length_drop,show k - (H.length - 1) = 0 by omega]
    cases H with
    | nil => simp at hk
    | cons x r => simp
   ·rw [if_neg e] at hn ⊢
    rw [List.getElem?_append_left (by rw [List.length_drop]; omega),List.getElem?_drop,Nat.add_comm 1 k,List.getElem?_eq_getElem hn]
    simp [hn]
  rw [(List.getElem?_zip_eq_some (z:=(H.getD k 0,H.getD (cB H.length k) 0))).mpr ⟨by simp [hk],g2⟩]
  simp [hk]
 ·rw [List.getElem?_eq_none (by rw [List.length_zip,List.length_append,List.length_drop,List.length_take]; omega),List.getElem?_eq_none (by simp; omega)]
theorem Di {H:List Nat} (hH:H.length ≤ 6):eL qu oQ [.tup (lD H)] = some ((List.range H.length).map fun k => .tup [.int ((H.getD k 0:Nat):Int),.int ((H.getD (cB H.length k) 0:Nat):Int)]):= by
 apply lq
 show Ok oQ [.pu (.tup (lD H))] _
 unfold oQ
 have s1:FY (.tup (lD H)) (some 1) none = some (.tup (lD (H.drop 1))):=(congrArg (fun z => some (D.tup z)) (vI (lD H) 1)).trans (by unfold lD; rw [List.map_drop])
 have s2:FY (.tup (lD H)) none (some 1) = some (.tup (lD (H.take 1))):=(congrArg (fun z => some (D.tup z)) (Cy (lD H) 1)).trans (by unfold lD; rw [List.map_take])
 have c1:cC (.tup (lD (H.drop 1))) (.tup (lD (H.take 1))) = some (.tup (lD (H.drop 1 ++ H.take 1))):= by
  refine (if_pos (by simp [lD]; omega)).trans ?_
  unfold lD
  rw [List.map_append]
 have z1:Cu [.tup (lD H),.tup (lD (H.drop 1 ++ H.take 1))] = some ((List.range H.length).map fun k => .tup [.int ((H.getD k 0:Nat):Int),.int ((H.getD (cB H.length k) 0:Nat):Int)]):= by
  show some (eG (lD H) (lD (H.drop 1 ++ H.take 1))) = _
  rw [u6,uk,List.map_map]
  rfl
 generalize (List.range H.length).map (fun k => D.tup [.int ((H.getD k 0:Nat):Int),.int ((H.getD (cB H.length k) 0:Nat):Int)]) = out at *
 generalize lD (H.drop 1 ++ H.take 1) = l3 at *
 generalize lD (H.drop 1) = l1 at *
 generalize lD (H.take 1) = l2 at *
 generalize lD H = l0 at *
 simp [s1,s2,c1,z1]
end K42
namespace K42
open PySem L2 Jt
variable {hs:List (List Int)} {M:Nat}
theorem EH (H:List Nat) (k:Nat):(ip hs (H.getD k 0) (H.getD (cB H.length k) 0)).filter (df (G hs) H) = dZ (G hs) H k:= by
 unfold ip dZ
 rw [List.filter_filter]
 refine List.filter_congr fun x _ => ?_
 rw [Bool.and_comm]
theorem wJ (hS:Sm hs) (hf:kD M hs) {H:List Nat} (hH:H.length ≤ 6) (nd:H.Nodup) (lt:∀ i ∈ H,i < hs.length):eL pK Ak [bB M hs,.tup (lD H)] = some ((i6 (G hs) H).map fun b => .lst (b.map .int)):= by
 apply lq
 show Ok Ak [.pu (bB M hs),.pu (.tup (lD H))] _
 unfold Ak
 have ew:=Di hH
 have ec:=fun {a b:Nat} (ha:a < hs.length) (hb:b < hs.length) => Dw (hs:=hs) (M:Int) hS.h ha hb
 have eo:=fun {c:Nat} (hc:c < M) => nk (hs:=hs) (M:=M) hS.n hH nd lt hc
 generalize bB (M:Int) hs = lay at *
 generalize D.tup (lD H) = Hd at *
 simp only [ax,au]
 refine aX (List.range H.length) (fun k => .tup [.int ((H.getD k 0:Nat):Int),.int ((H.getD (cB H.length k) 0:Nat):Int)]) (fun k => some (.lst ((dZ (G hs) H k).map .int))) rfl ?_ (by simp; omega) (fun k hk => ?_) ?_
 ·simp [aG,ew,aF]
 ·have hk:=List.mem_range.mp hk
  have la:=lt _ (bR hk)
  have lb:=lt _ (bR (dh hk))
  have ecc:=ec la lb
  have hb7:(ip hs (H.getD k 0) (H.getD (cB H.length k) 0)).length ≤ 7:= by
   refine Nat.le_trans (List.length_filter_le _ _) ?_
   have:G hs (H.getD k 0) = hs[H.getD k 0]:=c7 la
   rw [this]; exact hS.h _ (List.getElem_mem la)
  have hcol:∀ c ∈ ip hs (H.getD k 0) (H.getD (cB H.length k) 0),0 ≤ c ∧ c < (M:Int):=fun c hc => by
   have hc:=(List.mem_filter.mp hc).1
   have:G hs (H.getD k 0) = hs[H.getD k 0]:=c7 la
   rw [this] at hc
   exact (hf _ (List.getElem_mem la)).2 c hc
  have hbt:=EH (hs:=hs) H k
  generalize ip hs (H.getD k 0) (H.getD (cB H.length k) 0) = bl at *
  generalize H.getD k 0 = ia at *
  generalize H.getD (cB H.length k) 0 = ib at *
  rw [<- hbt]
  simp only [cP,ax,au]
  simp [ft,b4,eY]
  refine aX bl .int (fun c => if df (G hs) H c = true then some (.int c) else none) rfl ?_ (by omega) (fun c hc => ?_) ?_
  ·simp [aG,ecc,f7]
  ·obtain ⟨h0,h1⟩:=hcol c hc
   obtain ⟨n,rfl⟩:∃ n:Nat,c = (n:Int):=⟨c.toNat,by omega⟩
   have e:=eo (c:=n) (by omega)
   cases q:df (G hs) H (n:Int) <;> rw [q] at e <;> simp [aG,e,cm]
  ·rw [aO]
   simp
 ·rw [List.filterMap_eq_map']
  simp [i6]
end K42
namespace K42
open PySem L2 Jt
variable {hs:List (List Int)} {M:Nat}
def wD:Option (List Nat × List Int) -> D
 | none => .non
 | some (H,C) => .tup [.tup (lD H),hD C]
theorem any_nil (bs:List (List Int)):jc (.lst []) (bs.map fun b => .lst (b.map .int)) = some (bs.any List.isEmpty):= by
 induction bs with
 | nil => rfl
 | cons b r ih =>
  rw [List.map_cons,jc,ih]
  cases b <;> simp [eF,eF.go]
theorem z9 (xs:List D) (h:xs ≠ []):cutD xs none (some (-1)) = xs.dropLast:= by
 have hp:0 < xs.length:=List.length_pos_iff.mpr h
 unfold cutD
 have h1:HT.sIx xs.length 0 none = 0:=rfl
 have h2:HT.sIx xs.length xs.length (some (-1)) = xs.length - 1:= by
  simp [HT.sIx]
  omega
 rw [h1,h2,List.drop_zero,Nat.sub_zero,List.dropLast_eq_take]
theorem Bx (xs:List D) {d:D} (h:xs[xs.length - 1]? = some d):jx xs (-1) = some d:= by
 have hp:xs.length - 1 < xs.length:=(List.getElem?_eq_some_iff.mp h).1
 unfold jx tD
 rw [if_neg (by omega),if_pos (by omega)]
 have:(-1 + (xs.length:Int)).toNat = xs.length - 1:=by omega
 simp only [Option.bind_some,this]
 exact h
def rR (n:Nat) (H:List Nat):List Nat:=(List.range (n - (H.getD 0 0 + 1))).map fun i => H.getD 0 0 + 1 + i
theorem ya (n a:Nat):(List.range n).filter (fun i => decide (a < i)) = (List.range (n - (a + 1))).map fun i => a + 1 + i:= by
 induction n with
 | zero => simp
 | succ n ih =>
  rw [List.range_succ,List.filter_append,ih]
  by_cases h:a < n
  ·rw [show n + 1 - (a + 1) = (n - (a + 1)) + 1 by omega,List.range_succ,List.map_append]
   simp [h]
   omega
  ·rw [show n + 1 - (a + 1) = n - (a + 1) by omega]
   simp [h]
theorem zW (n:Nat) (H:List Nat):lQ n H = (rR n H).filter fun i => !decide (i ∈ H):= by
 unfold lQ rR
 rw [<- ya,List.filter_filter]
 exact List.filter_congr fun x _ => Bool.and_comm _ _
theorem CT {α:Type} (H:List Nat) (f:Nat -> Option α) (L:List Nat) (k:Nat) (hk:k < L.length) (h0:∀ i ∈ L.take k,i ∉ H -> f i = none) {r:α} (hn:L[k] ∉ H) (hr:f L[k] = some r):(L.filter fun i => !decide (i ∈ H)).findSome? f = some r:= by
 have e:L = L.take k ++ L[k] :: L.drop (k + 1):=by rw [<- List.drop_eq_getElem_cons hk,List.take_append_drop]
 generalize L[k] = x at *
 rw [e,List.filter_append,List.findSome?_append,List.filter_cons]
 have:((L.take k).filter fun i => !decide (i ∈ H)).findSome? f = none:= by
  rw [List.findSome?_eq_none_iff]
  intro i hi
  obtain ⟨h1,h2⟩:=List.mem_filter.mp hi
  exact h0 i h1 (by simpa using h2)
 rw [this]
 simp [hn,hr]
theorem find_none {α:Type} (H:List Nat) (f:Nat -> Option α) (L:List Nat) (h0:∀ i ∈ L,i ∉ H -> f i = none):(L.filter fun i => !decide (i ∈ H)).findSome? f = none:= by
 rw [List.findSome?_eq_none_iff]
 intro i hi
 obtain ⟨h1,h2⟩:=List.mem_filter.mp hi
 exact h0 i h1 (by simpa using h2)
theorem uI {H:List Nat} {k:Nat} (h:k < H.length):cQ (.tup (lD H)) (.int (k:Int)) = some (.int ((H.getD k 0:Nat):Int)):= by
 show jx (lD H) (k:Int) = _
 rw [eA (lD H) k (by rw [dv]; exact h)]
 simp [lD,h]
theorem Fm {H:List Nat} (h:H ≠ []):cQ (.tup (lD H)) (.int 0) = some (.int ((H.getD 0 0:Nat):Int)):=uI (k:=0) (List.length_pos_iff.mpr h)
theorem jg (hS:Sm hs) (hf:kD M hs):∀ (f:Nat) (H:List Nat),H.Nodup -> H ≠ [] -> (∀ i ∈ H,i < hs.length) -> hs.length - H.length < f -> nJ f [bB M hs,.tup (lD H)] = some (wD (cU (G hs) hs.length f H))
 | 0,H,_,_,_,hlt => by omega
 | f + 1,H,nd,hne,lt,hlt => by
  have ih:=jg hS hf f
  have hH:H.length ≤ hs.length:=g6 hs.length H nd lt
  have h6:=hS.n
  have hp:0 < H.length:=List.length_pos_iff.mpr hne
  show bf yL (Bq (nJ f)) _ = _
  apply cn
  show Ok (Bq (nJ f)) [.pu (bB M hs),.pu (.tup (lD H)),.un,.un,.un] _
  unfold Bq
  have eb:=wJ hS hf (by omega) nd lt
  have e1:=de (M:Int) hs
  have e2:=jq hs
  have e3:br [.tup (lD H)] = some (.int (H.length:Int)):=by simp [br,lD]
  have e4:=Fm hne
  have bl:(i6 (G hs) H).length = H.length:=by simp [i6]
  have bne:(i6 (G hs) H).map (fun b => D.lst (b.map .int)) ≠ []:=fun z => by
   have:=congrArg List.length z
   rw [List.length_map,bl] at this
   simp at this
   exact hne this
  have s1:FY (.lst ((i6 (G hs) H).map fun b => .lst (b.map .int))) none (some (-1)) = some (.lst ((i6 (G hs) H).dropLast.map fun b => .lst (b.map .int))):= by
   show some (D.lst (cutD _ _ _)) = _
   rw [z9 _ bne,List.map_dropLast]
  have s2:yD false (.lst []) (.lst ((i6 (G hs) H).dropLast.map fun b => .lst (b.map .int))) = some (.bl ((i6 (G hs) H).dropLast.any List.isEmpty)):= by
   show (jc _ _).map _ = _
   rw [any_nil]
   rfl
  have s3:cQ (.lst ((i6 (G hs) H).map fun b => .lst (b.map .int))) (.int (-1)) = some (.lst ((dZ (G hs) H (H.length - 1)).map .int)):= by
   refine Bx _ ?_
   rw [List.length_map,bl,List.getElem?_map,jz H (by omega)]
   rfl
  have hi:∀ i,i ∉ H -> i < hs.length -> nJ f [bB M hs,.tup (lD (H ++ [i]))] = some (wD (cU (G hs) hs.length f (H ++ [i]))):=fun i hi hl => by
   have nd2:(H ++ [i]).Nodup:=List.nodup_append.mpr ⟨nd,by simp,fun a ha b hb z => by
    rw [List.mem_singleton.mp hb] at z
    exact hi (z ▸ ha)⟩
   have lt2:∀ j ∈ H ++ [i],j < hs.length:=fun j hj => by
    rcases List.mem_append.mp hj with hj | hj
    ·exact lt j hj
    ·rw [List.mem_singleton.mp hj]; exact hl
   have:=g6 _ _ nd2 lt2
   rw [List.length_append,List.length_singleton] at this
   exact ih _ nd2 (by simp) lt2 (by rw [List.length_append,List.length_singleton]; omega)
  generalize nJ f = rec at *
  generalize bB (M:Int) hs = lay at *
  have c1:∀ i:Nat,cC (.tup (lD H)) (.tup [.int (i:Int)]) = some (.tup (lD (H ++ [i]))):=fun i => by
   refine (if_pos (by simp [lD]; omega)).trans ?_
   simp [lD]
  have n1:∀ i:Nat,i7 true (.int (i:Int)) (.tup (lD H)) = some (.bl (!decide (i ∈ H))):=fun i => zB true i H
  refine aR (fun δ => δ = [.pu lay,.pu (.tup (lD H)),.pu (.lst ((i6 (G hs) H).map fun b => .lst (b.map .int))),.un,.un]) (by simp [aG,eb]) ?_
  rintro _ rfl
  refine bP ((i6 (G hs) H).dropLast.any List.isEmpty) ?_ (fun q => ?_) (fun q => ?_)
  ·have nn:h9 (.int 1) = some (.int (-1)):=by simp [h9]
   generalize (i6 (G hs) H).dropLast.map (fun b => D.lst (b.map .int)) = bd2 at *
   generalize (i6 (G hs) H).map (fun b => D.lst (b.map .int)) = bd at *
   generalize (i6 (G hs) H).dropLast.any List.isEmpty = bb at *
   simp [s1,s2,nn]
  ·unfold cU
   rw [if_pos q]
   simp [wD]
  have w1:cU (G hs) hs.length (f + 1) H = if 3 ≤ H.length ∧ dZ (G hs) H (H.length - 1) ≠ [] then some (H,(i6 (G hs) H).map fun b => b.headD 0) else (lQ hs.length H).findSome? fun i => cU (G hs) hs.length f (H ++ [i]):= by
   rw [cU,if_neg (by rw [q]; simp)]
  rw [w1]
  have full:3 ≤ H.length ∧ dZ (G hs) H (H.length - 1) ≠ [] -> ∀ b ∈ i6 (G hs) H,b ≠ []:=fun q2 b hb z => by
   obtain ⟨k,hk⟩:=List.mem_iff_getElem?.mp hb
   have hk2:k < H.length:=by rw [<- bl]; exact (List.getElem?_eq_some_iff.mp hk).1
   by_cases kl:k = H.length - 1
   ·rw [jz H hk2] at hk
    cases hk
    exact q2.2 (kl ▸ z)
   ·have:(i6 (G hs) H).dropLast[k]? = some b:= by
     rw [List.getElem?_dropLast,if_pos (by rw [bl]; omega)]
     exact hk
    have:=List.any_eq_true (p:=List.isEmpty).mpr ⟨b,List.mem_of_getElem? this,by rw [z]; rfl⟩
    rw [q] at this
    cases this
  refine bP (decide (3 ≤ H.length ∧ dZ (G hs) H (H.length - 1) ≠ [])) ?_ (fun q2 => ?_) (fun q2 => ?_)
  ·have a1:IW (.int (H.length:Int)) (.int 3) = some (.bl (decide (3 ≤ H.length))):=by simp [IW,cg]; omega
   by_cases h3:3 ≤ H.length
   ·cases hb:dZ (G hs) H (H.length - 1) with
    | nil => rw [hb] at s3; simp [e3,a1,h3,s3,h9,cm]
    | cons x r => rw [hb] at s3; simp [e3,a1,h3,s3,h9,cm]
   ·simp [e3,a1,h3]
  ·have q2:=of_decide_eq_true q2
   rw [if_pos q2]
   have fl:=full q2
   simp only [ax,uK,bQ,fH,bX,au]
   refine ⟨_,rfl,?_⟩
   refine aX (i6 (G hs) H) (fun b => .lst (b.map .int)) (fun b => some (.int (b.headD 0))) rfl ?_ (by omega) (fun b hb => ?_) ?_
   ·simp [aF]
   ·have hx:=fl b hb
    cases b with
    | nil => exact absurd rfl hx
    | cons x r =>
     have:cQ (.lst ((x :: r).map .int)) (.int 0) = some (.int x):=(eA ((x :: r).map D.int) 0 (by simp)).trans (by simp)
     have hd:(x :: r).headD 0 = x:=rfl
     rw [hd]
     generalize D.lst ((x :: r).map .int) = zd at *
     simp [this]
   ·rw [List.filterMap_eq_map']
    simp [d6,wD,hD]
  ·have q2:=of_decide_eq_false q2
   rw [if_neg q2,zW,cN]
   have hh:H.getD 0 0 < hs.length:=lt _ (bR hp)
   have lenU:(rR hs.length H).length = hs.length - (H.getD 0 0 + 1):=by simp [rR]
   have getU:∀ k (hk:k < (rR hs.length H).length),(rR hs.length H)[k] = H.getD 0 0 + 1 + k:=fun k hk => by simp [rR]
   refine gW (bL (((H.getD 0 0:Nat):Int) + 1) (hs.length - (H.getD 0 0 + 1))) (fun k δ => ∃ (a3 a4:Jt.Slot),δ = [.pu lay,.pu (.tup (lD H)),.pu (.lst ((i6 (G hs) H).map fun b => .lst (b.map .int))),a3,a4] ∧ ∀ i ∈ (rR hs.length H).take k,i ∉ H -> cU (G hs) hs.length f (H ++ [i]) = none) ?_ ⟨_,_,rfl,by simp⟩ ?_ ?_
   ·have r1:xN [.int (((H.getD 0 0:Nat):Int) + 1),.int (hs.length:Int)] = some (a_ (bL (((H.getD 0 0:Nat):Int) + 1) (hs.length - (H.getD 0 0 + 1)))):= by
     generalize H.getD 0 0 = h0 at hh ⊢
     have:bt ((h0:Int) + 1) = true ∧ bt (hs.length:Int) = true:=by simp [bt]; omega
     simp only [xN,this.1,this.2,Bool.and_self,if_true]
     rw [show ((hs.length:Int) - ((h0:Int) + 1)).toNat = hs.length - (h0 + 1) by omega]
    have a1:dk (.int ((H.getD 0 0:Nat):Int)) (.int 1) = some (.int (((H.getD 0 0:Nat):Int) + 1)):=rfl
    generalize ((H.getD 0 0:Nat):Int) = h0 at *
    simp [e4,e1,e2,a1,r1]
   ·rintro k hk _ ⟨a3,a4,rfl,hz⟩
    have hk2:k < (rR hs.length H).length:=by rw [lenU]; simpa [bL] using hk
    have gk:=getU k hk2
    have itm:(bL (((H.getD 0 0:Nat):Int) + 1) (hs.length - (H.getD 0 0 + 1)))[k] = .int (((rR hs.length H)[k]:Nat):Int):= by
     rw [gk]
     simp [bL]
    rw [itm]
    have hx:(rR hs.length H)[k] < hs.length:=by rw [gk]; omega
    have tk1:(rR hs.length H).take (k + 1) = (rR hs.length H).take k ++ [(rR hs.length H)[k]]:=List.take_succ_eq_append_getElem hk2
    have fu:=fun (r:List Nat × List Int) hn hr => CT H (fun i => cU (G hs) hs.length f (H ++ [i])) (rR hs.length H) k hk2 hz (r:=r) hn hr
    generalize (rR hs.length H)[k] = x at *
    have ci:=hi x
    have n1x:=n1 x
    have c1x:=c1 x
    generalize (i6 (G hs) H).map (fun b => D.lst (b.map .int)) = bd at *
    generalize D.tup (lD H) = Hd at *
    by_cases hm:x ∈ H
    ·simp only [bA,List.length_cons,List.length_nil,List.set_cons_succ,List.set_cons_zero]
     refine ⟨by omega,?_⟩
     refine i5 (fun b δ => b = false ∧ δ = [.pu lay,.pu Hd,.pu (.lst bd),.pu (.int (x:Int)),a4]) ?_ (fun _ h => by cases h.1) ?_
     ·simp [n1x,hm]
     ·rintro _ ⟨_,rfl⟩
      refine au.mpr ⟨_,_,rfl,fun i hi => ?_⟩
      rw [tk1] at hi
      rcases List.mem_append.mp hi with hi | hi
      ·exact hz i hi
      ·rw [List.mem_singleton.mp hi]; exact fun z => absurd hm z
    ·have ci:=ci hm hx
     simp only [bA,List.length_cons,List.length_nil,List.set_cons_succ,List.set_cons_zero]
     refine ⟨by omega,?_⟩
     refine i5 (fun b δ => b = true ∧ δ = [.pu lay,.pu Hd,.pu (.lst bd),.pu (.int (x:Int)),a4]) ?_ ?_ (fun _ h => by cases h.1)
     ·simp [n1x,hm]
     ·rintro _ ⟨_,rfl⟩
      refine aR (fun δ => δ = [.pu lay,.pu Hd,.pu (.lst bd),.pu (.int (x:Int)),.pu (wD (cU (G hs) hs.length f (H ++ [x])))]) (by simp [c1x,aG,ci]) ?_
      rintro _ rfl
      cases hw:cU (G hs) hs.length f (H ++ [x]) with
      | none =>
       refine i5 (fun b δ => b = false ∧ δ = [.pu lay,.pu Hd,.pu (.lst bd),.pu (.int (x:Int)),.pu (wD none)]) ?_ (fun _ h => by cases h.1) ?_
       ·simp [wD,jX,mr]
       ·rintro _ ⟨_,rfl⟩
        refine au.mpr ⟨_,_,rfl,fun i hi => ?_⟩
        rw [tk1] at hi
        rcases List.mem_append.mp hi with hi | hi
        ·exact hz i hi
        ·rw [List.mem_singleton.mp hi]; exact fun _ => hw
      | some r =>
       have fr:=fu r hm hw
       refine i5 (fun b δ => b = true ∧ δ = [.pu lay,.pu Hd,.pu (.lst bd),.pu (.int (x:Int)),.pu (wD (some r))]) ?_ ?_ (fun _ h => by cases h.1)
       ·obtain ⟨r1,r2⟩:=r
        simp [wD,jX,mr]
       ·rintro _ ⟨_,rfl⟩
        rw [fr]
        simp
   ·rintro _ ⟨a3,a4,rfl,hz⟩
    have:(bL (((H.getD 0 0:Nat):Int) + 1) (hs.length - (H.getD 0 0 + 1))).length = (rR hs.length H).length:=by rw [lenU]; simp [bL]
    rw [this,List.take_length] at hz
    rw [find_none H _ _ hz]
    simp [wD]
theorem rN (hS:Sm hs) (hf:kD M hs) (h1:1 ≤ hs.length):∃ r,bf oX mZ [bB M hs] = some (wD r) ∧ ((r = none) ↔ fz M (bW M hs).length hs = true) ∧ ∀ H C,r = some (H,C) -> WL (G hs) hs.length H C:= by
 have h6:=hS.n
 have key:∃ r,bf oX mZ [bB M hs] = some (wD r) ∧ ((r = none ∧ ∀ i,i < hs.length -> cU (G hs) hs.length 8 [i] = none) ∨ ∃ i,i < hs.length ∧ r ≠ none ∧ cU (G hs) hs.length 8 [i] = r):= by
  have hi:=fun i (hi:i < hs.length) => jg hS hf 8 [i] (by simp) (by simp) (fun j hj => by rw [List.mem_singleton.mp hj]; exact hi) (by simp; omega)
  have e1:=de (M:Int) hs
  have e2:=jq hs
  have:∃ d,bf oX mZ [bB M hs] = some d ∧ ∃ r,d = wD r ∧ ((r = none ∧ ∀ i,i < hs.length -> cU (G hs) hs.length 8 [i] = none) ∨ ∃ i,i < hs.length ∧ r ≠ none ∧ cU (G hs) hs.length 8 [i] = r):= by
   apply u3
   show Ok mZ [.pu (bB M hs),.un,.un] _
   unfold mZ
   generalize bB (M:Int) hs = lay at *
   rw [cN]
   refine gW (lD (List.range hs.length)) (fun k δ => ∃ (a1 a2:Jt.Slot),δ = [.pu lay,a1,a2] ∧ ∀ i,i < k -> cU (G hs) hs.length 8 [i] = none) ?_ ⟨_,_,rfl,fun i h => by omega⟩ ?_ ?_
   ·have:bt (hs.length:Int) = true:=by simp [bt]; omega
    simp [e1,e2,cZ,this,tj]
   ·rintro k hk _ ⟨a1,a2,rfl,hz⟩
    have hk2:k < hs.length:=by simpa [lD] using hk
    have itm:(lD (List.range hs.length))[k] = .int (k:Int):=by simp [lD]
    rw [itm]
    have ck:=hi k hk2
    have l1:lD [k] = [.int (k:Int)]:=rfl
    rw [l1] at ck
    simp only [bA,List.length_cons,List.length_nil,List.set_cons_succ,List.set_cons_zero]
    refine ⟨by omega,?_⟩
    generalize nJ 8 = rec at *
    refine aR (fun δ => δ = [.pu lay,.pu (.int (k:Int)),.pu (wD (cU (G hs) hs.length 8 [k]))]) (by simp [aG,ck]) ?_
    rintro _ rfl
    cases hw:cU (G hs) hs.length 8 [k] with
    | none =>
     refine i5 (fun b δ => b = false ∧ δ = [.pu lay,.pu (.int (k:Int)),.pu (wD none)]) ?_ (fun _ h => by cases h.1) ?_
     ·simp [wD,jX,mr]
     ·rintro _ ⟨_,rfl⟩
      refine au.mpr ⟨_,_,rfl,fun i hi => ?_⟩
      by_cases e:i = k
      ·rw [e]; exact hw
      ·exact hz i (by omega)
    | some r =>
     refine i5 (fun b δ => b = true ∧ δ = [.pu lay,.pu (.int (k:Int)),.pu (wD (some r))]) ?_ ?_ (fun _ h => by cases h.1)
     ·obtain ⟨r1,r2⟩:=r
      simp [wD,jX,mr]
     ·rintro _ ⟨_,rfl⟩
      simp only [ax,bX,au]
      exact ⟨_,rfl,_,rfl,some r,rfl,.inr ⟨k,hk2,by simp,hw⟩⟩
   ·rintro _ ⟨a1,a2,rfl,hz⟩
    have:(lD (List.range hs.length)).length = hs.length:=by simp [lD]
    rw [this] at hz
    simp only [ax,au]
    exact ⟨_,rfl,none,rfl,.inl ⟨rfl,hz⟩⟩
  obtain ⟨d,h1,r,rfl,h2⟩:=this
  exact ⟨r,h1,h2⟩
 obtain ⟨r,h1,h2⟩:=key
 have fi:=found_iff hf (f:=8) (by omega)
 refine ⟨r,h1,?_,?_⟩
 ·rcases h2 with ⟨rfl,h2⟩ | ⟨i,hi,hr,h2⟩
  ·exact ⟨fun _ => fi.mp h2,fun _ => rfl⟩
  ·exact ⟨fun z => absurd z hr,fun z => absurd (fi.mpr z i hi) (fun q => hr (h2.symm.trans q))⟩
 ·rintro H C rfl
  rcases h2 with ⟨h2,_⟩ | ⟨i,hi,_,h2⟩
  ·cases h2
  ·exact lP 8 [i] (by simp) (by simp) (fun j hj => by rw [List.mem_singleton.mp hj]; exact hi) h2
end K42
namespace K42
open PySem L2 Jt
variable {hs:List (List Int)} {M:Nat}
theorem Hk (ls:List Nat) (h:ls.length ≤ 60):bf uy qT [.tup (lD ls)] = some (.bl (decide ls.Nodup)):= by
 apply cn
 show Ok qT [.pu (.tup (lD ls))] _
 unfold qT
 have h2:ls.length < 4000:=by omega
 have e:((jY (ls.map fun (i:Nat) => (i:Int))).length = ls.length) = ls.Nodup:= by
  have:=kf (ls.map fun (i:Nat) => (i:Int))
  rw [List.length_map] at this
  exact propext (this.trans jI)
 simp only [ax,dX,Du,bX,fH,bQ,au,List.getElem?_cons_zero,Option.some.injEq,Jt.Slot.pu.injEq,exists_eq_left']
 simp [fK,hU,jT,h2,br,bO,BX]
 rw [show (lD ls).length = ls.length by simp [lD]]
 simp only [Int.natCast_inj,show ∀ a b:Nat,((a:Int) = (b:Int)) = (a = b) from fun a b => propext Int.ofNat_inj,e]
def nv (n:Nat) (p:D):Prop:=∃ ls:List Nat,p = .tup (lD ls) ∧ ls.Nodup ∧ ∀ i ∈ ls,i < n
open Classical in
def Fz (n:Nat) (p:D):Bool:=decide (nv n p)
theorem zA {n:Nat} {ls:List Nat}:nv n (.tup (lD ls)) ↔ ls.Nodup ∧ ∀ i ∈ ls,i < n:= by
 constructor
 ·rintro ⟨ls',e,h⟩
  have e:=D.tup.inj e
  rw [mG e]; exact h
 ·exact fun h => ⟨ls,rfl,h⟩
theorem wA {n:Nat} {p:D} (h:nv n p):kI n p = true:= by
 obtain ⟨ls,rfl,_,h⟩:=h
 show (lD ls).all (dt n) = true
 rw [yU,List.all_eq_true]
 exact fun i hi => decide_eq_true (h i hi)
theorem FF {n:Nat} {p:D} (h:kI n p = true):∃ ls:List Nat,p = .tup (lD ls) ∧ ∀ i ∈ ls,i < n:= by
 cases p with
 | tup xs =>
  obtain ⟨ls,rfl,hl⟩:=mJ (show xs.all (dt n) = true from h)
  exact ⟨ls,rfl,hl⟩
 | _ => cases h
theorem iU {n:Nat} {p:D} (h:nv n p):Fz n p = true:=@decide_eq_true _ (Classical.propDecidable _) h
theorem gS {n:Nat} {p:D} (h:¬ nv n p):Fz n p = false:=@decide_eq_false _ (Classical.propDecidable _) h
theorem C9 {n:Nat} {p:D} (h:Short p):bf zL vR [p,.int (n:Int)] = some (.bl (Fz n p)):= by
 apply cn
 show Ok vR [.pu p,.pu (.int (n:Int))] _
 unfold vR
 have e:=HY (x:=p) (n:Int) h
 cases q:kI (n:Int) p with
 | false =>
  rw [q] at e
  rw [gS fun z => by rw [wA z] at q; cases q]
  simp [aG,e]
 | true =>
  rw [q] at e
  obtain ⟨ls,rfl,hl⟩:=FF q
  have e2:=Hk ls (by have:=h _ rfl; rw [dv] at this; exact this)
  by_cases nd:ls.Nodup
  ·rw [iU (zA.mpr ⟨nd,hl⟩)]
   rw [decide_eq_true nd] at e2
   generalize D.tup (lD ls) = p at *
   simp [aG,e,e2]
  ·rw [gS fun z => nd (zA.mp z).1]
   rw [decide_eq_false nd] at e2
   generalize D.tup (lD ls) = p at *
   simp [aG,e,e2]
structure Tn (hs:List (List Int)) (M least:Nat) (H C:List Nat):Prop where
 nH:H.Nodup
 nC:C.Nodup
 lH:∀ i ∈ H,i < hs.length
 lC:∀ i ∈ C,i < M
 len:C.length = H.length
 big:least ≤ H.length
 at_:∀ k,k < H.length -> ((C.getD k 0:Nat):Int) ∈ G hs (H.getD k 0) ∧ ((C.getD k 0:Nat):Int) ∈ G hs (H.getD (cB H.length k) 0)
def Turn (hs:List (List Int)) (M least:Nat) (t:D):Prop:=∃ H C,t = .tup [.tup (lD H),.tup (lD C)] ∧ Tn hs M least H C
open Classical in
def oG (hs:List (List Int)) (M least:Nat) (t:D):Bool:=decide (Turn hs M least t)
theorem lp {least:Nat} {H C:List Nat}:Turn hs M least (.tup [.tup (lD H),.tup (lD C)]) ↔ Tn hs M least H C:= by
 constructor
 ·rintro ⟨H',C',e,h⟩
  simp only [D.tup.injEq,List.cons.injEq,and_true] at e
  rw [mG e.1,mG e.2]; exact h
 ·exact fun h => ⟨H,C,rfl,h⟩
theorem gG {least:Nat} {t:D} (h:Turn hs M least t):oG hs M least t = true:=@decide_eq_true _ (Classical.propDecidable _) h
theorem bU {least:Nat} {t:D} (h:¬ Turn hs M least t):oG hs M least t = false:=@decide_eq_false _ (Classical.propDecidable _) h
def nG (t:D):Prop:=∀ p c,t = .tup [p,c] -> Short p ∧ Short c
def iq:D -> Bool
 | .tup [_,_] => true
 | _ => false
theorem qC {least:Nat} {t:D} (h:Turn hs M least t):iq t = true:= by
 obtain ⟨H,C,rfl,_⟩:=h
 rfl
theorem xp {t:D} (h:iq t = true):∃ p c,t = .tup [p,c]:= by
 unfold iq at h
 split at h
 ·exact ⟨_,_,rfl⟩
 ·cases h
theorem qU {t:D} {δ:DS} (h:δ[1]? = some (.pu t)):Ok (oT (fQ (do let x <- (jl .tup (ag 1)); lift (cm x))) (m2 (dg true) (mC br (ae (ag 1) (pure []))) (pure (.int 2)) >>= cx)) δ fun b δ1 => b = (!iq t) ∧ δ1 = δ:= by
 cases t with
 | tup xs =>
  have hl:br [.tup xs] = some (.int (xs.length:Int)):=rfl
  rcases xs with _ | ⟨a,_ | ⟨b,_ | ⟨c,r⟩⟩⟩
  ·simp [h,cm,br,bO,iq]
  ·simp [h,cm,br,bO,iq]
  ·simp [h,cm,br,bO,iq]
  ·have:¬ ((r.length:Int) + 1 + 1 + 1 = 2):=by omega
   simp [h,cm,br,bO,iq,this]
 | _ => simp [h,cm,iq]
theorem yT {H C:List Nat} (hl:C.length = H.length):eG (lD C) ((List.range H.length).map fun k => .tup [.int ((H.getD k 0:Nat):Int),.int ((H.getD (cB H.length k) 0:Nat):Int)]) = (List.range H.length).map fun k => .tup [.int ((C.getD k 0:Nat):Int),.tup [.int ((H.getD k 0:Nat):Int),.int ((H.getD (cB H.length k) 0:Nat):Int)]]:= by
 have gen:∀ (C:List Nat) (f:Nat -> D),eG (lD C) ((List.range C.length).map f) = (List.range C.length).map fun k => .tup [.int ((C.getD k 0:Nat):Int),f k]:= by
  intro C
  induction C with
  | nil => intro f; rfl
  | cons x r ih =>
   intro f
   rw [List.length_cons,List.range_succ_eq_map,List.map_cons,List.map_map,List.map_cons,List.map_map]
   show D.tup [.int (x:Int),f 0] :: eG (lD r) _ = _
   have:=ih (fun k => f (k + 1))
   rw [show (f ∘ Nat.succ) = fun k => f (k + 1) from rfl,this]
   rfl
 rw [<- hl]
 exact gen C _
theorem Ir (hS:Sm hs) {t:D} (h:nG t):bf kQ qw [bB M hs,t] = some (.bl (oG hs M 2 t)):= by
 apply cn
 show Ok qw [.pu (bB M hs),.pu t,.un,.un] _
 unfold qw
 refine bP (!iq t) (qU rfl) (fun q => ?_) (fun q => ?_)
 ·rw [bU fun z => by rw [qC z] at q; cases q]
  simp
 obtain ⟨p,c,rfl⟩:=xp (t:=t) (by simpa using q)
 obtain ⟨sp,sc⟩:=h p c rfl
 have e1:=de (M:Int) hs
 have e0:=g_ (M:Int) hs
 have e2:=jq hs
 have ec:=fun {a b:Nat} (ha:a < hs.length) (hb:b < hs.length) => Dw (hs:=hs) (M:Int) hS.h ha hb
 generalize bB (M:Int) hs = lay at *
 refine aR (fun δ => δ = [.pu lay,.pu (.tup [p,c]),.pu p,.pu c]) (by simp) ?_
 rintro _ rfl
 have up:=C9 (n:=hs.length) sp
 have uc:=C9 (n:=M) sc
 by_cases qp:nv hs.length p
 ·by_cases qc:nv M c
  ·rw [iU qp] at up
   rw [iU qc] at uc
   obtain ⟨H,rfl,nH,lH⟩:=qp
   obtain ⟨C,rfl,nC,lC⟩:=qc
   refine bP false ?_ (fun h => by cases h) (fun _ => ?_)
   ·generalize D.tup (lD H) = p at *
    generalize D.tup (lD C) = c at *
    simp [aG,e0,e1,e2,up,uc,cm]
   have hH:H.length ≤ 6:=Nat.le_trans (g6 _ _ nH lH) hS.n
   have l1:br [.tup (lD H)] = some (.int (H.length:Int)):=by simp [br,lD]
   have l2:br [.tup (lD C)] = some (.int (C.length:Int)):=by simp [br,lD]
   have b1:mY (.int (H.length:Int)) (.int 2) = some (.bl (decide (H.length < 2))):=by simp [mY,cg]; omega
   have b2:dg true (.int (C.length:Int)) (.int (H.length:Int)) = some (.bl (!decide (C.length = H.length))):= by
    rw [bO]
    have:decide ((C.length:Int) = (H.length:Int)) = decide (C.length = H.length):=decide_eq_decide.mpr Int.ofNat_inj
    rw [this]
    rfl
   have ew:=Di hH
   refine bP (decide (H.length < 2) || !decide (C.length = H.length)) ?_ (fun q => ?_) (fun q => ?_)
   ·generalize D.tup (lD H) = p at *
    generalize D.tup (lD C) = c at *
    generalize decide (H.length < 2) = xb at *
    generalize decide (C.length = H.length) = yb at *
    cases xb <;> simp [l1,l2,b1,b2]
   ·rw [bU fun z => by
     have z:=lp.mp z
     have:=z.big
     have:=z.len
     simp at q
     omega]
    simp
   ·have q1:2 ≤ H.length ∧ C.length = H.length:=by simp at q; omega
    have zn:kz [.tup (lD C),.lst ((List.range H.length).map fun k => .tup [.int ((H.getD k 0:Nat):Int),.int ((H.getD (cB H.length k) 0:Nat):Int)])] = some (a_ ((List.range H.length).map fun k => .tup [.int ((C.getD k 0:Nat):Int),.tup [.int ((H.getD k 0:Nat):Int),.int ((H.getD (cB H.length k) 0:Nat):Int)]])):= by
     show some (a_ (eG _ _)) = _
     rw [yT q1.2]
    generalize (List.range H.length).map (fun k => D.tup [.int ((H.getD k 0:Nat):Int),.int ((H.getD (cB H.length k) 0:Nat):Int)]) = wn at *
    have tt:oG hs M 2 (.tup [.tup (lD H),.tup (lD C)]) = (List.range H.length).all fun k => decide (((C.getD k 0:Nat):Int) ∈ ip hs (H.getD k 0) (H.getD (cB H.length k) 0)):= by
     by_cases qa:∀ k,k < H.length -> ((C.getD k 0:Nat):Int) ∈ G hs (H.getD k 0) ∧ ((C.getD k 0:Nat):Int) ∈ G hs (H.getD (cB H.length k) 0)
     ·rw [gG (lp.mpr ⟨nH,nC,lH,lC,q1.2,q1.1,qa⟩)]
      symm
      rw [List.all_eq_true]
      intro k hk
      obtain ⟨a,b⟩:=qa k (List.mem_range.mp hk)
      exact decide_eq_true (List.mem_filter.mpr ⟨a,decide_eq_true b⟩)
     ·rw [bU fun z => qa (lp.mp z).at_]
      symm
      rw [<- Bool.not_eq_true,List.all_eq_true]
      intro z
      refine qa fun k hk => ?_
      obtain ⟨a,b⟩:=List.mem_filter.mp (of_decide_eq_true (z k (List.mem_range.mpr hk)))
      exact ⟨a,of_decide_eq_true b⟩
    rw [tt]
    simp only [ax,fH,bQ,au]
    refine aX (List.range H.length) (fun k => .tup [.int ((C.getD k 0:Nat):Int),.tup [.int ((H.getD k 0:Nat):Int),.int ((H.getD (cB H.length k) 0:Nat):Int)]]) (fun k => some (.bl (decide (((C.getD k 0:Nat):Int) ∈ ip hs (H.getD k 0) (H.getD (cB H.length k) 0))))) rfl ?_ (by simp; omega) (fun k hk => ?_) ?_
    ·generalize D.tup (lD H) = p at *
     generalize D.tup (lD C) = c at *
     simp [aG,ew,zn]
    ·have hk:=List.mem_range.mp hk
     have la:=lH _ (bR hk)
     have lb:=lH _ (bR (dh hk))
     have ecc:=ec la lb
     have di:=eK false ((C.getD k 0:Nat):Int) (ip hs (H.getD k 0) (H.getD (cB H.length k) 0))
     generalize D.tup (lD H) = p at *
     generalize D.tup (lD C) = c at *
     generalize ip hs (H.getD k 0) (H.getD (cB H.length k) 0) = bl at *
     generalize H.getD k 0 = ia at *
     generalize H.getD (cB H.length k) 0 = ib at *
     generalize ((C.getD k 0:Nat):Int) = ck at *
     simp [aG,ecc,di]
    ·rw [List.filterMap_eq_map']
     simp [jm,dM,Function.comp_def]
  ·rw [iU qp] at up
   rw [gS qc] at uc
   refine bP true ?_ (fun _ => ?_) (fun h => by cases h)
   ·simp [aG,e0,e1,e2,up,uc,cm]
   ·rw [bU fun ⟨H,C,e,z⟩ => by
     simp only [D.tup.injEq,List.cons.injEq,and_true] at e
     exact qc (e.2 ▸ ⟨C,rfl,z.nC,z.lC⟩)]
    simp
 ·rw [gS qp] at up
  refine bP true ?_ (fun _ => ?_) (fun h => by cases h)
  ·simp [aG,e1,e2,up,cm]
  ·rw [bU fun ⟨H,C,e,z⟩ => by
    simp only [D.tup.injEq,List.cons.injEq,and_true] at e
    exact qp (e.1 ▸ ⟨H,rfl,z.nH,z.lH⟩)]
   simp
end K42
namespace K42
open PySem L2 Jt
variable {hs:List (List Int)} {M:Nat}
theorem qH {n:Nat} {ns:List Int}:nv n (.tup (ns.map .int)) ↔ ns.Nodup ∧ ∀ i ∈ ns,0 ≤ i ∧ i < (n:Int):= by
 constructor
 ·rintro ⟨ls,e,h1,h2⟩
  have e:=D.tup.inj e
  have:ns = ls.map fun (i:Nat) => (i:Int):= by
   have h:=congrArg fG e
   rw [fY,jT] at h
   exact Option.some.inj h
  subst this
  refine ⟨jI.mpr h1,fun i hi => ?_⟩
  obtain ⟨a,ha,rfl⟩:=List.mem_map.mp hi
  have:=h2 a ha
  omega
 ·rintro ⟨h1,h2⟩
  have e:(ns.map Int.toNat).map (fun (i:Nat) => (i:Int)) = ns:= by
   rw [List.map_map]
   conv => rhs; rw [<- List.map_id ns]
   refine List.map_congr_left fun i hi => ?_
   have:=(h2 i hi).1
   show ((i.toNat:Nat):Int) = i
   omega
  refine ⟨ns.map Int.toNat,?_,?_,fun i hi => ?_⟩
  ·unfold lD
   conv => lhs; rw [<- e]
   rw [List.map_map]
   rfl
  ·rw [<- jI,e]; exact h1
  ·obtain ⟨a,ha,rfl⟩:=List.mem_map.mp hi
   have:=h2 a ha
   omega
theorem wK {n:Nat} {xs:List D} (h:nv n (.tup xs)):xs.all isInt = true:= by
 obtain ⟨ls,e,_⟩:=h
 have e:=D.tup.inj e
 subst e
 unfold lD
 rw [List.all_map,List.all_eq_true]
 exact fun _ _ => rfl
theorem oY {n:Nat} {p:D} {a0 a1 a2 a5 a6 a7 a8:Jt.Slot} (sp:Short p) :
  Ok (aJ (fT (oT (fQ (do let x <- (jl .tup (ag 3)); lift (cm x))) (oT (fQ (do let x <- (mC jm (ae (do let xs <- (aU 9 1 (do let x <- (ag 3); lift (aF x)) (aZ (aY 9) (pure true) (mC (aG 1 (bf qD oA)) (ae (ag 9) (pure []))))); pure (D.lst xs)) (pure []))); lift (cm x))) (m2 (dg true) (mQ hU (do let x <- (ag 3); lift (fK x))) (mC br (ae (ag 3) (pure []))) >>= cx))) (do let d <- (pure (.bl false)); pure (Fl.rt d)) (pure .nx))
  (fT ((m2 (i_ true) (do let xs <- (aU 9 1 (do let x <- (ag 3); lift (aF x)) (aZ (aY 9) (fQ ((AH Aw mY (pure (.int 0)) (ag 9) (ag 4)) >>= cx)) (ag 9))); pure (D.lst xs)) (do let xs <- (cK (pure [])); pure (D.lst xs))) >>= cx) (do let d <- (pure (.bl false)); pure (Fl.rt d)) (pure .nx)))
   [a0,a1,a2,.pu p,.pu (.int (n:Int)),a5,a6,a7,a8] fun fl δ => (nv n p -> fl = .nx ∧ δ = [a0,a1,a2,.pu p,.pu (.int (n:Int)),a5,a6,a7,a8]) ∧ (¬ nv n p -> fl = .rt (.bl false)):= by
 cases p with
 | tup xs =>
  have hl:=sp xs rfl
  cases q:xs.all isInt with
  | false =>
   have nu:¬ nv n (.tup xs):=fun z => by rw [wK z] at q; cases q
   refine bP true ?_ (fun _ => ?_) (fun h => by cases h)
   ·simp only [qj,uA,ax,fH,bQ,au,uX,bX]
    refine ⟨_,rfl,?_⟩
    simp only [jD,cm,b9,Bool.not_true,Bool.false_eq_true,if_false]
    refine aX xs id (fun x => some (.bl (isInt x))) rfl ?_ (by omega) (fun x hx => ?_) ?_
    ·simp [aF]
    ·simp [aG,kP]
    ·have da:jm [.lst (xs.map fun x => .bl (isInt x))] = some (.bl false):= by
      have:(xs.map fun x => isInt x).all id = false:=by rw [List.all_map]; exact q
      simp only [jm,dM,Option.map_some,this]
     rw [List.filterMap_eq_map']
     generalize D.lst (xs.map fun x => .bl (isInt x)) = zs at *
     simp [da,cm]
   ·simp [nu]
  | true =>
   obtain ⟨ns,rfl⟩:=mI q
   rw [List.length_map] at hl
   have hset:hU (ns.map .int) = some (.int ((jY ns).length:Int)):= by
    unfold hU
    rw [fY]
    simp
    omega
   have hln:br [.tup (ns.map .int)] = some (.int (ns.length:Int)):=by simp [br]
   have hse:dg true (.int ((jY ns).length:Int)) (.int (ns.length:Int)) = some (.bl (!decide ns.Nodup)):= by
    rw [bO]
    have e:decide (((jY ns).length:Int) = (ns.length:Int)) = decide ns.Nodup:=decide_eq_decide.mpr (Int.ofNat_inj.trans (kf ns))
    rw [e]
    simp
   have hsd:fK (.tup (ns.map .int)) = some (ns.map .int):=rfl
   have hsi:aF (.tup (ns.map .int)) = some (a_ (ns.map .int)):=rfl
   refine bP (!decide ns.Nodup) ?_ (fun z => ?_) (fun z => ?_)
   ·simp only [qj,uA,ax,fH,bQ,au,uX,bX]
    refine ⟨_,rfl,?_⟩
    simp only [jD,cm,b9,Bool.not_true,Bool.false_eq_true,if_false]
    refine aX ns .int (fun x => some (.bl true)) rfl ?_ (by omega) (fun x hx => ?_) ?_
    ·simp [hsi]
    ·simp [aG,kP,isInt]
    ·have:boolsOf (ns.map fun _ => D.bl true) = some (ns.map fun _ => true):=dM _ _
     have t2:(ns.map fun _ => true).all id = true:=by rw [List.all_map,List.all_eq_true]; exact fun _ _ => rfl
     rw [List.filterMap_eq_map']
     simp only [jm,this,Option.map_some,t2,b9,cm,Bool.not_true,Bool.false_eq_true,if_false]
     generalize decide ns.Nodup = nb at *
     simp [hsd,hset,hln,hse]
   ·have nu:¬ nv n (.tup (ns.map .int)):=fun u => by rw [decide_eq_true (qH.mp u).1] at z; cases z
    simp [nu]
   ·have nd:ns.Nodup:=by simpa using z
    have key:nv n (.tup (ns.map .int)) ↔ (ns.filter fun i => !(decide (0 ≤ i) && decide (i < (n:Int)))) = []:= by
     rw [qH,List.filter_eq_nil_iff]
     simp [nd]
    have eq1:=cG true ((ns.filter fun i => !(decide (0 ≤ i) && decide (i < (n:Int)))).map D.int)
    refine i5 (fun b δ => b = (!((ns.filter fun i => !(decide (0 ≤ i) && decide (i < (n:Int)))).map D.int).isEmpty) ∧ δ = [a0,a1,a2,.pu (.tup (ns.map .int)),.pu (.int (n:Int)),a5,a6,a7,a8]) ?_ ?_ ?_
    ·simp only [ax,dX,au]
     refine aX ns .int (fun i => if (!(decide (0 ≤ i) && decide (i < (n:Int)))) = true then some (.int i) else none) rfl ?_ (by omega) (fun i hi => ?_) ?_
     ·simp [hsi]
     ·by_cases h0:0 ≤ i
      ·by_cases h1:i < (n:Int)
       ·simp [Aw,mY,cg,h0,h1]
       ·simp [Aw,mY,cg,h0,h1]
      ·simp [Aw,mY,cg,h0]
     ·rw [aO]
      generalize (ns.filter fun i => !(decide (0 ≤ i) && decide (i < (n:Int)))).map D.int = zs at *
      generalize zs.isEmpty = zb at *
      simp [eq1]
    ·rintro _ ⟨hb,rfl⟩
     have nu:¬ nv n (.tup (ns.map .int)):=fun u => by
      rw [key.mp u] at hb; cases hb
     simp [nu]
    ·rintro _ ⟨hb,rfl⟩
     have u:nv n (.tup (ns.map .int)):=key.mpr (by
      cases z:ns.filter fun i => !(decide (0 ≤ i) && decide (i < (n:Int))) with
      | nil => rfl
      | cons x r => rw [z] at hb; cases hb)
     exact au.mpr ⟨fun _ => ⟨rfl,rfl⟩,fun z => absurd u z⟩
 | _ =>
  refine bP true (by simp [cm]) (fun _ => ?_) (fun h => by cases h)
  simp [nv]
theorem Cv {N k:Nat} (hk:k < N):((k:Int) + 1) % (N:Int) = ((cB N k:Nat):Int):= by
 unfold cB
 split
 ·rename_i e
  rw [<- e]
  rw [show ((k:Int) + 1) = ((k + 1:Nat):Int) by omega,Int.emod_self]
  rfl
 ·rw [Int.emod_eq_of_lt (by omega) (by omega)]
  omega
theorem rZ (hS:Sm hs) {t:D} (h:nG t) (least:Nat) (h10:least ≤ 10):bf kS rY [bB M hs,t,.int (least:Int)] = some (.bl (oG hs M least t)):= by
 apply cn
 show Ok rY [.pu (bB M hs),.pu t,.pu (.int (least:Int)),.un,.un,.un,.un,.un,.un] _
 unfold rY
 refine bP (!iq t) (qU rfl) (fun q => ?_) (fun q => ?_)
 ·rw [bU fun z => by rw [qC z] at q; cases q]
  simp
 obtain ⟨p,c,rfl⟩:=xp (t:=t) (by simpa using q)
 obtain ⟨sp,sc⟩:=h p c rfl
 have e1:=de (M:Int) hs
 have e0:=g_ (M:Int) hs
 have e2:=jq hs
 have h6:=hS.n
 generalize bB (M:Int) hs = lay at *
 rw [cN]
 refine gW [.tup [p,.int (hs.length:Int)],.tup [c,.int (M:Int)]] (fun k δ => ∃ a3 a4:Jt.Slot,δ = [.pu lay,.pu (.tup [p,c]),.pu (.int (least:Int)),a3,a4,.un,.un,.un,.un] ∧ (1 ≤ k -> nv hs.length p) ∧ (2 ≤ k -> nv M c)) ?_ ⟨_,_,rfl,fun h => by omega,fun h => by omega⟩ ?_ ?_
 ·have z:kz [.tup [p,c],.lst [.int (hs.length:Int),.int (M:Int)]] = some (a_ [.tup [p,.int (hs.length:Int)],.tup [c,.int (M:Int)]]):=rfl
  simp [e1,e0,e2,z]
 ·rintro k hk _ ⟨a3,a4,rfl,u1,u2⟩
  have hk:k < 2:=hk
  have cases2:k = 0 ∨ k = 1:=by omega
  rcases cases2 with rfl | rfl
  ·simp only [List.getElem_cons_zero,pD,List.length_cons,List.length_nil,kC,mH,bA,List.set_cons_succ,List.set_cons_zero]
   simp only [Nat.reduceAdd,Nat.reduceLT,if_true,true_and]
   refine (oY sp).mono fun fl δ hq => ?_
   by_cases u:nv hs.length p
   ·obtain ⟨rfl,rfl⟩:=hq.1 u
    exact ⟨_,_,rfl,fun _ => u,fun h => by omega⟩
   ·rw [hq.2 u]
    show Fl.rt (.bl false) = _
    rw [bU fun ⟨H,C,e,z⟩ => by
     simp only [D.tup.injEq,List.cons.injEq,and_true] at e
     exact u (e.1 ▸ ⟨H,rfl,z.nH,z.lH⟩)]
  ·simp only [List.getElem_cons_succ,List.getElem_cons_zero,pD,List.length_cons,List.length_nil,kC,mH,bA,List.set_cons_succ,List.set_cons_zero]
   simp only [Nat.reduceAdd,Nat.reduceLT,if_true,true_and]
   refine (oY sc).mono fun fl δ hq => ?_
   by_cases u:nv M c
   ·obtain ⟨rfl,rfl⟩:=hq.1 u
    exact ⟨_,_,rfl,fun _ => u1 (by omega),fun _ => u⟩
   ·rw [hq.2 u]
    show Fl.rt (.bl false) = _
    rw [bU fun ⟨H,C,e,z⟩ => by
     simp only [D.tup.injEq,List.cons.injEq,and_true] at e
     exact u (e.2 ▸ ⟨C,rfl,z.nC,z.lC⟩)]
 ·rintro _ ⟨a3,a4,rfl,u1,u2⟩
  obtain ⟨H,rfl,nH,lH⟩:=u1 (by simp)
  obtain ⟨C,rfl,nC,lC⟩:=u2 (by simp)
  have hH:H.length ≤ 6:=Nat.le_trans (g6 _ _ nH lH) hS.n
  have l1:br [.tup (lD H)] = some (.int (H.length:Int)):=by simp [br,lD]
  have l2:br [.tup (lD C)] = some (.int (C.length:Int)):=by simp [br,lD]
  have b1:mY (.int (H.length:Int)) (.int (least:Int)) = some (.bl (decide (H.length < least))):=by simp [mY,cg]
  have b2:dg true (.int (H.length:Int)) (.int (C.length:Int)) = some (.bl (!decide (H.length = C.length))):= by
   rw [bO]
   have:decide ((H.length:Int) = (C.length:Int)) = decide (H.length = C.length):=decide_eq_decide.mpr Int.ofNat_inj
   rw [this]
   rfl
  refine aR (fun δ => δ = [.pu lay,.pu (.tup [.tup (lD H),.tup (lD C)]),.pu (.int (least:Int)),a3,a4,.pu (.tup (lD H)),.pu (.tup (lD C)),.un,.un]) (by simp) ?_
  rintro _ rfl
  have tl:=lp (hs:=hs) (M:=M) (least:=least) (H:=H) (C:=C)
  have xH:=fun k (hk:k < H.length) => uI hk
  have xC:=fun k (hk:k < C.length) => uI hk
  generalize D.tup [.tup (lD H),.tup (lD C)] = t at *
  generalize D.tup (lD H) = p at *
  generalize D.tup (lD C) = c at *
  refine bP (!decide (H.length = C.length) || decide (H.length < least)) ?_ (fun q => ?_) (fun q => ?_)
  ·generalize decide (H.length < least) = xb at *
   generalize decide (H.length = C.length) = yb at *
   cases yb <;> simp [l1,l2,b1,b2]
  ·rw [bU fun z => by
    have z:=tl.mp z
    have:=z.big
    have:=z.len
    simp at q
    omega]
   simp
  ·have q1:C.length = H.length ∧ least ≤ H.length:=by simp at q; omega
   rw [cN]
   have sH:bt (H.length:Int) = true:=by simp [bt]; omega
   refine gW (lD (List.range H.length)) (fun k δ => ∃ a7 a8:Jt.Slot,δ = [.pu lay,.pu t,.pu (.int (least:Int)),a3,a4,.pu p,.pu c,a7,a8] ∧ ∀ i,i < k -> ((C.getD i 0:Nat):Int) ∈ G hs (H.getD i 0) ∧ ((C.getD i 0:Nat):Int) ∈ G hs (H.getD (cB H.length i) 0)) ?_ ⟨_,_,rfl,fun i h => by omega⟩ ?_ ?_
   ·simp [l1,cZ,sH,tj]
   ·rintro k hk _ ⟨a7,a8,rfl,hz⟩
    have hk2:k < H.length:=by simpa [lD] using hk
    have itm:(lD (List.range H.length))[k] = .int (k:Int):=by simp [lD]
    rw [itm]
    simp only [bA,List.length_cons,List.length_nil,List.set_cons_succ,List.set_cons_zero]
    refine ⟨by omega,?_⟩
    have hn:=dh hk2
    have x1:=xH k hk2
    have x2:=xH _ hn
    have x3:=xC k (by omega)
    have y1:=iz (lH _ (bR hk2))
    have y2:=iz (lH _ (bR hn))
    have md:nD (.int ((k:Int) + 1)) (.int (H.length:Int)) = some (.int (((k:Int) + 1) % (H.length:Int))):=if_pos (decide_eq_true (by omega:(0:Int) < (H.length:Int)))
    rw [Cv hk2] at md
    have ad:dk (.int (k:Int)) (.int 1) = some (.int ((k:Int) + 1)):=rfl
    have d1:=eK true ((C.getD k 0:Nat):Int) (G hs (H.getD k 0))
    have d2:=eK true ((C.getD k 0:Nat):Int) (G hs (H.getD (cB H.length k) 0))
    have tf:¬ (((C.getD k 0:Nat):Int) ∈ G hs (H.getD k 0) ∧ ((C.getD k 0:Nat):Int) ∈ G hs (H.getD (cB H.length k) 0)) -> oG hs M least t = false:=fun z => bU fun q => z ((tl.mp q).at_ k hk2)
    generalize hq1:decide (((C.getD k 0:Nat):Int) ∈ G hs (H.getD k 0)) = q1 at d1
    generalize hq2:decide (((C.getD k 0:Nat):Int) ∈ G hs (H.getD (cB H.length k) 0)) = q2 at d2
    generalize hD (G hs (H.getD k 0)) = g1 at y1 d1
    generalize hD (G hs (H.getD (cB H.length k) 0)) = g2 at y2 d2
    generalize D.tup (hs.map hD) = hd at e1 y1 y2
    generalize ((H.getD k 0:Nat):Int) = ia at x1 y1
    generalize ((H.getD (cB H.length k) 0:Nat):Int) = ib at x2 y2
    generalize ((cB H.length k:Nat):Int) = nx at x2 md
    generalize ((C.getD k 0:Nat):Int) = ck at x3 d1 d2
    refine aR (fun δ => δ = [.pu lay,.pu t,.pu (.int (least:Int)),a3,a4,.pu p,.pu c,.pu (.int (k:Int)),.pu (.lst [g1,g2])]) (by simp [e1,x1,x2,y1,y2,ad,md,l1]) ?_
    rintro _ rfl
    have z0:cQ (.lst [g1,g2]) (.int 0) = some g1:=rfl
    have z1:cQ (.lst [g1,g2]) (.int 1) = some g2:=rfl
    refine i5 (fun b δ => b = !(q1 && q2) ∧ δ = [.pu lay,.pu t,.pu (.int (least:Int)),a3,a4,.pu p,.pu c,.pu (.int (k:Int)),.pu (.lst [g1,g2])]) ?_ ?_ ?_
    ·cases q1 <;> simp [x3,z0,z1,d1,d2]
    ·rintro _ ⟨hb,rfl⟩
     rw [tf fun z => by
      rw [decide_eq_true z.1] at hq1
      rw [decide_eq_true z.2] at hq2
      rw [<- hq1,<- hq2] at hb
      cases hb]
     simp
    ·rintro _ ⟨hb,rfl⟩
     have hb:q1 = true ∧ q2 = true:=by simpa using hb.symm
     refine au.mpr ⟨_,_,rfl,fun i hi => ?_⟩
     by_cases e:i = k
     ·rw [e]
      exact ⟨of_decide_eq_true (hq1.trans hb.1),of_decide_eq_true (hq2.trans hb.2)⟩
     ·exact hz i (by omega)
   ·rintro _ ⟨a7,a8,rfl,hz⟩
    have:(lD (List.range H.length)).length = H.length:=by simp [lD]
    rw [this] at hz
    rw [gG (tl.mpr ⟨nH,nC,lH,lC,q1.1,q1.2,hz⟩)]
    simp
end K42
namespace K42
open PySem L2 Jt
variable {hs:List (List Int)} {M:Nat}
def Wr (hs:List (List Int)) (M:Nat) (t:D):Prop:=∃ H C,t = .tup [.tup (lD H),.tup (lD C)] ∧ Tn hs M 3 H C ∧ ∀ c ∈ C,df (G hs) H (c:Int) = true
open Classical in
def Ck (hs:List (List Int)) (M:Nat) (t:D):Bool:=decide (Wr hs M t)
theorem lR {t:D} (h:Wr hs M t):Ck hs M t = true:=@decide_eq_true _ (Classical.propDecidable _) h
theorem f6 {t:D} (h:¬ Wr hs M t):Ck hs M t = false:=@decide_eq_false _ (Classical.propDecidable _) h
theorem Wr.turn {t:D} (h:Wr hs M t):Turn hs M 3 t:= by
 obtain ⟨H,C,e,h,_⟩:=h
 exact ⟨H,C,e,h⟩
theorem Tn.less {a b:Nat} {H C:List Nat} (h:Tn hs M a H C) (hb:b ≤ H.length):Tn hs M b H C:=⟨h.nH,h.nC,h.lH,h.lC,h.len,hb,h.at_⟩
theorem Turn.less {a b:Nat} {t:D} (h:Turn hs M a t) (hb:b ≤ a):Turn hs M b t:= by
 obtain ⟨H,C,e,h⟩:=h
 exact ⟨H,C,e,h.less (Nat.le_trans hb h.big)⟩
theorem rH {H C:List Nat}:Wr hs M (.tup [.tup (lD H),.tup (lD C)]) ↔ Tn hs M 3 H C ∧ ∀ c ∈ C,df (G hs) H (c:Int) = true:= by
 constructor
 ·rintro ⟨H',C',e,h⟩
  simp only [D.tup.injEq,List.cons.injEq,and_true] at e
  rw [mG e.1,mG e.2]; exact h
 ·exact fun h => ⟨H,C,rfl,h⟩
theorem GV (hS:Sm hs) {t:D} (h:nG t):bf l8 pg [bB M hs,t] = some (.bl (Ck hs M t)):= by
 apply cn
 show Ok pg [.pu (bB M hs),.pu t,.un,.un] _
 unfold pg
 have el:=Ir (M:=M) hS h
 by_cases q:Turn hs M 2 t
 ·rw [gG q] at el
  obtain ⟨H,C,rfl,T⟩:=q
  have hH:H.length ≤ 6:=Nat.le_trans (g6 _ _ T.nH T.lH) hS.n
  have eo:=fun {c:Nat} (hc:c < M) => nk (hs:=hs) (M:=M) hS.n hH T.nH T.lH hc
  have l1:br [.tup (lD H)] = some (.int (H.length:Int)):=by simp [br,lD]
  have b1:mY (.int (H.length:Int)) (.int 3) = some (.bl (decide (H.length < 3))):=by simp [mY,cg]; omega
  have x0:cQ (.tup [.tup (lD H),.tup (lD C)]) (.int 0) = some (.tup (lD H)):=rfl
  have si:aF (.tup (lD C)) = some (a_ (C.map fun (i:Nat) => D.int (i:Int))):=rfl
  have hC:C.length ≤ 6:=by have:=T.len; omega
  generalize bB (M:Int) hs = lay at *
  refine bP (decide (H.length < 3)) ?_ (fun q => ?_) (fun q => ?_)
  ·generalize D.tup [.tup (lD H),.tup (lD C)] = t at *
   generalize D.tup (lD H) = p at *
   generalize decide (H.length < 3) = xb at *
   simp [aG,el,cm,x0,l1,b1]
  ·rw [f6 fun z => by
    have:=(rH.mp z).1.big
    have:=of_decide_eq_true q
    omega]
   simp
  ·have q:=of_decide_eq_false q
   have tt:Ck hs M (.tup [.tup (lD H),.tup (lD C)]) = C.all fun (c:Nat) => df (G hs) H (c:Int):= by
    by_cases qa:∀ c ∈ C,df (G hs) H (c:Int) = true
    ·rw [lR (rH.mpr ⟨T.less (by omega),qa⟩)]
     exact (List.all_eq_true.mpr qa).symm
    ·rw [f6 fun z => qa (rH.mp z).2]
     symm
     rw [<- Bool.not_eq_true,List.all_eq_true]
     exact qa
   rw [tt]
   refine aR (fun δ => δ = [.pu lay,.pu (.tup [.tup (lD H),.tup (lD C)]),.pu (.tup (lD H)),.pu (.tup (lD C))]) (by simp) ?_
   rintro _ rfl
   generalize D.tup [.tup (lD H),.tup (lD C)] = t at *
   generalize D.tup (lD H) = p at *
   simp only [ax,fH,bQ,au]
   refine aX C (fun (i:Nat) => .int (i:Int)) (fun c => some (.bl (df (G hs) H (c:Int)))) rfl ?_ (by omega) (fun c hc => ?_) ?_
   ·generalize D.tup (lD C) = cc at *
    simp [si]
   ·have e:=eo (T.lC c hc)
    generalize D.tup (lD C) = cc at *
    simp [aG,e]
   ·rw [List.filterMap_eq_map']
    simp [jm,dM,Function.comp_def]
 ·rw [bU q] at el
  rw [f6 fun z => q (z.turn.less (by omega))]
  generalize bB (M:Int) hs = lay at *
  refine bP true ?_ (fun _ => by simp) (fun h => by cases h)
  simp [aG,el,cm]
theorem gU (hS:Sm hs) {t:D} (h:nG t):bf rP tU [bB M hs,t] = some (.bl (Ck hs M t)):= by
 apply cn
 show Ok tU [.pu (bB M hs),.pu t,.un] _
 unfold tU
 have el:=rZ (M:=M) hS h 3 (by omega)
 have h3:((3:Nat):Int) = 3:=rfl
 rw [h3] at el
 have e1:=de (M:Int) hs
 by_cases q:Turn hs M 3 t
 ·rw [gG q] at el
  obtain ⟨H,C,rfl,T⟩:=q
  have hH:H.length ≤ 6:=Nat.le_trans (g6 _ _ T.nH T.lH) hS.n
  have x0:cQ (.tup [.tup (lD H),.tup (lD C)]) (.int 0) = some (.tup (lD H)):=rfl
  have x1:cQ (.tup [.tup (lD H),.tup (lD C)]) (.int 1) = some (.tup (lD C)):=rfl
  have si:aF (.tup (lD C)) = some (a_ (lD C)):=rfl
  have sj:aF (.tup (lD H)) = some (a_ (H.map fun (i:Nat) => D.int (i:Int))):=rfl
  have wl:=rH (hs:=hs) (M:=M) (H:=H) (C:=C)
  generalize bB (M:Int) hs = lay at *
  generalize D.tup [.tup (lD H),.tup (lD C)] = t at *
  refine bP false ?_ (fun h => by cases h) (fun _ => ?_)
  ·simp [aG,el,cm]
  rw [cN]
  refine gW (lD C) (fun k δ => ∃ a2:Jt.Slot,δ = [.pu lay,.pu t,a2] ∧ ∀ c ∈ C.take k,df (G hs) H (c:Int) = true) ?_ ⟨_,rfl,by simp⟩ ?_ ?_
  ·simp [x1,si]
  ·rintro k hk _ ⟨a2,rfl,hz⟩
   have hk2:k < C.length:=by simpa [lD] using hk
   have itm:(lD C)[k] = .int ((C[k]:Nat):Int):=by simp [lD]
   rw [itm]
   have tk1:C.take (k + 1) = C.take k ++ [C[k]]:=List.take_succ_eq_append_getElem hk2
   have mem:C[k] ∈ C:=List.getElem_mem hk2
   generalize C[k] = c at *
   simp only [bA,List.length_cons,List.length_nil,List.set_cons_succ,List.set_cons_zero]
   refine ⟨by omega,?_⟩
   refine i5 (fun b δ => b = (!df (G hs) H (c:Int)) ∧ δ = [.pu lay,.pu t,.pu (.int (c:Int))]) ?_ ?_ ?_
   ·simp only [ax,dX,fH,bQ,au]
    refine aX H (fun (i:Nat) => .int (i:Int)) (fun i => if decide ((c:Int) ∈ G hs i) = true then some (.int (i:Int)) else none) rfl ?_ (by omega) (fun i hi => ?_) ?_
    ·generalize D.tup (lD H) = p at *
     simp [x0,sj]
    ·have g:=iz (T.lH i hi)
     have d:=eK false (c:Int) (G hs i)
     generalize D.tup (hs.map hD) = hd at *
     generalize hD (G hs i) = gi at *
     by_cases z:(c:Int) ∈ G hs i
     ·rw [decide_eq_true z] at d; simp [e1,g,d,z]
     ·rw [decide_eq_false z] at d; simp [e1,g,d,z]
    ·rw [aO]
     have l:br [.lst ((H.filter fun i => decide ((c:Int) ∈ G hs i)).map fun (i:Nat) => D.int (i:Int))] = some (.int ((H.filter fun i => decide ((c:Int) ∈ G hs i)).length:Int)):=by simp [br]
     have e2:dg true (.int ((H.filter fun i => decide ((c:Int) ∈ G hs i)).length:Int)) (.int 2) = some (.bl (!df (G hs) H (c:Int))):= by
      rw [bO]
      unfold df
      have:decide (((H.filter fun i => decide ((c:Int) ∈ G hs i)).length:Int) = 2) = ((H.filter fun i => decide ((c:Int) ∈ G hs i)).length == 2):= by
       rw [Bool.eq_iff_iff,decide_eq_true_eq,beq_iff_eq]
       omega
      rw [this]
      rfl
     generalize D.lst ((H.filter fun i => decide ((c:Int) ∈ G hs i)).map fun (i:Nat) => D.int (i:Int)) = zs at *
     generalize ((H.filter fun i => decide ((c:Int) ∈ G hs i)).length:Int) = zl at *
     simp [l,e2]
   ·rintro _ ⟨hb,rfl⟩
    rw [f6 fun z => by rw [(wl.mp z).2 c mem] at hb; cases hb]
    simp
   ·rintro _ ⟨hb,rfl⟩
    refine au.mpr ⟨_,rfl,fun i hi => ?_⟩
    rw [tk1] at hi
    rcases List.mem_append.mp hi with hi | hi
    ·exact hz i hi
    ·rw [List.mem_singleton.mp hi]
     cases z:df (G hs) H (c:Int) with
     | true => rfl
     | false => rw [z] at hb; cases hb
  ·rintro _ ⟨a2,rfl,hz⟩
   have:(lD C).length = C.length:=by simp [lD]
   rw [this,List.take_length] at hz
   rw [lR (wl.mpr ⟨T,hz⟩)]
   simp
 ·rw [bU q] at el
  rw [f6 fun z => q z.turn]
  generalize bB (M:Int) hs = lay at *
  refine bP true ?_ (fun _ => by simp) (fun h => by cases h)
  simp [aG,el,cm]
theorem Hq (hf:kD M hs) {H:List Nat} {C:List Int} (W:WL (G hs) hs.length H C):∃ C':List Nat,C = C'.map (fun (i:Nat) => (i:Int)) ∧ Wr hs M (.tup [.tup (lD H),.tup (lD C')]):= by
 have pos:∀ c ∈ C,0 ≤ c ∧ c < (M:Int):=fun c hc => by
  obtain ⟨k,hk⟩:=List.mem_iff_getElem?.mp hc
  have hkl:k < C.length:=(List.getElem?_eq_some_iff.mp hk).1
  have hk2:k < H.length:=by rw [<- W.l]; exact hkl
  have a:=W.a k hk2
  have e:C.getD k 0 = c:=by rw [List.getD_eq_getElem?_getD,hk]; rfl
  have hi:=W.lt _ (bR hk2)
  have:G hs (H.getD k 0) = hs[H.getD k 0]:=c7 hi
  rw [this,e] at a
  exact (hf _ (List.getElem_mem hi)).2 c a
 have eC:(C.map Int.toNat).map (fun (i:Nat) => (i:Int)) = C:= by
  rw [List.map_map]
  conv => rhs; rw [<- List.map_id C]
  refine List.map_congr_left fun i hi => ?_
  have:=(pos i hi).1
  show ((i.toNat:Nat):Int) = i
  omega
 have get:∀ k,(((C.map Int.toNat).getD k 0:Nat):Int) = C.getD k 0:=fun k => by
  conv => rhs; rw [<- eC]
  simp only [List.getD_eq_getElem?_getD,List.getElem?_map]
  cases C[k]? <;> simp
 have n3:=W.n3
 have ndC:(C.map Int.toNat).Nodup:= by
  rw [<- jI,eC]
  rw [List.nodup_iff_pairwise_ne,List.pairwise_iff_getElem]
  intro i j hi hj hij e
  have hi2:i < H.length:=by rw [<- W.l]; exact hi
  have hj2:j < H.length:=by rw [<- W.l]; exact hj
  have ei:C.getD i 0 = C[i]:=by simp [hi]
  have ej:C.getD j 0 = C[j]:=by simp [hj]
  have ai:=W.a i hi2
  have bi:=W.b i hi2
  have aj:=W.a j hj2
  have bj:=W.b j hj2
  have oi:=W.o i hi2
  rw [ej,<- e,<- ei] at aj bj
  have hni:=dh hi2
  have hnj:=dh hj2
  have ne:H.getD i 0 ≠ H.getD (cB H.length i) 0:=fun z => by
   have:=dI W.nd hi2 hni z
   unfold cB at this
   split at this <;> omega
  have r1:=j8 W.nd oi (bR hi2) (bR hni) (bR hj2) ne ai bi aj
  have r2:=j8 W.nd oi (bR hi2) (bR hni) (bR hnj) ne ai bi bj
  have r1':j = i ∨ j = cB H.length i:=r1.imp (dI W.nd hj2 hi2) (dI W.nd hj2 hni)
  have r2':cB H.length j = i ∨ cB H.length j = cB H.length i:=r2.imp (dI W.nd hnj hi2) (dI W.nd hnj hni)
  unfold cB at r1' r2'
  repeat' split at r1'
  all_goals (repeat' split at r2')
  all_goals omega
 refine ⟨C.map Int.toNat,eC.symm,rH.mpr ⟨⟨W.nd,ndC,W.lt,fun c hc => ?_,by rw [List.length_map]; exact W.l,W.n3,fun k hk => by rw [get k]; exact ⟨W.a k hk,W.b k hk⟩⟩,fun c hc => ?_⟩⟩
 ·obtain ⟨a,ha,rfl⟩:=List.mem_map.mp hc
  have:=pos a ha
  omega
 ·obtain ⟨k,hk⟩:=List.mem_iff_getElem?.mp hc
  have hkl:k < (C.map Int.toNat).length:=(List.getElem?_eq_some_iff.mp hk).1
  have hk2:k < H.length:=by rw [<- W.l]; simpa using hkl
  have o:=W.o k hk2
  rw [<- get k,List.getD_eq_getElem?_getD,hk] at o
  exact o
end K42
namespace K42
open PySem L2 Jt
variable {hs:List (List Int)} {M:Nat}
def Eo (d:D):Prop:=∃ a b:List D,d = .tup [.tup a,.tup b] ∧ 1 ≤ a.length ∧ a.length ≤ 6 ∧ b.length ≤ 6
theorem ke {s0 s1 s2 s3 s4 s6 s7 s8 s9 s10 s11:Jt.Slot} {ss h:List Int} {fb:Jt.M D} (h7:ss.length ≤ 7)
  (hb:∀ x:D,Ok fb [s0,s1,s2,s3,s4,.pu (.lst (ss.map .int)),s6,s7,s8,s9,s10,s11,.pu x] fun d δ' => d = hD h ∧ δ' = [s0,s1,s2,s3,s4,.pu (.lst (ss.map .int)),s6,s7,s8,s9,s10,s11,.pu x])
  {Q:List D -> DS -> Prop} (hQ:Q ((ss.filter fun c => decide (c ∈ h)).map .int) [s0,s1,s2,s3,s4,.pu (.lst (ss.map .int)),s6,s7,s8,s9,s10,s11]) :
  Ok (aU 12 1 (do let x <- (ag 5); lift (aF x)) (aZ (aY 12) (m2 (i7 false) (ag 12) fb >>= cx) (ag 12))) [s0,s1,s2,s3,s4,.pu (.lst (ss.map .int)),s6,s7,s8,s9,s10,s11] Q:= by
 refine aX ss .int (fun c => if decide (c ∈ h) = true then some (.int c) else none) rfl ?_ (by omega) (fun c hc => ?_) ?_
 ·have:aF (.lst (ss.map .int)) = some (a_ (ss.map .int)):=rfl
  generalize D.lst (ss.map .int) = sd at *
  simp [this]
 ·have hbc:=hb (.int c)
  generalize D.lst (ss.map .int) = sd at *
  simp only [cP,bA,List.replicate,List.cons_append,List.nil_append,List.length_cons,List.length_nil,List.set_cons_succ,List.set_cons_zero,ax,dX,bX]
  refine ⟨by omega,.int c,rfl,hbc.mono fun d δ' hq => ?_⟩
  obtain ⟨rfl,rfl⟩:=hq
  by_cases q:c ∈ h <;> simp [eK,q]
 ·rw [aO]; exact hQ
theorem sub_len (ss h:List Int):(ss.filter fun c => decide (c ∈ h)).length ≤ ss.length:=List.length_filter_le _ _
theorem yq {H:List Nat} (hne:H ≠ []):cQ (.lst (lD H)) (.int (-1)) = some (.int ((H.getLast hne:Nat):Int)):=u0 hne
theorem EJ {H:List Nat} {k:Nat} (h:k < H.length):cQ (.lst (lD H)) (.int (k:Int)) = some (.int ((H.getD k 0:Nat):Int)):=uI h
theorem jJ (hS:Sm hs) (h1:1 ≤ hs.length) (n0:Int):∃ d xs',bz lh wY [.int n0] [bB M hs] = some (d,xs') ∧ Eo d ∧ ∃ n:Int,xs' = [.int n]:= by
 apply eP
 show Ok wY [.ow true [.int n0],.pu (bB M hs),.un,.un,.un,.un,.un,.un,.un,.un,.un,.un] _
 unfold wY
 have e1:=de (M:Int) hs
 have e2:=jq hs
 have h6:=hS.n
 generalize bB (M:Int) hs = lay at *
 have et:=aK n0 (hs.length:Int) (by omega) (by omega)
 have nn:h9 (.int 1) = some (.int (-1)):=by simp [h9]
 refine aR (fun δ => ∃ (n:Int) (i:Nat),i < hs.length ∧ δ = [.ow true [.int n],.pu lay,.ow false (lD [i]),.un,.un,.un,.un,.un,.un,.un,.un,.un]) ?_ ?_
 ·have hi:(n0 % (hs.length:Int)).toNat < hs.length ∧ (((n0 % (hs.length:Int)).toNat:Nat):Int) = n0 % (hs.length:Int):= by
   have a:=Int.emod_nonneg n0 (b:=(hs.length:Int)) (by omega)
   have b:=Int.emod_lt_of_pos n0 (b:=(hs.length:Int)) (by omega)
   omega
  have lx:lD [(n0 % (hs.length:Int)).toNat] = [.int (n0 % (hs.length:Int))]:= by
   show [D.int _] = _
   rw [hi.2]
  generalize (n0 % (hs.length:Int)).toNat = i at *
  generalize n0 % (hs.length:Int) = z at *
  generalize n0 / (hs.length:Int) = z2 at *
  simp [-Prod.exists,e1,e2,et]
  exact ⟨z2,i,hi.1,rfl,lx.symm⟩
 rintro _ ⟨n,i0,hi0,rfl⟩
 refine aR (fun δ => δ = [.ow true [.int n],.pu lay,.ow false (lD [i0]),.ow false [],.un,.un,.un,.un,.un,.un,.un,.un]) (by simp) ?_
 rintro _ rfl
 rw [cN]
 have fin:∀ (n:Int) (H:List Nat) (cs:List D) (a4 a5 a6 a7 a8 a9 a10 a11:Jt.Slot),1 ≤ H.length -> H.length ≤ 6 -> cs.length ≤ 6 ->
   Ok (do let d <- (cj (ae (do let xs <- aI 2; pure (D.tup xs)) (ae (do let xs <- aI 3; pure (D.tup xs)) (pure [])))); pure (Fl.rt d)) [.ow true [.int n],.pu lay,.ow false (lD H),.ow false cs,a4,a5,a6,a7,a8,a9,a10,a11] fun fl δ => ∃ d,fl = .rt d ∧ δ[0]? = some (.ow true [.int n]) ∧ Eo d:= by
  intro n H cs a4 a5 a6 a7 a8 a9 a10 a11 q1 q2 q3
  simp
  exact ⟨lD H,cs,rfl,by rw [dv]; exact q1,by rw [dv]; exact q2,q3⟩
 have s5:bt 5 = true:=by decide
 refine gW (bL 0 5) (fun k δ => ∃ (n:Int) (H:List Nat) (cs:List Int) (a4 a5 a6 a7 a8 a9 a10 a11:Jt.Slot),δ = [.ow true [.int n],.pu lay,.ow false (lD H),.ow false (cs.map .int),a4,a5,a6,a7,a8,a9,a10,a11] ∧ H.length = k + 1 ∧ cs.length = k ∧ ∀ i ∈ H,i < hs.length) ?_ ⟨n,[i0],[],_,_,_,_,_,_,_,_,rfl,rfl,rfl,fun i hi => by rw [List.mem_singleton.mp hi]; exact hi0⟩ ?_ ?_
 ·simp [cZ,s5]
 ·rintro k hk _ ⟨n,H,cs,a4,a5,a6,a7,a8,a9,a10,a11,rfl,hH,hc,lt⟩
  have hk5:k < 5:=by simpa [bL] using hk
  generalize (bL 0 5)[k] = turn
  have hne:H ≠ []:=fun z => by rw [z] at hH; simp at hH
  rw [bA]
  refine ⟨by simp,?_⟩
  simp only [List.set_cons_succ,List.set_cons_zero]
  have xl:=yq hne
  have gl:=lt _ (List.getLast_mem hne)
  have yl:=iz gl
  have x0:=EJ (H:=H) (k:=0) (by omega)
  have g0:=lt _ (bR (H:=H) (i:=0) (by omega))
  have y0:=iz g0
  have h7:∀ i,i < hs.length -> (G hs i).length ≤ 7:=fun i hi => by
   have:G hs i = hs[i]:=by simp [G,hi]
   rw [this]; exact hS.h _ (List.getElem_mem hi)
  refine aR (fun δ => ∃ ss:List Int,ss.length ≤ 7 ∧ δ = [.ow true [.int n],.pu lay,.ow false (lD H),.ow false (cs.map .int),.pu turn,.pu (.lst (ss.map .int)),a6,a7,a8,a9,a10,a11]) ?_ ?_
  ·simp only [dW,ax,au]
   refine aX (G hs (H.getLast hne)) .int (fun c => if (!decide (c ∈ cs)) = true then some (.int c) else none) rfl ?_ (by have:=h7 _ gl; omega) (fun c hc => ?_) ?_
   ·generalize H.getLast hne = hl at *
    generalize lD H = Hl at *
    have:aF (hD (G hs hl)) = some (a_ ((G hs hl).map .int)):=rfl
    generalize hD (G hs hl) = gd at *
    simp [e1,nn,xl,yl,this]
   ·have d1:DV true (.int c) (.lst (cs.map .int)) = some (.bl (!decide (c ∈ cs))):=eK true c cs
    by_cases q:c ∈ cs
    ·rw [decide_eq_true q] at d1
     simp [d1,q]
    ·rw [decide_eq_false q] at d1
     simp [d1,q]
   ·rw [aO]
    have l:=List.length_filter_le (fun c => !decide (c ∈ cs)) (G hs (H.getLast hne))
    have:=h7 _ gl
    refine ⟨by simp,trivial,(G hs (H.getLast hne)).filter fun c => !decide (c ∈ cs),by omega,rfl⟩
  rintro _ ⟨ss,hs7,rfl⟩
  refine aR (fun δ => δ = [.ow true [.int n],.pu lay,.ow false (lD H),.ow false (cs.map .int),.pu turn,.pu (.lst (ss.map .int)),.ow false [],a7,a8,a9,a10,a11]) (by simp) ?_
  rintro _ rfl
  rw [cN]
  have en:ka [.tup (hs.map hD)] = some (a_ ((List.range hs.length).map fun (i:Nat) => .tup [.int ((0 + i:Nat):Int),hD (G hs i)])):= by
   show some (a_ (k_ 0 (hs.map hD))) = _
   rw [mM]
  refine gW ((List.range hs.length).map fun (i:Nat) => .tup [.int ((0 + i:Nat):Int),hD (G hs i)]) (fun j δ => ∃ (fr:List Nat) (b7 b8:Jt.Slot),δ = [.ow true [.int n],.pu lay,.ow false (lD H),.ow false (cs.map .int),.pu turn,.pu (.lst (ss.map .int)),.ow false (lD fr),b7,b8,a9,a10,a11] ∧ fr.length ≤ j ∧ ∀ i ∈ fr,i < hs.length ∧ (ss.filter fun c => decide (c ∈ G hs i)) ≠ []) ?_ ⟨[],_,_,rfl,by simp,by simp⟩ ?_ ?_
  ·simp [e1,en]
  ·rintro j hj _ ⟨fr,b7,b8,rfl,hfl,hfr⟩
   have hj2:j < hs.length:=by simpa using hj
   rw [List.getElem_map,List.getElem_range,Nat.zero_add]
   simp only [pD,List.length_cons,List.length_nil,kC,mH,bA,List.set_cons_succ,List.set_cons_zero]
   simp only [Nat.reduceAdd,Nat.reduceLT,if_true,true_and]
   have d1:DV true (.int (j:Int)) (.lst (lD H)) = some (.bl (!decide (j ∈ H))):=lA true j H
   have dn:=cG true ((ss.filter fun c => decide (c ∈ G hs j)).map D.int)
   refine i5 (fun b δ => (b = true -> (ss.filter fun c => decide (c ∈ G hs j)) ≠ []) ∧ δ = [.ow true [.int n],.pu lay,.ow false (lD H),.ow false (cs.map .int),.pu turn,.pu (.lst (ss.map .int)),.ow false (lD fr),.pu (.int (j:Int)),.pu (hD (G hs j)),a9,a10,a11]) ?_ ?_ ?_
   ·simp only [jL,ax,yy,bX,au,vn,yM,yH]
    refine ⟨_,rfl,false,lD H,rfl,false,lD H,rfl,?_⟩
    rw [d1]
    simp only [b9,eT]
    refine ⟨_,rfl,?_⟩
    by_cases q:j ∈ H
    ·simp [q]
    ·rw [decide_eq_false q]
     simp only [Bool.not_false,if_true,dX,ax,au]
     refine ke (h:=G hs j) hs7 (fun x => by simp) ?_
     generalize hD (G hs j) = gd at *
     cases qz:ss.filter fun c => decide (c ∈ G hs j) with
     | nil => rw [qz] at dn; simp at dn; simp [dn]
     | cons x r =>
      rw [qz] at dn
      generalize List.map D.int (x :: r) = zz at *
      simp [dn]
      exact Classical.em _
   ·rintro _ ⟨hb,rfl⟩
    refine d5 ⟨_,_,rfl⟩ ?_
    simp only [bQ,bX,au]
    refine ⟨_,rfl,_,_,_,rfl,rfl,by rw [dv]; omega,fr ++ [j],.pu (.int (j:Int)),.pu (hD (G hs j)),?_,by simp; omega,fun i hi => ?_⟩
    ·simp [lD]
    ·rcases List.mem_append.mp hi with hi | hi
     ·exact hfr i hi
     ·rw [List.mem_singleton.mp hi]; exact ⟨hj2,hb rfl⟩
   ·rintro _ ⟨hb,rfl⟩
    exact au.mpr ⟨fr,_,_,rfl,by omega,hfr⟩
  rintro _ ⟨fr,b7,b8,rfl,hfl,hfr⟩
  have hfl:fr.length ≤ 6:=by simp at hfl; omega
  refine aR (fun δ => ∃ es:List Int,es.length ≤ 7 ∧ δ = [.ow true [.int n],.pu lay,.ow false (lD H),.ow false (cs.map .int),.pu turn,.pu (.lst (ss.map .int)),.ow false (lD fr),b7,b8,.pu (.lst (es.map .int)),a10,a11]) ?_ ?_
  ·simp only [dW,ax,au]
   refine ke (h:=G hs (H.getD 0 0)) hs7 (fun x => ?_) ?_
   ·generalize hD (G hs (H.getD 0 0)) = gd at *
    generalize ((H.getD 0 0:Nat):Int) = h0 at *
    have x0:cQ (.lst (lD H)) (.int 0) = some (.int h0):=x0
    generalize lD H = Hl at *
    generalize D.tup (hs.map hD) = hd at *
    simp [e1,x0,y0]
   ·exact ⟨by simp,trivial,_,Nat.le_trans (sub_len _ _) hs7,rfl⟩
  rintro _ ⟨es,he7,rfl⟩
  rw [cN]
  refine i5 (fun b δ => ∃ n:Int,(b = true -> es ≠ []) ∧ δ = [.ow true [.int n],.pu lay,.ow false (lD H),.ow false (cs.map .int),.pu turn,.pu (.lst (ss.map .int)),.ow false (lD fr),b7,b8,.pu (.lst (es.map .int)),a10,a11]) ?_ ?_ ?_
  ·have t3:=aK n 3 (by omega) (by omega)
   have dn:=cG true (es.map D.int)
   have gn:=jU false (lD fr)
   have ge:∀ z:Int,∃ b,vA (.int z) (.int 1) = some (.bl b):=fun z => ⟨_,rfl⟩
   obtain ⟨b1,hb1⟩:=ge ((lD H).length:Int)
   cases b1 with
   | false => simp [hb1]
   | true =>
    cases qe:es with
    | nil => rw [qe] at dn; simp at dn; simp [hb1,dn]
    | cons x r =>
     have hne2:(List.map D.int es).isEmpty = false:=by rw [qe]; rfl
     rw [<- qe]
     rw [hne2] at dn
     have hnes:es ≠ []:=by rw [qe]; simp
     generalize D.lst (es.map .int) = ed at *
     generalize hq:(lD fr).isEmpty = qf at *
     cases qf with
     | true =>
      simp [-Prod.exists,hb1,dn,gn]
      exact hnes
     | false =>
      simp [-Prod.exists,hb1,dn,gn,t3,bO]
      by_cases q:n % 3 = 0 <;> simp [q,hnes]
  ·rintro _ ⟨n,hb,rfl⟩
   have hes:=hb rfl
   have hp:0 < es.length:=List.length_pos_iff.mpr hes
   have te:=aK n (es.length:Int) (by omega) (by omega)
   obtain ⟨d,hd,ed⟩:=jG (es.map D.int) n (by simpa using hp)
   rw [List.length_map] at ed
   have le:br [.lst (es.map .int)] = some (.int (es.length:Int)):=by simp [br]
   have c2:∀ d,cC (.tup (cs.map .int)) (.tup [d]) = some (.tup (cs.map .int ++ [d])):=fun d => if_pos (by simp; omega)
   generalize D.lst (es.map .int) = edl at *
   simp [-Prod.exists,le,te]
   refine iZ ed ?_
   simp [c2]
   refine ⟨_,_,rfl,by rw [dv]; omega,by rw [dv]; omega,?_⟩
   simp; omega
  ·rintro _ ⟨n,hb,rfl⟩
   show Ok _ _ _
   refine au.mpr ?_
   show Ok _ _ _
   have gn:=jU false (lD fr)
   refine bP ((lD fr).isEmpty) ?_ (fun q => ?_) (fun q => ?_)
   ·generalize (lD fr).isEmpty = qf at *
    simp [gn]
   ·refine (fin n H (cs.map .int) _ _ _ _ _ _ _ _ (by omega) (by omega) (by simp; omega)).mono fun fl δ hq => ?_
    obtain ⟨d,rfl,h0,hp⟩:=hq
    exact ⟨d,rfl,d,_,rfl,h0,hp,n,rfl⟩
   have hfp:0 < fr.length:= by
    cases fr with
    | nil => cases q
    | cons x r => simp
   have tf:=aK n (fr.length:Int) (by omega) (by omega)
   refine aR (fun δ => ∃ (n:Int) (i:Nat),i ∈ fr ∧ δ = [.ow true [.int n],.pu lay,.ow false (lD H),.ow false (cs.map .int),.pu turn,.pu (.lst (ss.map .int)),.ow false (lD fr),b7,b8,.pu (.lst (es.map .int)),.pu (.int (i:Int)),a11]) ?_ ?_
   ·obtain ⟨d,hd,ed⟩:=jG (lD fr) n (by rw [dv]; exact hfp)
    rw [dv] at ed
    obtain ⟨i,hi,rfl⟩:=List.mem_map.mp hd
    simp [-Prod.exists,dv,tf]
    exact iZ ed ⟨by simp,_,i,hi,rfl⟩
   rintro _ ⟨n,i,hi,rfl⟩
   obtain ⟨hil,hin⟩:=hfr i hi
   have yi:=iz hil
   refine aR (fun δ => δ = [.ow true [.int n],.pu lay,.ow false (lD H),.ow false (cs.map .int),.pu turn,.pu (.lst (ss.map .int)),.ow false (lD fr),b7,b8,.pu (.lst (es.map .int)),.pu (.int (i:Int)),.pu (.lst ((ss.filter fun c => decide (c ∈ G hs i)).map .int))]) ?_ ?_
   ·simp only [dW,ax,au]
    refine ke (h:=G hs i) hs7 (fun x => ?_) ?_
    ·generalize hD (G hs i) = gd at *
     generalize D.tup (hs.map hD) = hd at *
     simp [e1,yi]
    ·simp
   rintro _ rfl
   have hl7:=sub_len ss (G hs i)
   generalize ss.filter (fun c => decide (c ∈ G hs i)) = sh at *
   have hp:0 < sh.length:=List.length_pos_iff.mpr hin
   have te:=aK n (sh.length:Int) (by omega) (by omega)
   obtain ⟨d,hd,ed⟩:=jG (sh.map D.int) n (by simpa using hp)
   rw [List.length_map] at ed
   obtain ⟨c,hc2,rfl⟩:=List.mem_map.mp hd
   have le:br [.lst (sh.map .int)] = some (.int (sh.length:Int)):=by simp [br]
   refine aR (fun δ => ∃ n:Int,δ = [.ow true [.int n],.pu lay,.ow false (lD H),.ow false ((cs ++ [c]).map .int),.pu turn,.pu (.lst (ss.map .int)),.ow false (lD fr),b7,b8,.pu (.lst (es.map .int)),.pu (.int (i:Int)),.pu (.lst (sh.map .int))]) ?_ ?_
   ·refine d5 ⟨_,_,rfl⟩ ?_
    generalize D.lst (sh.map .int) = sd at *
    simp [-Prod.exists,le,te]
    exact iZ ed (.inl ⟨_,rfl,by simp; omega,_,rfl⟩)
   rintro _ ⟨n,rfl⟩
   refine d5 ⟨_,_,rfl⟩ ?_
   simp only [bQ,bX,au]
   refine ⟨_,rfl,_,_,_,rfl,rfl,by rw [dv]; omega,n,H ++ [i],cs ++ [c],.pu turn,.pu (.lst (ss.map .int)),.ow false (lD fr),b7,b8,.pu (.lst (es.map .int)),.pu (.int (i:Int)),.pu (.lst (sh.map .int)),?_,by simp; omega,by simp; omega,fun j hj => ?_⟩
   ·simp [lD]
   ·rcases List.mem_append.mp hj with hj | hj
    ·exact lt j hj
    ·rw [List.mem_singleton.mp hj]; exact hil
 ·rintro _ ⟨n,H,cs,a4,a5,a6,a7,a8,a9,a10,a11,rfl,hH,hc,lt⟩
  have:(bL 0 5).length = 5:=by simp [bL]
  rw [this] at hH hc
  refine (fin n H (cs.map .int) _ _ _ _ _ _ _ _ (by omega) (by omega) (by simp; omega)).mono fun fl δ hq => ?_
  obtain ⟨d,rfl,h0,hp⟩:=hq
  exact ⟨d,_,rfl,h0,hp,n,rfl⟩
end K42
namespace K42
open PySem L2 Jt
variable {hs:List (List Int)} {M:Nat}
theorem xW {x:D} (h:∀ ys,x ≠ .tup ys):Short x:=fun ys e => absurd e (h ys)
theorem gy {a b:List D} (ha:a.length ≤ 60) (hb:b.length ≤ 60):nG (.tup [.tup a,.tup b]):=fun p c e => by
 simp only [D.tup.injEq,List.cons.injEq,and_true] at e
 obtain ⟨rfl,rfl⟩:=e
 exact ⟨iV ha,iV hb⟩
theorem sD {p c:D} (hp:Short p) (hc:Short c):nG (.tup [p,c]):=fun p c e => by
 simp only [D.tup.injEq,List.cons.injEq,and_true] at e
 obtain ⟨rfl,rfl⟩:=e
 exact ⟨hp,hc⟩
theorem D8 {l:List D} {n:Int} {N:Nat} (hl:l.length = N) (hN:0 < N):∃ d ∈ l,cQ (.lst l) (.int (n % (N:Int))) = some d:= by
 subst hl
 exact jG l n hN
theorem mW (h1:1 ≤ hs.length) (h6:hs.length ≤ 6) (hM1:1 ≤ M) (hM7:M ≤ 7) {t:D} (ht:Eo t) (n0:Int):∃ d xs',bz rq o4 [.int n0] [bB M hs,t] = some (d,xs') ∧ nG d ∧ ∃ n:Int,xs' = [.int n]:= by
 obtain ⟨a,b,rfl,ha1,ha6,hb6⟩:=ht
 apply eP
 show Ok o4 [.ow true [.int n0],.pu (bB M hs),.pu (.tup [.tup a,.tup b]),.un,.un,.un,.un,.un,.un,.un] _
 unfold o4
 have e1:=de (M:Int) hs
 have e0:=g_ (M:Int) hs
 have e2:=jq hs
 generalize bB (M:Int) hs = lay at *
 generalize ht:D.tup [.tup a,.tup b] = t at *
 refine aR (fun δ => δ = [.ow true [.int n0],.pu lay,.pu t,.pu (.tup a),.pu (.tup b),.un,.un,.un,.un,.un]) (by rw [<- ht]; simp) ?_
 rintro _ rfl
 obtain ⟨o,xs',eo,⟨so,to⟩,n,rfl⟩:=oO n0
 refine aR (fun δ => δ = [.ow true [.int n],.pu lay,.pu t,.pu (.tup a),.pu (.tup b),.pu o,.un,.un,.un,.un]) (by simp [-Prod.exists,eo]) ?_
 rintro _ rfl
 have la:br [.tup a] = some (.int (a.length:Int)):=rfl
 have t1:=aK n (a.length:Int) (by omega) (by omega)
 refine aR (fun δ => ∃ n k:Int,δ = [.ow true [.int n],.pu lay,.pu t,.pu (.tup a),.pu (.tup b),.pu o,.pu (.int k),.un,.un,.un]) (by simp [-Prod.exists,la,t1]) ?_
 rintro _ ⟨n,k,rfl⟩
 have t2:=aK n (hs.length:Int) (by omega) (by omega)
 refine aR (fun δ => ∃ n i:Int,δ = [.ow true [.int n],.pu lay,.pu t,.pu (.tup a),.pu (.tup b),.pu o,.pu (.int k),.pu (.int i),.un,.un]) (by simp [-Prod.exists,e1,e2,t2]) ?_
 rintro _ ⟨n,i,rfl⟩
 have t3:=aK n (M:Int) (by omega) (by omega)
 refine aR (fun δ => ∃ n j:Int,δ = [.ow true [.int n],.pu lay,.pu t,.pu (.tup a),.pu (.tup b),.pu o,.pu (.int k),.pu (.int i),.pu (.int j),.un]) (by simp [-Prod.exists,e0,t3]) ?_
 rintro _ ⟨n,j,rfl⟩
 have sl:∀ (x:List D) lo hi,FY (.tup x) lo hi = some (.tup (cutD x lo hi)):=fun _ _ _ => rfl
 have ca:∀ lo hi,(cutD a lo hi).length ≤ 6:=fun lo hi => Nat.le_trans (uR a lo hi) ha6
 have cb:∀ lo hi,(cutD b lo hi).length ≤ 6:=fun lo hi => Nat.le_trans (uR b lo hi) hb6
 have k1:∀ lo hi lo' hi',cC (.tup (cutD a lo hi)) (.tup (cutD a lo' hi')) = some (.tup (cutD a lo hi ++ cutD a lo' hi')):=fun lo hi lo' hi' => rL _ _ (by have:=ca lo hi; omega) (by have:=ca lo' hi'; omega)
 have k2:∀ lo hi lo' hi',cC (.tup (cutD b lo hi)) (.tup (cutD b lo' hi')) = some (.tup (cutD b lo hi ++ cutD b lo' hi')):=fun lo hi lo' hi' => rL _ _ (by have:=cb lo hi; omega) (by have:=cb lo' hi'; omega)
 have k3:∀ lo hi x,cC (.tup (cutD a lo hi)) (.tup [x]) = some (.tup (cutD a lo hi ++ [x])):=fun lo hi x => rL _ _ (by have:=ca lo hi; omega) (by simp)
 have k4:∀ lo hi x,cC (.tup (cutD b lo hi)) (.tup [x]) = some (.tup (cutD b lo hi ++ [x])):=fun lo hi x => rL _ _ (by have:=cb lo hi; omega) (by simp)
 have k5:∀ lo hi x lo' hi',cC (.tup (cutD a lo hi ++ [x])) (.tup (cutD a lo' hi')) = some (.tup (cutD a lo hi ++ [x] ++ cutD a lo' hi')):=fun lo hi x lo' hi' => rL _ _ (by have:=ca lo hi; simp; omega) (by have:=ca lo' hi'; omega)
 have k6:∀ lo hi x lo' hi',cC (.tup (cutD b lo hi ++ [x])) (.tup (cutD b lo' hi')) = some (.tup (cutD b lo hi ++ [x] ++ cutD b lo' hi')):=fun lo hi x lo' hi' => rL _ _ (by have:=cb lo hi; simp; omega) (by have:=cb lo' hi'; omega)
 have k7:∀ lo hi,cC (.tup a) (.tup (cutD a lo hi)) = some (.tup (a ++ cutD a lo hi)):=fun lo hi => rL _ _ (by omega) (by have:=ca lo hi; omega)
 have k8:∀ lo hi,cC (.tup b) (.tup (cutD b lo hi)) = some (.tup (b ++ cutD b lo hi)):=fun lo hi => rL _ _ (by omega) (by have:=cb lo hi; omega)
 have r1:zq (.tup a) = some (.tup a.reverse):=rfl
 have r2:zq (.tup b) = some (.tup b.reverse):=rfl
 have ls:dList [.tup a] = some a:=rfl
 have ad:dk (.int k) (.int 1) = some (.int (k + 1)):=rfl
 have sa:Short (.tup a):=iV (by omega)
 have sb:Short (.tup b):=iV (by omega)
 refine aR (fun δ => ∃ l:List D,δ = [.ow true [.int n],.pu lay,.pu t,.pu (.tup a),.pu (.tup b),.pu o,.pu (.int k),.pu (.int i),.pu (.int j),.ow false l] ∧ l.length = 3 ∧ ∀ d ∈ l,nG d) ?_ ?_
 ·simp [sl,k1,k2,r1,r2]
  refine ⟨gy ?_ ?_,gy (by simp; omega) (by simp; omega),gy (by omega) (by omega)⟩
  ·have:=ca (some 1) none; have:=ca none (some 1); simp only [List.length_append]; omega
  ·have:=cb (some 1) none; have:=cb none (some 1); simp only [List.length_append]; omega
 rintro _ ⟨l,rfl,hl,hd⟩
 have app:∀ {N:Nat} {l:List D} {fs:Jt.M (List D)} (d:D),l.length = N -> N ≤ 50 -> (∀ d ∈ l,nG d) -> nG d -> Ok fs [.ow true [.int n],.pu lay,.pu t,.pu (.tup a),.pu (.tup b),.pu o,.pu (.int k),.pu (.int i),.pu (.int j),.ow false l] (fun ds δ1 => ds = [d] ∧ δ1 = [.ow true [.int n],.pu lay,.pu t,.pu (.tup a),.pu (.tup b),.pu o,.pu (.int k),.pu (.int i),.pu (.int j),.ow false l]) ->
   Ok (c8 9 fs) [.ow true [.int n],.pu lay,.pu t,.pu (.tup a),.pu (.tup b),.pu o,.pu (.int k),.pu (.int i),.pu (.int j),.ow false l] fun fl δ => fl = .nx ∧ ∃ l:List D,δ = [.ow true [.int n],.pu lay,.pu t,.pu (.tup a),.pu (.tup b),.pu o,.pu (.int k),.pu (.int i),.pu (.int j),.ow false l] ∧ l.length = N + 1 ∧ ∀ d ∈ l,nG d:= by
  intro N l fs d hl hN hd h2 hfs
  refine d5 ⟨_,_,rfl⟩ (hfs.mono fun ds δ1 hq => ?_)
  obtain ⟨rfl,rfl⟩:=hq
  refine ⟨d,_,_,rfl,rfl,by omega,rfl,l ++ [d],rfl,by simp [hl],fun e he => ?_⟩
  rcases List.mem_append.mp he with he | he
  ·exact hd e he
  ·rw [List.mem_singleton.mp he]; exact h2
 have la6:=ca none (some k)
 have la7:=ca (some (k + 1)) none
 have lb6:=cb none (some k)
 have lb7:=cb (some (k + 1)) none
 have la1:=ca none (some 1)
 have lb1:=cb none (some 1)
 refine aR _ (app (.tup [.tup (cutD a none (some k) ++ [.int i] ++ cutD a (some (k + 1)) none),.tup b]) hl (by omega) hd (gy (by simp only [List.length_append,List.length_singleton]; omega) (by omega)) (by simp [sl,k3,k5,ad])) ?_
 rintro _ ⟨l,rfl,hl,hd⟩
 refine aR _ (app (.tup [.tup a,.tup (cutD b none (some k) ++ [.int j] ++ cutD b (some (k + 1)) none)]) hl (by omega) hd (gy (by omega) (by simp only [List.length_append,List.length_singleton]; omega)) (by simp [sl,k4,k6,ad])) ?_
 rintro _ ⟨l,rfl,hl,hd⟩
 refine aR _ (app (.tup [.tup (cutD a none (some k) ++ cutD a (some (k + 1)) none),.tup (cutD b none (some k) ++ cutD b (some (k + 1)) none)]) hl (by omega) hd (gy (by simp only [List.length_append]; omega) (by simp only [List.length_append]; omega)) (by simp [sl,k1,k2,ad])) ?_
 rintro _ ⟨l,rfl,hl,hd⟩
 have gc:∀ x y:List D,x.length + y.length ≤ 100 -> kh (.lst x) (.lst y) = some (x ++ y):=fun x y h => by
  simp [kh,wO]
  omega
 refine aR (fun δ => ∃ l:List D,δ = [.ow true [.int n],.pu lay,.pu t,.pu (.tup a),.pu (.tup b),.pu o,.pu (.int k),.pu (.int i),.pu (.int j),.ow false l] ∧ l.length = 12 ∧ ∀ d ∈ l,nG d) ?_ ?_
 ·have g:=gc l [.tup [.lst a,.tup b],.lst [.tup a,.tup b],.tup [.tup a,o],o,.tup [.tup a,.tup b,.tup []],.tup [.tup a,.tup a]] (by simp [hl])
  have all:∀ d ∈ [D.tup [.lst a,.tup b],.lst [.tup a,.tup b],.tup [.tup a,o],o,.tup [.tup a,.tup b,.tup []],.tup [.tup a,.tup a]],nG d:= by
   intro d hd
   simp only [List.mem_cons,List.not_mem_nil,or_false] at hd
   rcases hd with rfl | rfl | rfl | rfl | rfl | rfl
   ·exact sD (xW fun _ z => nomatch z) sb
   ·exact fun p c z => nomatch z
   ·exact sD sa so
   ·exact to
   ·exact fun p c z => by simp at z
   ·exact sD sa sa
  have len:(l ++ [D.tup [.lst a,.tup b],.lst [.tup a,.tup b],.tup [.tup a,o],o,.tup [.tup a,.tup b,.tup []],.tup [.tup a,.tup a]]).length = 12:=by simp [hl]
  have all2:∀ d ∈ l ++ [D.tup [.lst a,.tup b],.lst [.tup a,.tup b],.tup [.tup a,o],o,.tup [.tup a,.tup b,.tup []],.tup [.tup a,.tup a]],nG d:=fun e he => by
   rcases List.mem_append.mp he with he | he
   ·exact hd e he
   ·exact all e he
  generalize l ++ [D.tup [.lst a,.tup b],.lst [.tup a,.tup b],.tup [.tup a,o],o,.tup [.tup a,.tup b,.tup []],.tup [.tup a,.tup a]] = l2 at *
  simp [ls,g]
  exact ⟨len,all2⟩
 rintro _ ⟨l,rfl,hl,hd⟩
 refine aR _ (app (.tup [.tup (a ++ cutD a none (some 1)),.tup (b ++ cutD b none (some 1))]) hl (by omega) hd (gy (by simp only [List.length_append]; omega) (by simp only [List.length_append]; omega)) (by simp [sl,k7,k8])) ?_
 rintro _ ⟨l,rfl,hl,hd⟩
 refine aR _ (app (.tup [.tup (cutD a none (some k) ++ [o] ++ cutD a (some (k + 1)) none),.tup b]) hl (by omega) hd (gy (by simp only [List.length_append,List.length_singleton]; omega) (by omega)) (by simp [sl,k3,k5,ad])) ?_
 rintro _ ⟨l,rfl,hl,hd⟩
 have t4:=aK n 14 (by omega) (by omega)
 obtain ⟨d,hdl,ed⟩:=D8 (n:=n) hl (by omega)
 have ed:cQ (.lst l) (.int (n % 14)) = some d:=ed
 simp [-Prod.exists,t4]
 refine iZ ed ?_
 exact ⟨_,rfl,hd d hdl,_,rfl⟩
end K42
namespace K42
open PySem L2 Jt
open Builtin.Int (intBits)
variable {hs:List (List Int)} {M:Nat}
inductive LS (z0:Jt.Slot):DS -> Prop
 | mk (a1 a2 a3 a4 a5 a6 a7 a8:Jt.Slot):LS z0 [z0,a1,a2,a3,a4,a5,a6,a7,a8]
theorem DJ (b:Bool):i_ true (.bl b) (.bl b) = some (.bl false):=by cases b <;> rfl
theorem rk {z0 z1 z2 z4 z5 z6 a7 a8:Jt.Slot} (S:Sm hs) (ts:List D) (hts:∀ t ∈ ts,nG t) {Q:Fl -> DS -> Prop} (hQ:∀ δ,LS z0 δ -> Q .nx δ) :
  Ok (forM (aY 7) (aJ (dY 8 (mC (aG 2 (bf l8 pg)) (ae (ag 3) (ae (ag 7) (pure [])))))
  (fT (oT (fQ (do let x <- (jl .bool (ag 8)); lift (cm x))) ((m2 (i_ true) (ag 8) (mC (aG 2 (bf rP tU)) (ae (ag 3) (ae (ag 7) (pure []))))) >>= cx)) (do let d <- (pure (.bl false)); pure (Fl.rt d)) (pure .nx))) (a_ ts).2 (a_ ts).1)
   [z0,z1,z2,.pu (bB M hs),z4,z5,z6,a7,a8] Q:= by
 refine uj ts (fun _ δ => ∃ a7 a8,δ = [z0,z1,z2,.pu (bB M hs),z4,z5,z6,a7,a8]) ⟨_,_,rfl⟩ ?_ ?_
 ·rintro i hi _ ⟨a7,a8,rfl⟩
  have tw:=hts _ (List.getElem_mem hi)
  have e1:=GV (M:=M) S tw
  have e2:=gU (M:=M) S tw
  have e3:=DJ (Ck hs M ts[i])
  generalize Ck hs M ts[i] = b at *
  generalize bB (M:Int) hs = lay at *
  rw [bA]
  refine ⟨by simp,?_⟩
  refine aR (fun δ => δ = [z0,z1,z2,.pu lay,z4,z5,z6,.pu ts[i],.pu (.bl b)]) (by simp [aG,e1]) ?_
  rintro _ rfl
  refine i5 (fun b' δ => b' = false ∧ δ = [z0,z1,z2,.pu lay,z4,z5,z6,.pu ts[i],.pu (.bl b)]) ?_ ?_ ?_
  ·rw [qj]
   simp [cM,pJ,cm,aG,e2,e3]
  ·rintro _ ⟨h,_⟩; cases h
  ·rintro _ ⟨_,rfl⟩
   exact au.mpr ⟨_,_,rfl⟩
 ·rintro _ ⟨a7,a8,rfl⟩
  exact hQ _ (.mk ..)
theorem wZ {d:D} (h:Eo d):nG d:= by
 obtain ⟨a,b,rfl,_,h2,h3⟩:=h
 exact gy (by omega) (by omega)
theorem yN:∀ ns:List Int,ns.length ≤ 63 -> (∀ i ∈ ns,intBits i ≤ 2 ^ 20) -> bf y4 uG [.lst (ns.map .int)] = some (.bl true):= by
 intro ns hns hbits
 apply cn
 show Ok uG [.pu (.lst (ns.map .int)),.un,.un,.un,.un,.un,.un,.un,.un] _
 unfold uG
 refine aR (LS (.pu (.lst (ns.map .int)))) ?_ ?_
 ·obtain ⟨N,hN,hN2⟩:∃ N:Nat,(if (if (5:Int) < ns.length then 5 else (ns.length:Int)) > 1 then (if (5:Int) < ns.length then 5 else (ns.length:Int)) else 1) = (N:Int) ∧ N ≤ 5:= by
   refine ⟨(if (if (5:Int) < ns.length then 5 else (ns.length:Int)) > 1 then (if (5:Int) < ns.length then 5 else (ns.length:Int)) else 1).toNat,?_,?_⟩ <;> split <;> split <;> omega
  have sN:bt N = true:=by simp [bt]; omega
  refine gW (bL 0 N) (fun _ δ => LS (.pu (.lst (ns.map .int))) δ) ?_ (.mk ..) ?_ ?_
  ·simp only [fH,bQ,bX,au,List.getElem?_cons_zero,Option.some.injEq,Jt.Slot.pu.injEq,exists_eq_left',br,b9,nj,qF,List.length_map,hN,cZ,sN,if_true]
   simp
  ·rintro k hk' _ ⟨a1,a2,a3,a4,a5,a6,a7,a8⟩
   have hkN:k < N:=by simpa [bL] using hk'
   rw [gm,bA]
   refine ⟨by simp,?_⟩
   simp only [List.set_cons_succ,List.set_cons_zero]
   obtain ⟨n,en⟩:=wx ns hbits k (by omega)
   obtain ⟨d,xs',el,m,hs,n1,rfl,rfl,h1,h6,hm,hq⟩:=pZ n (P:=7) (Z:=6) (by omega) (by omega) (by omega) (by omega)
   obtain ⟨M,rfl⟩:∃ M:Nat,m = (M:Int):=⟨m.toNat,by omega⟩
   have S:Sm hs:=⟨h6,fun h hh => (hq h hh).len (by omega) (by omega)⟩
   have hf:kD M hs:=fun h hh => ⟨(hq h hh).2.1.imp fun {a b} (q:a < b) => Int.ne_of_lt q,(hq h hh).2.2⟩
   have hM:M ≤ 7:=by omega
   have ego:=sF (M:=M) S hM
   obtain ⟨r,ew,hgo,hwl⟩:=rN (M:=M) S hf h1
   have pr:r ≠ none -> Eo (wD r) ∧ Wr hs M (wD r):=fun hr => by
    cases r with
    | none => exact absurd rfl hr
    | some r =>
     obtain ⟨H,C⟩:=r
     have W:=hwl H C rfl
     obtain ⟨C',rfl,w⟩:=Hq hf W
     have e:wD (some (H,C'.map fun (i:Nat) => (i:Int))) = .tup [.tup (lD H),.tup (lD C')]:= by
      show D.tup [.tup (lD H),.tup _] = _
      rw [List.map_map]
      rfl
     rw [e]
     have hH:=g6 _ _ W.nd W.lt
     have n3:=W.n3
     have hl:=W.l
     rw [List.length_map] at hl
     exact ⟨⟨_,_,rfl,by rw [dv]; omega,by rw [dv]; omega,by rw [dv]; omega⟩,w⟩
   have tr:nG (wD r):= by
    by_cases hr:r = none
    ·rw [hr]; exact fun p c z => nomatch z
    ·exact wZ (pr hr).1
   have ewr:=gU (M:=M) S tr
   refine aR (fun δ => δ = [.pu (.lst (ns.map .int)),.pu (.int k),.ow false [.int n],a3,a4,a5,a6,a7,a8]) ?_ ?_
   ·simp [aG,en]
   rintro _ rfl
   generalize (Jt.Slot.pu (.lst (ns.map .int)):Jt.Slot) = z0
   generalize (Jt.Slot.pu (.int (k:Int)):Jt.Slot) = z1
   refine aR (fun δ => δ = [z0,z1,.ow false [.int n1],.pu (bB M hs),a4,a5,a6,a7,a8]) ?_ ?_
   ·simp [-Prod.exists]
    exact ⟨_,el,rfl,rfl⟩
   rintro _ rfl
   refine aR (fun δ => δ = [z0,z1,.ow false [.int n1],.pu (bB M hs),.pu (wD r),a5,a6,a7,a8]) (by simp [aG,ew]) ?_
   rintro _ rfl
   have eb:=DJ (fz M (bW M hs).length hs)
   have in1:jX false (wD r) .non = some (.bl (fz M (bW M hs).length hs)):= by
    by_cases hr:r = none
    ·rw [hgo.mp hr,hr]; rfl
    ·have:fz M (bW M hs).length hs = false:= by
      cases q:fz M (bW M hs).length hs with
      | false => rfl
      | true => exact absurd (hgo.mpr q) hr
     rw [this]
     cases r with
     | none => exact absurd rfl hr
     | some r => rfl
   have in2:jX true (wD r) .non = some (.bl (!fz M (bW M hs).length hs)):= by
    by_cases hr:r = none
    ·rw [hgo.mp hr,hr]; rfl
    ·have:fz M (bW M hs).length hs = false:= by
      cases q:fz M (bW M hs).length hs with
      | false => rfl
      | true => exact absurd (hgo.mpr q) hr
     rw [this]
     cases r with
     | none => exact absurd rfl hr
     | some r => rfl
   have wt:fz M (bW M hs).length hs = false -> Ck hs M (wD r) = true:=fun q => lR (pr fun z => by rw [hgo.mp z] at q; cases q).2
   have xo:∀ t:D,Eo t -> ∃ t',Eo t' ∧ ∀ (δ:DS) (Q:D -> DS -> Prop),δ[4]? = some (.pu (wD r)) -> δ[5]? = some (.pu t) -> Q t' δ -> Ok (GP (ag 4) (ag 5)) δ Q:=fun t ht => by
    cases r with
    | none => exact ⟨t,ht,fun δ Q h4 h5 hQ => by simp [h4,h5,wD,cm,hQ]⟩
    | some r =>
     refine ⟨wD (some r),(pr (by simp)).1,fun δ Q h4 h5 hQ => ?_⟩
     obtain ⟨a,b⟩:=r
     simp only [FG,bX,h4,Option.some.injEq,Jt.Slot.pu.injEq,exists_eq_left']
     have:cm (wD (some (a,b))) = some true:=rfl
     simp [this,hQ]
   obtain ⟨t0,x0,ed,p0,n2,rfl⟩:=jJ (M:=M) S h1 n1
   obtain ⟨t1,x1,eb1,s1,n3,rfl⟩:=mW (hs:=hs) (M:=M) h1 h6 (by omega) hM p0 n2
   obtain ⟨t',p',hx⟩:=xo t0 p0
   obtain ⟨t2,x2,eb2,s2,n4,rfl⟩:=mW (hs:=hs) (M:=M) h1 h6 (by omega) hM p' n3
   obtain ⟨t3,x3,eb3,⟨_,s3⟩,n5,rfl⟩:=oO n4
   refine bP false ?_ (fun h => by cases h) fun _ => ?_
   ·generalize bB (M:Int) hs = lay at *
    generalize fz M (bW M hs).length hs = g at *
    generalize Ck hs M (wD r) = wb at *
    generalize wD r = wr at *
    rw [qj]
    cases g with
    | true => simp [in1,in2,aG,ego,eb]
    | false =>
     have wt:=wt rfl
     subst wt
     simp [in1,in2,aG,ego,eb,ewr,cm]
   refine aR (fun δ => δ = [z0,z1,.ow false [.int n2],.pu (bB M hs),.pu (wD r),.pu t0,a6,a7,a8]) ?_ ?_
   ·generalize bB (M:Int) hs = lay at *
    simp [-Prod.exists,ed]
   rintro _ rfl
   refine aR (fun δ => δ = [z0,z1,.ow false [.int n4],.pu (bB M hs),.pu (wD r),.pu t0,.pu (.lst [t0,t1,wD r,t2]),a7,a8]) ?_ ?_
   ·generalize bB (M:Int) hs = lay at *
    generalize wD r = wr at *
    simp only [dW,ax,dU,bQ,bX,au,fj,vC,List.getElem?_cons_zero,List.getElem?_cons_succ,Option.some.injEq,Jt.Slot.pu.injEq,Jt.Slot.ow.injEq,exists_eq_left']
    refine ⟨_,_,⟨rfl,rfl⟩,_,_,⟨rfl,rfl⟩,rfl,_,eb1,_,rfl,_,_,rfl,_,rfl,hx _ _ rfl rfl ?_⟩
    refine ⟨_,_,rfl,rfl,_,eb2,?_⟩
    exact dw.mpr ⟨by simp,by simp,trivial,rfl⟩
   rintro _ rfl
   rw [ax]
   have g5:kh (.lst [t0,t1,wD r,t2]) (.lst [t3]) = some [t0,t1,wD r,t2,t3]:=rfl
   have hi:Ok (do let x <- (do let xs <- (ma kh (do let x <- (ag 6); pure (Hn.th x)) (do let x <- (do let xs <- (cK (ae (do let _ <- aI 2; cf 2 1 (bz ot l_) (pure [])) (pure []))); pure (D.lst xs)); pure (Hn.th x))); pure (D.lst xs)); lift (aF x))
     [z0,z1,.ow false [.int n4],.pu (bB M hs),.pu (wD r),.pu t0,.pu (.lst [t0,t1,wD r,t2]),a7,a8]
     fun it δ => it = a_ [t0,t1,wD r,t2,t3] ∧ δ = [z0,z1,.ow false [.int n5],.pu (bB M hs),.pu (wD r),.pu t0,.pu (.lst [t0,t1,wD r,t2]),a7,a8]:= by
    generalize bB (M:Int) hs = lay at *
    generalize D.lst [t0,t1,wD r,t2] = l4 at *
    generalize wD r = wr at *
    simp [-Prod.exists,eb3,g5,aF]
   refine hi.mono fun it δ' ⟨g1,g2⟩ => ?_
   subst g1; subst g2
   refine rk S _ ?_ fun δ h => h
   intro t ht
   simp only [List.mem_cons,List.not_mem_nil,or_false] at ht
   rcases ht with rfl | rfl | rfl | rfl | rfl
   ·exact wZ p0
   ·exact s1
   ·exact tr
   ·exact s2
   ·exact s3
  ·intro δ h; exact ⟨rfl,h⟩
 rintro _ ⟨a1,a2,a3,a4,a5,a6,a7,a8⟩
 simp
end K42
namespace K42
open PySem L2 Jt
theorem kN {us:List Value} (h:us.length = 1):∃ a,us = [a]:=by match us,h with | [a],_ => exact ⟨a,rfl⟩
theorem dP {us:List Value} (h:us.length = 2):∃ a b,us = [a,b]:=by match us,h with | [a,b],_ => exact ⟨a,b,rfl⟩
theorem lK {us:List Value} (h:us.length = 3):∃ a b c,us = [a,b,c]:=by match us,h with | [a,b,c],_ => exact ⟨a,b,c,rfl⟩
theorem all_mk {l:PySem.W.OpenLaw} {w:World} {K:PySem.W.Frag} {h:Heap} {mg:Str -> Option Value} {fa:Addr} (X:K.In h) (G:h.Ns mainGlobals mg) (hfa:mg "law" = some (.ref fa))
  (e_is_whole:Fh K "is_whole" zj)
  (e_is_below:Fh K "is_below" yO)
  (e_are_below:Fh K "are_below" yB)
  (e_are_unlike:Fh K "are_unlike" xx)
  (e_need_head:Fh K "need_head" yp)
  (e_heads_of:Fh K "heads_of" xM)
  (e_common:Fh K "common" zk)
  (e_with_next:Fh K "with_next" xY)
  (e_are_unlike_below:Fh K "are_unlike_below" EZ)
  (e_is_loop:Fh K "is_loop" Au)
  (e_only_two_have:Fh K "only_two_have" D9)
  (e_is_wreath:Fh K "is_wreath" yv)
  (e_columns_between:Fh K "columns_between" DZ)
  (e_wreath_from:Fh K "wreath_from" EY)
  (e_wreath_of:Fh K "wreath_of" Ab)
  (e__law_cell:Fh K "_law_cell" zr)
  (e__law_mix:Fh K "_law_mix" yP)
  (e__law_box:Fh K "_law_box" yw)
  (e__law_take:Fh K "_law_take" zZ)
  (e__law_head:Fh K "_law_head" wX)
  (e__law_grown:Fh K "_law_grown" xh)
  (e__law_barred:Fh K "_law_barred" D_)
  (e__law_named:Fh K "_law_named" y3)
  (e__law_layout:Fh K "_law_layout" E8)
  (e__law_whole:Fh K "_law_whole" Aj)
  (e__law_odd:Fh K "_law_odd" xX)
  (e__law_columns:Fh K "_law_columns" Ep)
  (e__law_taken:Fh K "_law_taken" xG)
  (e__law_is_nest:Fh K "_law_is_nest" Ew)
  (e__law_turns:Fh K "_law_turns" zX)
  (e__law_is_wreath:Fh K "_law_is_wreath" El)
  (e__law_drawn_turns:Fh K "_law_drawn_turns" Gj)
  (e__law_bent:Fh K "_law_bent" zF)
  (e__law_goes:Fh K "_law_goes" zy)
  (e_law:Fh K "law" qt)
  (z:PySem.W.nsIn K mainGlobals "all" = some none ∧ PySem.W.nsIn K mainGlobals "bool" = some none ∧ PySem.W.nsIn K mainGlobals "divmod" = some none ∧ PySem.W.nsIn K mainGlobals "enumerate" = some none ∧ PySem.W.nsIn K mainGlobals "int" = some none ∧ PySem.W.nsIn K mainGlobals "isinstance" = some none ∧ PySem.W.nsIn K mainGlobals "len" = some none ∧ PySem.W.nsIn K mainGlobals "list" = some none ∧ PySem.W.nsIn K mainGlobals "max" = some none ∧ PySem.W.nsIn K mainGlobals "min" = some none ∧ PySem.W.nsIn K mainGlobals "range" = some none ∧ PySem.W.nsIn K mainGlobals "set" = some none ∧ PySem.W.nsIn K mainGlobals "sorted" = some none ∧ PySem.W.nsIn K mainGlobals "tuple" = some none ∧ PySem.W.nsIn K mainGlobals "zip" = some none)
  {t_LEAST_LOOP:Tok} (y_LEAST_LOOP:PySem.W.nsIn K mainGlobals "LEAST_LOOP" = some (some (.int 2 t_LEAST_LOOP)))
  {t_LEAST_WREATH:Tok} (y_LEAST_WREATH:PySem.W.nsIn K mainGlobals "LEAST_WREATH" = some (some (.int 3 t_LEAST_WREATH)))
 :∃ fd:FuncData,(∀ (s:Shared) (v:Value),BindsTo s fd ⟨[v],[]⟩ [("_law_script",v)]) ∧ ∀ base:Heap,K.In base -> base.Ns mainGlobals mg -> d7 l.prog w K mg base du 15 fa fd ["_law_script"] t6:= by
 have m:Bi mg:=⟨PySem.W.mg_none_of X G z.1,PySem.W.mg_none_of X G z.2.1,PySem.W.mg_none_of X G z.2.2.1,PySem.W.mg_none_of X G z.2.2.2.1,PySem.W.mg_none_of X G z.2.2.2.2.1,PySem.W.mg_none_of X G z.2.2.2.2.2.1,PySem.W.mg_none_of X G z.2.2.2.2.2.2.1,PySem.W.mg_none_of X G z.2.2.2.2.2.2.2.1,PySem.W.mg_none_of X G z.2.2.2.2.2.2.2.2.1,PySem.W.mg_none_of X G z.2.2.2.2.2.2.2.2.2.1,PySem.W.mg_none_of X G z.2.2.2.2.2.2.2.2.2.2.1,PySem.W.mg_none_of X G z.2.2.2.2.2.2.2.2.2.2.2.1,PySem.W.mg_none_of X G z.2.2.2.2.2.2.2.2.2.2.2.2.1,PySem.W.mg_none_of X G z.2.2.2.2.2.2.2.2.2.2.2.2.2.1,PySem.W.mg_none_of X G z.2.2.2.2.2.2.2.2.2.2.2.2.2.2,⟨_,PySem.W.mg_of X G y_LEAST_LOOP⟩,⟨_,PySem.W.mg_of X G y_LEAST_WREATH⟩⟩
 have E_is_whole:=ent X G e_is_whole (ps:=["thing"]) fun _ _ _ _ _ _ us hl => by obtain ⟨_,rfl⟩:=kN hl; rfl
 have E_is_below:=ent X G e_is_below (ps:=["thing","many"]) fun _ _ _ _ _ _ us hl => by obtain ⟨_,_,rfl⟩:=dP hl; rfl
 have E_are_below:=ent X G e_are_below (ps:=["thing","many"]) fun _ _ _ _ _ _ us hl => by obtain ⟨_,_,rfl⟩:=dP hl; rfl
 have E_are_unlike:=ent X G e_are_unlike (ps:=["things"]) fun _ _ _ _ _ _ us hl => by obtain ⟨_,rfl⟩:=kN hl; rfl
 have E_need_head:=ent X G e_need_head (ps:=["layout","thing"]) fun _ _ _ _ _ _ us hl => by obtain ⟨_,_,rfl⟩:=dP hl; rfl
 have E_heads_of:=ent X G e_heads_of (ps:=["layout","column"]) fun _ _ _ _ _ _ us hl => by obtain ⟨_,_,rfl⟩:=dP hl; rfl
 have E_common:=ent X G e_common (ps:=["layout","one","other"]) fun _ _ _ _ _ _ us hl => by obtain ⟨_,_,_,rfl⟩:=lK hl; rfl
 have E_with_next:=ent X G e_with_next (ps:=["heads"]) fun _ _ _ _ _ _ us hl => by obtain ⟨_,rfl⟩:=kN hl; rfl
 have E_are_unlike_below:=ent X G e_are_unlike_below (ps:=["thing","many"]) fun _ _ _ _ _ _ us hl => by obtain ⟨_,_,rfl⟩:=dP hl; rfl
 have E_is_loop:=ent X G e_is_loop (ps:=["layout","thing"]) fun _ _ _ _ _ _ us hl => by obtain ⟨_,_,rfl⟩:=dP hl; rfl
 have E_only_two_have:=ent X G e_only_two_have (ps:=["layout","heads","column"]) fun _ _ _ _ _ _ us hl => by obtain ⟨_,_,_,rfl⟩:=lK hl; rfl
 have E_is_wreath:=ent X G e_is_wreath (ps:=["layout","thing"]) fun _ _ _ _ _ _ us hl => by obtain ⟨_,_,rfl⟩:=dP hl; rfl
 have E_columns_between:=ent X G e_columns_between (ps:=["layout","heads"]) fun _ _ _ _ _ _ us hl => by obtain ⟨_,_,rfl⟩:=dP hl; rfl
 have E_wreath_from:=ent X G e_wreath_from (ps:=["layout","heads"]) fun _ _ _ _ _ _ us hl => by obtain ⟨_,_,rfl⟩:=dP hl; rfl
 have E_wreath_of:=ent X G e_wreath_of (ps:=["layout"]) fun _ _ _ _ _ _ us hl => by obtain ⟨_,rfl⟩:=kN hl; rfl
 have E__law_cell:=ent X G e__law_cell (ps:=["_law_script","_law_k"]) fun _ _ _ _ _ _ us hl => by obtain ⟨_,_,rfl⟩:=dP hl; rfl
 have E__law_mix:=ent X G e__law_mix (ps:=["_law_cell_here","_law_k"]) fun _ _ _ _ _ _ us hl => by obtain ⟨_,_,rfl⟩:=dP hl; rfl
 have E__law_box:=ent X G e__law_box (ps:=["_law_script","_law_k"]) fun _ _ _ _ _ _ us hl => by obtain ⟨_,_,rfl⟩:=dP hl; rfl
 have E__law_take:=ent X G e__law_take (ps:=["_law_box_here","_law_many"]) fun _ _ _ _ _ _ us hl => by obtain ⟨_,_,rfl⟩:=dP hl; rfl
 have E__law_head:=ent X G e__law_head (ps:=["_law_box_here","_law_many"]) fun _ _ _ _ _ _ us hl => by obtain ⟨_,_,rfl⟩:=dP hl; rfl
 have E__law_grown:=ent X G e__law_grown (ps:=["_law_box_here","_law_many","_law_heads"]) fun _ _ _ _ _ _ us hl => by obtain ⟨_,_,_,rfl⟩:=lK hl; rfl
 have E__law_barred:=ent X G e__law_barred (ps:=["_law_box_here","_law_many"]) fun _ _ _ _ _ _ us hl => by obtain ⟨_,_,rfl⟩:=dP hl; rfl
 have E__law_named:=ent X G e__law_named (ps:=["_law_box_here","_law_many","_law_heads"]) fun _ _ _ _ _ _ us hl => by obtain ⟨_,_,_,rfl⟩:=lK hl; rfl
 have E__law_layout:=ent X G e__law_layout (ps:=["_law_box_here","_law_most","_law_heads"]) fun _ _ _ _ _ _ us hl => by obtain ⟨_,_,_,rfl⟩:=lK hl; rfl
 have E__law_whole:=ent X G e__law_whole (ps:=["_law_found"]) fun _ _ _ _ _ _ us hl => by obtain ⟨_,rfl⟩:=kN hl; rfl
 have E__law_odd:=ent X G e__law_odd (ps:=["_law_box_here"]) fun _ _ _ _ _ _ us hl => by obtain ⟨_,rfl⟩:=kN hl; rfl
 have E__law_columns:=ent X G e__law_columns (ps:=["_law_layout_here"]) fun _ _ _ _ _ _ us hl => by obtain ⟨_,rfl⟩:=kN hl; rfl
 have E__law_taken:=ent X G e__law_taken (ps:=["_law_heads","_law_column"]) fun _ _ _ _ _ _ us hl => by obtain ⟨_,_,rfl⟩:=dP hl; rfl
 have E__law_is_nest:=ent X G e__law_is_nest (ps:=["_law_heads","_law_column"]) fun _ _ _ _ _ _ us hl => by obtain ⟨_,_,rfl⟩:=dP hl; rfl
 have E__law_turns:=ent X G e__law_turns (ps:=["_law_layout_here","_law_thing","_law_least"]) fun _ _ _ _ _ _ us hl => by obtain ⟨_,_,_,rfl⟩:=lK hl; rfl
 have E__law_is_wreath:=ent X G e__law_is_wreath (ps:=["_law_layout_here","_law_thing"]) fun _ _ _ _ _ _ us hl => by obtain ⟨_,_,rfl⟩:=dP hl; rfl
 have E__law_drawn_turns:=ent X G e__law_drawn_turns (ps:=["_law_box_here","_law_layout_here"]) fun _ _ _ _ _ _ us hl => by obtain ⟨_,_,rfl⟩:=dP hl; rfl
 have E__law_bent:=ent X G e__law_bent (ps:=["_law_box_here","_law_layout_here","_law_thing"]) fun _ _ _ _ _ _ us hl => by obtain ⟨_,_,_,rfl⟩:=lK hl; rfl
 have E__law_goes:=ent X G e__law_goes (ps:=["_law_layout_here"]) fun _ _ _ _ _ _ us hl => by obtain ⟨_,rfl⟩:=kN hl; rfl
 exact Jz X G hfa e_law (fun _ _ _ _ _ _ s v => .of_eq rfl) gQ (fun base => by
  have G_q27:jn l.prog w K mg base 1:=Ed (k:=0) E_is_whole m
  have G_q26:fo l.prog w K mg base 2:=Fy (k:=1) E_is_below (G_q27.up (by decide))
  have G_q25:iH l.prog w K mg base 3:=EN (k:=2) E_are_below m (G_q26.up (by decide))
  have G_q12:gh l.prog w K mg base 1:=FT (k:=0) E_are_unlike m
  have G_q21:ix l.prog w K mg base 3:=Fj (k:=2) E_need_head m (G_q26.up (by decide))
  have G_q29:ji l.prog w K mg base 3:=Gf (k:=2) E_heads_of m (G_q26.up (by decide))
  have G_q33:jE l.prog w K mg base 4:=FI (k:=3) E_common m (G_q21.up (by decide))
  have G_q20:fC l.prog w K mg base 1:=Ek (k:=0) E_with_next m
  have G_q0:dH l.prog w K mg base 4:=HJ (k:=3) E_are_unlike_below (G_q25.up (by decide)) (G_q12.up (by decide))
  have G_q32:kK l.prog w K mg base 5:=E7 (k:=4) E_is_loop m (G_q0.up (by decide)) (G_q33.up (by decide)) (G_q20.up (by decide))
  have G_q4:dE l.prog w K mg base 4:=G_ (k:=3) E_only_two_have m (G_q29.up (by decide))
  have G_q19:g8 l.prog w K mg base 6:=E2 (k:=5) E_is_wreath m (G_q32.up (by decide)) (G_q4.up (by decide))
  have G_q2:dR l.prog w K mg base 5:=Gz (k:=4) E_columns_between (G_q33.up (by decide)) (G_q4.up (by decide)) (G_q20.up (by decide))
  have G_q7:jf l.prog w K mg base 13:=Dc (k:=5) E_wreath_from m (G_q2.up (by decide)) 8
  have G_q18:gZ l.prog w K mg base 14:=FX (k:=13) E_wreath_of m (G_q7.up (by decide))
  have G_q24:ig l.prog w K mg base 1:=En (k:=0) E__law_cell m
  have G_q30:jr l.prog w K mg base 1:=D2 (k:=0) E__law_mix
  have G_q31:jo l.prog w K mg base 2:=Ef (k:=1) E__law_box m (G_q24.up (by decide)) (G_q30.up (by decide))
  have G_q16:cu l.prog w K mg base 1:=EG (k:=0) E__law_take m
  have G_q22:fE l.prog w K mg base 2:=Gg (k:=1) E__law_head m (G_q16.up (by decide))
  have G_q10:gz l.prog w K mg base 3:=EO (k:=2) E__law_grown m (G_q22.up (by decide)) (G_q16.up (by decide))
  have G_q8:fL l.prog w K mg base 2:=HA (k:=1) E__law_barred m (G_q16.up (by decide))
  have G_q13:gC l.prog w K mg base 2:=ED (k:=1) E__law_named m (G_q16.up (by decide))
  have G_q9:fM l.prog w K mg base 4:=GQ (k:=3) E__law_layout m (G_q8.up (by decide)) (G_q10.up (by decide)) (G_q22.up (by decide)) (G_q13.up (by decide)) (G_q16.up (by decide))
  have G_q11:gM l.prog w K mg base 1:=Fv (k:=0) E__law_whole m
  have G_q28:gI l.prog w K mg base 2:=Fw (k:=1) E__law_odd m (G_q16.up (by decide))
  have G_q6:ff l.prog w K mg base 1:=GK (k:=0) E__law_columns m
  have G_q14:gP l.prog w K mg base 1:=Fe (k:=0) E__law_taken m
  have G_q5:fg l.prog w K mg base 1:=Ih (k:=0) E__law_is_nest
  have G_q15:gD l.prog w K mg base 2:=Fx (k:=1) E__law_turns m (G_q11.up (by decide))
  have G_q3:d_ l.prog w K mg base 3:=Hc (k:=2) E__law_is_wreath m (G_q15.up (by decide))
  have G_q1:dG l.prog w K mg base 2:=Hv (k:=1) E__law_drawn_turns m (G_q16.up (by decide))
  have G_q23:iG l.prog w K mg base 3:=FE (k:=2) E__law_bent m (G_q28.up (by decide)) (G_q16.up (by decide))
  have G_q17:hX l.prog w K mg base 2:=E_ (k:=1) E__law_goes m (G_q6.up (by decide)) (G_q5.up (by decide)) (G_q14.up (by decide))
  exact GW (k:=14) m (G_q23.up (by decide)) (G_q31.up (by decide)) (G_q1.up (by decide)) (G_q17.up (by decide)) (G_q3.up (by decide)) (G_q9.up (by decide)) (G_q28.up (by decide)) (G_q19.up (by decide)) (G_q18.up (by decide))) fun _ _ _ F => AV F yN
end K42
open PySem PySem.W PyProof.Rows
set_option maxRecDepth 100000
set_option maxHeartbeats 0
namespace TopAll
open PySem PySem.W PySem.Calls PyProof.Rows
def run (st:SharedT→Thread→Option (SharedT×Thread)) (ok:Thread→Bool):Nat→SharedT→Thread→Option SharedT
 |0,_,_=>none
 |n+1,s,t=>match through t with
  |true=>some s
  |false=>match ok t with
   |false=>none
   |true=>match st s t with
    |some (s',t')=>run st ok n s' t'
    |none=>none
theorem run_spec {tb:String→Option Builtin} {p:Program} {w:World} {m:Nat} {an:Option Value}:∀ {n:Nat} {s s':SharedT} {t:Thread},
  run (stepT (denote tb) p w) (stepOk m an) n s t=some s' → topRun tb p w m an n s.abs t=some s'.abs
 |0,_,_,_,h=>by cases h
 |n+1,s,s',t,h=>by
  unfold run at h
  unfold topRun
  cases ht:through t with
  |true=>rw [ht] at h;cases h;rfl
  |false=>
   rw [ht] at h
   cases hk:stepOk m an t with
   |false=>rw [hk] at h;cases h
   |true=>
    rw [hk] at h
    cases hs:stepT (denote tb) p w s t with
    |none=>rw [hs] at h;cases h
    |some r=>obtain ⟨s2,t2⟩:=r;rw [hs] at h;rw [stepT_spec hs];exact run_spec h
noncomputable def boot (w:World) (os:OsState):SharedT:=⟨(boot_heap w.params).objs.toList.zipIdx.foldl (fun t x=>t.ins x.2 x.1) BT.nil,11,(boot_heap w.params).life,Array.mk [],boot_drawn,boot_toks,os⟩
theorem boot_abs (w:World) (os:OsState):(boot w os).abs=⟨boot_heap w.params,Array.mk [],boot_drawn,boot_toks,os⟩:=by kernel_rfl
theorem boot_size (w:World):((boot_heap w.params).isNs mainGlobals && (Array.mk []:Array GenState).size==0,(boot_heap w.params).objs.size,(boot_heap w.params).nsMap mainGlobals "__annotations__")=(true,11,some (.ref 6)):=by kernel_rfl
noncomputable abbrev go (p:Program) (w:World) (N:Nat) (os:OsState):Option SharedT:=run (Fast.tw10156331382660048174 (Fast.tw11892475500146522536 Fast.tw14364793385576792824) p w) (Fast.tw6613529449190102663 11 (some (.ref 6))) N (boot w os) (topStub p)
theorem left {p q:Program} {lo:List Str} {Xt:Shared→Bool} {α:Type} {Yf:Shared→α} {Ya:World→α} {N:Nat} {g0:Bool}
  (e:opening p=plainProg p.main.scope.names) (hN:Nat.ble 600 N=true) (f:∀ s,fenceModules? p s=some s)
  (u1:∀ w:World,(fun os=>(go p w N os).map fun S=>((staticsOk (importedModules p.main.body) (boot_heap w.params) S.abs.heap && namesBound p S.abs.heap && gensDone S.abs && laidKept (boot_heap w.params) S.abs.heap),
   (Fast.tw4187177175401517315 q lo (Fast.tw5923862056798008813 p.main.body) Xt g0 S.abs).1))=fun _=>some (true,(openGood q lo).1))
  (u2:∀ w:World,(fun os=>(go p w N os).map fun S=>(Fast.tw4187177175401517315 q lo (Fast.tw5923862056798008813 p.main.body) Xt g0 S.abs).2)=fun _=>some (openGood q lo).2)
  (u3:∀ w:World,(fun os=>(go p w N os).map fun S=>Yf S.abs)=fun _=>some (Ya w)):LeftO p q lo Xt Yf Ya N g0:=fun w=>by
 obtain ⟨⟨h,gs,d,k,os⟩,e1,e'⟩:=Option.map_eq_some_iff.mp (boot_open e hN f w)
 obtain ⟨rfl,rfl,rfl,rfl⟩:h=boot_heap w.params∧gs=Array.mk []∧d=boot_drawn∧k=boot_toks:=by simpa using e'
 obtain ⟨z1,z2,z3⟩:_∧_∧_:=by simpa only [Prod.mk.injEq] using boot_size w
 obtain ⟨S,r,l1⟩:=Option.map_eq_some_iff.mp (congrFun (u1 w) os)
 have l2:=congrFun (u2 w) os
 have l3:=congrFun (u3 w) os
 simp only [r,Option.map_some,Option.some.injEq] at l2 l3
 obtain ⟨l1,l4⟩:=Prod.mk.inj l1
 rw [←Fast.te4187177175401517315,←Fast.te5923862056798008813] at l2 l4
 unfold go at r
 rw [←Fast.te10156331382660048174,←Fast.te11892475500146522536,←Fast.te14364793385576792824,←Fast.te6613529449190102663] at r
 have r:=run_spec r
 rw [boot_abs] at r
 have t:topFrom treeTable p w N ⟨boot_heap w.params,Array.mk [],boot_drawn,boot_toks,os⟩=some S.abs:=by
  unfold topFrom
  dsimp only
  rw [z1,z2,z3,r]
  show (match staticsOk (importedModules p.main.body) (boot_heap w.params) S.abs.heap && namesBound p S.abs.heap && gensDone S.abs && laidKept (boot_heap w.params) S.abs.heap with |true=>_|false=>_)=_
  rw [l1]
 unfold openEnds
 rw [e1]
 show (topFrom treeTable p w N _).map _=_
 rw [t]
 exact congrArg some (Prod.ext (Prod.ext l4 l2) l3)
end TopAll
abbrev TopAll.q:PySem.Program:=PySem.W.view PySem.Challenge.rw_jointrees_k42_wreaths.prog [1,2,3,5,6,7,8,10,11,12,14,15,16,17,19,20,21,22,23,24,26,27,28,29,30,31,32,33,34,35,36,37,38,39,40,41,42,43,44,45]
open PySem PySem.W PySem.Calls PyProof.Rows
theorem TopAll.law:PySem.Challenge.rw_jointrees_k42_wreaths.wellSaid=true:=by
 rw [Fast.te9446332074065402090]
 kernel_rfl
theorem TopAll.u1 (w:World):(fun os=>(TopAll.go PySem.Challenge.rw_jointrees_k42_wreaths.row.prog w 8000 os).map fun S=>((staticsOk (importedModules PySem.Challenge.rw_jointrees_k42_wreaths.row.prog.main.body) (boot_heap w.params) S.abs.heap && namesBound PySem.Challenge.rw_jointrees_k42_wreaths.row.prog S.abs.heap && gensDone S.abs && laidKept (boot_heap w.params) S.abs.heap),
   (Fast.tw4187177175401517315 TopAll.q [] (Fast.tw5923862056798008813 PySem.Challenge.rw_jointrees_k42_wreaths.row.prog.main.body) (fun s=>xlAt TopAll.q [] s && recOk [] s) true S.abs).1))=fun _=>some (true,(openGood TopAll.q []).1):=by kernel_rfl
theorem TopAll.u2 (w:World):(fun os=>(TopAll.go PySem.Challenge.rw_jointrees_k42_wreaths.row.prog w 8000 os).map fun S=>(Fast.tw4187177175401517315 TopAll.q [] (Fast.tw5923862056798008813 PySem.Challenge.rw_jointrees_k42_wreaths.row.prog.main.body) (fun s=>xlAt TopAll.q [] s && recOk [] s) true S.abs).2)=fun _=>some (openGood TopAll.q []).2:=by kernel_rfl
set_option hygiene false in
local macro_rules |`(tactic|o_head $H)=>`(tactic|(refine holds_open (r:=PySem.Challenge.rw_jointrees_k42_wreaths.row) (q:=TopAll.q) (loose:=[]) (Xt:=fun s=>xlAt TopAll.q [] s && recOk [] s) (XP:=XL TopAll.q []) (Yf:=Hook.obs $H) (Ya:=Hook.val $H) (YP:=Hook.says $H) (N:=8000) ?hl (Hook.of $H) (Hook.keeps $H) (fun s e=>xl_of s (Bool.and_eq_true_iff.mp e).1) XL.keeps (by rfl) (by rfl) (by rfl) (fun s e=>recFacts_of (Bool.and_eq_true_iff.mp e).2) (by rfl) (by assumption) (by decide +kernel) ⟨rfl,rfl,rfl,rfl,rfl,by decide +kernel⟩ ?hw ?hc;(case hl=>exact TopAll.left (by kernel_rfl) (by decide) (fun s=>by kernel_rfl) TopAll.u1 TopAll.u2 (fun w=>by kernel_rfl))))
set_option maxRecDepth 100000 in
set_option maxHeartbeats 0 in
theorem PySem.Challenge.cw_jointrees_k42_wreaths_holds : PySem.Challenge.rw_jointrees_k42_wreaths.Holds := by
 w_on;refine holds_law TopAll.law fun said=>?_;k_head;(case hw=>w_witness2)
 k_fill
 refine Jt.walkB (l:=PySem.Challenge.rw_jointrees_k42_wreaths) (k:=15) rfl rfl ⟨rfl,by decide,by decide,rfl⟩ (fun w h Y => PySem.W.kIn_of Y) ?L ?F
 case L => intro w; kernel_rfl
 case F =>
  intro w mg fa h KX G hmg
  refine' K42.all_mk KX G hmg ?_ ?_ ?_ ?_ ?_ ?_ ?_ ?_ ?_ ?_ ?_ ?_ ?_ ?_ ?_ ?_ ?_ ?_ ?_ ?_ ?_ ?_ ?_ ?_ ?_ ?_ ?_ ?_ ?_ ?_ ?_ ?_ ?_ ?_ ?_ ?z ?y_LEAST_LOOP ?y_LEAST_WREATH
  (case y_LEAST_LOOP => k_is)
  (case y_LEAST_WREATH => k_is)
  case z => refine ⟨?_,?_,?_,?_,?_,?_,?_,?_,?_,?_,?_,?_,?_,?_,?_⟩ <;> k_is
  all_goals (refine' Jt.fh_mk ?a ?l ?c ?k; (case a => k_is); (case l => k_is); (case c => k_is); (case k => k_is))
