import PyProof.Rows.All
import Wide.All
import OpenK.AllK
import Wide.FinOn
import Lean
import PyProof.Rows.SetFrom
import PyProof.WalksMore
import PyProof.SetRoads
import PyProof.ListRange
import PyProof.Rows.SortWalk
import PyProof.CollectWalk
import PyProof.ZipIter
import PyProof.EnumStmt
import PyProof.EqAt
import PyProof.EqKinds
import PyProof.TupleCall
import PyProof.CompFree
import PyProof.Cells
import PyProof.ConsumeWalk
import PyProof.TupleOfSeq
import PyProof.NeKinds
import PyProof.IsiPairs
import PyProof.IsiHeapPairs
import PyProof.IsInstanceT
import PyProof.IsiTupleOf
import KE.KSortTup
import KE.KTryMore
import PyProof.ExcBaseAll.ValueError
import KE.RegMulBits
import Wide.ObjOpen
import Wide.RegSB
import PyProof.ReprRoads
import PyProof.Rows.DictMade
import PyProof.Rows.DictMethods
import PyProof.ListMulRoad
import PyProof.FactsAll.tuple_2
import PyProof.SumWalk
import PySem.Challenge.RW_jointrees_k43_loops_and_counts
noncomputable section
set_option Elab.async false
set_option linter.all false
set_option maxRecDepth 100000
set_option maxHeartbeats 4000000
namespace Jt
open PySem
def Up (xs:Array Nat):Prop:=xs.toList.Pairwise (· < ·)
theorem Up.lt {xs:Array Nat} (u:Up xs) {i k a b:Nat} (h:i < k) (ha:xs[i]? = some a) (hb:xs[k]? = some b):a < b:= by
 rw [<- Array.getElem?_toList] at ha hb
 obtain ⟨hi,e1⟩:=List.getElem?_eq_some_iff.mp ha
 obtain ⟨hk,e2⟩:=List.getElem?_eq_some_iff.mp hb
 rw [<- e1,<- e2]
 exact List.pairwise_iff_getElem.mp u i k hi hk h
theorem zh {xs:Array Nat} {j:Nat} (u:Up xs):∀ (fuel lo hi:Nat),hi ≤ xs.size -> lo ≤ hi -> hi - lo ≤ fuel ->
  (∀ i v,i < lo -> xs[i]? = some v -> v < j) -> (∀ i v,hi ≤ i -> xs[i]? = some v -> j ≤ v) ->
  SetTable.below.go xs j fuel lo hi ≤ xs.size ∧ (∀ i v,i < SetTable.below.go xs j fuel lo hi -> xs[i]? = some v -> v < j) ∧ ∀ i v,SetTable.below.go xs j fuel lo hi ≤ i -> xs[i]? = some v -> j ≤ v:= by
 intro fuel
 induction fuel with
 | zero =>
  intro lo hi h1 h2 h3 h4 h5
  unfold SetTable.below.go
  have:lo = hi:=by omega
  subst this
  exact ⟨h1,h4,h5⟩
 | succ fuel ih =>
  intro lo hi h1 h2 h3 h4 h5
  unfold SetTable.below.go
  by_cases hl:lo < hi
  ·rw [if_pos hl]
   have hm:(lo + hi) / 2 < xs.size:=by omega
   have eg:xs.getD ((lo + hi) / 2) j = xs[(lo + hi) / 2]:=by simp [Array.getD,hm]
   have em:xs[(lo + hi) / 2]? = some xs[(lo + hi) / 2]:=by simp [hm]
   dsimp only
   by_cases hc:xs.getD ((lo + hi) / 2) j < j
   ·rw [if_pos hc]
    refine ih _ _ h1 (by omega) (by omega) (fun i v hi' e => ?_) h5
    rcases Nat.lt_or_eq_of_le (Nat.le_of_lt_succ hi') with q | q
    ·have:=u.lt q e em
     omega
    ·subst q; rw [em] at e; cases e; omega
   ·rw [if_neg hc]
    refine ih _ _ (by omega) (by omega) (by omega) h4 fun i v hi' e => ?_
    rcases Nat.lt_or_eq_of_le hi' with q | q
    ·have:=u.lt q em e
     omega
    ·subst q; rw [em] at e; cases e; omega
  ·rw [if_neg hl]
   have:lo = hi:=by omega
   subst this
   exact ⟨h1,h4,h5⟩
theorem qO {xs:Array Nat} (u:Up xs) (j:Nat):SetTable.below xs j ≤ xs.size ∧ (∀ i v,i < SetTable.below xs j -> xs[i]? = some v -> v < j) ∧ ∀ i v,SetTable.below xs j ≤ i -> xs[i]? = some v -> j ≤ v:= by
 unfold SetTable.below
 refine zh u _ _ _ (Nat.le_refl _) (Nat.zero_le _) (by omega) (fun i v h => absurd h (Nat.not_lt_zero _)) fun i v h e => ?_
 rw [Array.getElem?_eq_none h] at e
 cases e
theorem v_ {xs:Array Nat} (u:Up xs) {j:Nat} (h:xs[SetTable.below xs j]? ≠ some j):j ∉ xs.toList:=fun hm => by
 obtain ⟨i,hi,e⟩:=List.getElem_of_mem hm
 have ei:xs[i]? = some j:=by rw [<- Array.getElem?_toList,List.getElem?_eq_getElem hi,e]
 obtain ⟨_,b1,b2⟩:=qO u j
 rcases Nat.lt_trichotomy i (SetTable.below xs j) with q | q | q
 ·exact absurd (b1 i j q ei) (Nat.lt_irrefl _)
 ·rw [<- q] at h; exact h ei
 ·have hb:SetTable.below xs j < xs.size:=Nat.lt_of_lt_of_le q (by simpa using Nat.le_of_lt hi)
  have e2:xs[SetTable.below xs j]? = some xs[SetTable.below xs j]:=by simp [hb]
  have:=u.lt q e2 ei
  have:=b2 _ _ (Nat.le_refl _) e2
  omega
theorem vX {xs:Array Nat} (u:Up xs) {j:Nat} (h:j ∉ xs.toList):Up (SetTable.insertAt xs (SetTable.below xs j) j):= by
 unfold Up
 rw [SetTable.toList_insertAt]
 obtain ⟨b0,b1,b2⟩:=qO u j
 have u':xs.toList.Pairwise (· < ·):=u
 have hd:∀ y ∈ xs.toList.drop (SetTable.below xs j),j < y:=fun y hy => by
  obtain ⟨i,hi,e⟩:=List.getElem_of_mem hy
  rw [List.getElem_drop] at e
  have hm:y ∈ xs.toList:=List.mem_of_mem_drop hy
  have:=b2 (SetTable.below xs j + i) y (by omega) (by rw [<- Array.getElem?_toList,List.getElem?_eq_some_iff]; exact ⟨by simp at hi; simp; omega,e⟩)
  rcases Nat.lt_or_eq_of_le this with q | q
  ·exact q
  ·subst q; exact absurd hm h
 have ht:∀ y ∈ xs.toList.take (SetTable.below xs j),y < j:=fun y hy => by
  obtain ⟨i,hi,e⟩:=List.getElem_of_mem hy
  rw [List.getElem_take] at e
  have hi':i < SetTable.below xs j ∧ i < xs.toList.length:=by rw [List.length_take] at hi; omega
  exact b1 i y hi'.1 (by rw [<- Array.getElem?_toList,List.getElem?_eq_some_iff]; exact ⟨hi'.2,e⟩)
 rw [List.pairwise_append]
 refine ⟨u'.sublist (List.take_sublist _ _),?_,fun a ha b hb => ?_⟩
 ·rw [List.pairwise_cons]
  exact ⟨hd,u'.sublist (List.drop_sublist _ _)⟩
 ·rcases List.mem_cons.mp hb with e | hb
  ·rw [e]; exact ht a ha
  ·exact Nat.lt_trans (ht a ha) (hd b hb)
def Tb (t:SetTable):Prop:=t.plain = true -> Up t.place
theorem vL {t:SetTable} {j:Nat} (u:Up t.place) (h:t.slot j = .empty ∨ t.slot j = .dummy):j ∉ t.place.toList:= by
 refine v_ u fun e => ?_
 unfold SetTable.slot at h
 dsimp only at h
 rw [if_pos (by rw [e]; simp)] at h
 rcases h with h | h <;> cases h
theorem i3 (t:SetTable) (p:SetTable.Probe):(t.advance p).dummy = p.dummy:= by
 unfold SetTable.advance
 split <;> rfl
theorem tR {t:SetTable} {f:Nat -> Int} {h:Int}:∀ (fuel:Nat) (p:SetTable.Probe) (j:Nat) (d:Option Nat),(∀ x,p.dummy = some x -> t.slot x = .dummy) ->
  SetTable.probe.go t f h fuel p = some (.empty j d) -> t.slot (d.getD j) = .empty ∨ t.slot (d.getD j) = .dummy:= by
 intro fuel
 induction fuel with
 | zero => intro p j d _ e; unfold SetTable.probe.go at e; cases e
 | succ fuel ih =>
  intro p j d hp e
  unfold SetTable.probe.go at e
  cases q:t.slot p.j with
  | empty =>
   rw [q] at e
   injection e with e
   injection e with e1 e2
   subst e1
   cases d with
   | none => exact .inl q
   | some x => exact .inr (hp x e2)
  | dummy =>
   rw [q] at e
   dsimp only at e
   refine ih _ j d (fun x hx => ?_) e
   rw [i3] at hx
   cases hx
   exact q
  | live i =>
   rw [q] at e
   dsimp only at e
   split at e
   ·cases e
   ·exact ih _ j d (fun x hx => hp x (by rw [i3] at hx; exact hx)) e
theorem nD {t:SetTable} {h:Int} {j:Nat} {b:Bool} (u:Up t.place) (e:t.freeSlot h = some (j,b)):j ∉ t.place.toList:= by
 unfold SetTable.freeSlot at e
 split at e
 ·rename_i j' d q
  cases e
  exact vL u (tR _ _ _ _ (fun x hx => by unfold SetTable.probeStart at hx; cases hx) q)
 ·cases e
theorem vQ {t:SetTable} (h:Tb t) (es:Array (Int × Value)) (k:Int) (x:Value):Tb (layNew t es k x).2.1 ∧ (layNew t es k x).2.1.led = t.led:= by
 unfold layNew
 split
 ·rename_i j b e
  dsimp only
  unfold SetTable.orStandIn
  split
  ·exact ⟨fun hp => vX (h hp) (nD (h hp) e),rfl⟩
  ·exact ⟨fun hp => absurd (show false = true from hp) Bool.false_ne_true,rfl⟩
 ·exact ⟨fun hp => absurd (show false = true from hp) Bool.false_ne_true,rfl⟩
theorem BK {mask finger moves:Nat} {led plain:Bool} {hs:Array Int} {t:SetTable} {o:Array Nat} (e:SetTable.laid mask finger moves led plain hs = some (t,o)):Up t.place ∧ t.led = led:= by
 unfold SetTable.laid at e
 cases q:SetTable.layClean mask hs with
 | none => rw [q] at e; cases e
 | some owner =>
  rw [q] at e
  injection e with e
  injection e with e1 e2
  subst e1
  refine ⟨?_,rfl⟩
  show (List.map _ _).Pairwise _
  rw [List.pairwise_map]
  rw [List.pairwise_filterMap]
  refine List.Pairwise.imp (fun {a b} hab x hx y hy => ?_) List.pairwise_lt_range
  cases q1:owner.getD a none with
  | none => rw [q1] at hx; cases hx
  | some _ =>
   cases q2:owner.getD b none with
   | none => rw [q2] at hy; cases hy
   | some _ => rw [q1] at hx; rw [q2] at hy; cases hx; cases hy; exact hab
theorem rK (t:SetTable) (es:Array (Int × Value)) (n:Nat):Tb (relayAll t es n).2.1 ∧ (relayAll t es n).2.1.led = t.led:= by
 unfold relayAll
 split
 ·rename_i t' o e
  dsimp only
  split
  ·obtain ⟨h1,h2⟩:=BK e
   exact ⟨fun _ => h1,h2⟩
  ·exact ⟨fun hp => absurd (show false = true from hp) Bool.false_ne_true,rfl⟩
 ·exact ⟨fun hp => absurd (show false = true from hp) Bool.false_ne_true,rfl⟩
def eo (p:Int × Tok):Int × Value:=(hashInt p.1,.int p.1 p.2)
def ed (e:Int × Value):Int × Tok:=match e.2 with
 | .int i t => (i,t)
 | _ => (0,0)
theorem GS (p:Int × Tok):ed (eo p) = p:=rfl
theorem ui {es:Array (Int × Value)} {l:List (Int × Tok)} (p:es.toList.Perm (l.map eo)):∃ l':List (Int × Tok),es.toList = l'.map eo ∧ l'.Perm l:= by
 refine ⟨es.toList.map ed,?_,?_⟩
 ·rw [List.map_map]
  have:es.toList.map (eo ∘ ed) = es.toList.map id:=List.map_congr_left fun x hx => by
   obtain ⟨q,_,rfl⟩:=List.mem_map.mp (p.mem_iff.mp hx)
   rfl
  rw [this,List.map_id]
 ·have:=p.map ed
  rw [List.map_map] at this
  have e:l.map (ed ∘ eo) = l:= by
   have:(ed ∘ eo) = id:=funext GS
   rw [this,List.map_id]
  rwa [e] at this
structure ff (w:World) (h:Heap) (a:Addr) (l:List (Int × Tok)) (ep:Nat) (t:SetTable):Prop where
 obj:∃ o,h.get? a = some o ∧ o.ExactSet ∧ o.data = .set (l.map eo).toArray ep t
 few:l.length < scanBound
 fits:t.fits l.length = true
 led:t.led = !w.params.followText "set-order"
 tb:Tb t
end Jt
namespace Jt
open PySem
section
variable {prog:Program} {w:World} {A:Around} {E:Value -> Shared -> Prop} {s:Shared} {a:Addr} {l:List (Int × Tok)} {ep:Nat} {t:SetTable}
theorem xr (l:List (Int × Tok)):ElemsOf (intKind prog w) (l.map eo):=fun e he => by
 obtain ⟨p,_,rfl⟩:=List.mem_map.mp he
 exact ⟨⟨p.1,by simp [eo,intKind,Value.isInt],rfl⟩,rfl⟩
theorem Ah (k:Int) (l:List (Int × Tok)):((l.map eo).findIdx? fun e => (intKind prog w).is k e.2).isSome = decide (k ∈ l.map (·.1)):= by
 rw [Bool.eq_iff_iff,decide_eq_true_eq,List.findIdx?_isSome,List.any_eq_true]
 constructor
 ·rintro ⟨e,he,hk⟩
  obtain ⟨p,hp,rfl⟩:=List.mem_map.mp he
  obtain ⟨u,eu⟩:=Value.isInt_shape (show Value.isInt k (.int p.1 p.2) = true from hk)
  injection eu with e1
  exact e1 ▸ List.mem_map.mpr ⟨p,hp,rfl⟩
 ·intro h
  obtain ⟨p,hp,rfl⟩:=List.mem_map.mp h
  exact ⟨eo p,List.mem_map_of_mem hp,by simp [eo,intKind,Value.isInt]⟩
theorem ff.store {h:Heap} {es:Array (Int × Value)} {l':List (Int × Tok)} {t':SetTable} (x:ff w h a l ep t) (he:es.toList = l'.map eo) (hn:l'.length < scanBound) (hf:t'.fits l'.length = true) (hl:t'.led = t.led) (hb:Tb t') :
  ff w (h.update a (Obj.putSet es t')) a l' (ep + 1) t':= by
 obtain ⟨o,ho,hx,hd⟩:=x.obj
 have e2:es = (l'.map eo).toArray:=by apply Array.toList_inj.mp; simpa using he
 refine ⟨⟨{ o with data:=.set es (ep + 1) t' },?_,hx,by rw [e2]⟩,hn,hf,hl.trans x.led,hb⟩
 have:=Heap.get?_update_self (Obj.putSet es t') ho (by rw [putSet_of es t' hd]; rfl)
 rwa [putSet_of es t' hd] at this
theorem m_ {es:Array (Int × Value)} {t':SetTable} {Q:Unit -> Shared -> Prop} (x:ff w s.heap a l ep t) (hz:es.size < scanBound) (h:Q () { s with heap:=s.heap.update a (Obj.putSet es t') }) :
  wpAny (model prog w) A (storeSet a es t') Q E s:= by
 obtain ⟨o,ho,_,hd⟩:=x.obj
 exact wpAny_storeSet_of ho hd h (fits_of_scanBound hz)
theorem gQ {es:Array (Int × Value)} {l':List (Int × Tok)} (h:es.toList = l'.map eo):es.size = l'.length:= by
 have:=congrArg List.length h
 simpa using this
theorem yc {k:Int} {tok:Tok} {Q:Bool -> Shared -> Prop} (x:ff w s.heap a l ep t) (hroom:l.length + 1 < scanBound)
  (h:∀ h' l' ep' t' b,Heap.SameBut a s.heap h' -> ff w h' a l' ep' t' -> (if k ∈ l.map (·.1) then l' = l else l'.Perm (l ++ [(k,tok)])) -> Q b { s with heap:=h' }) :
  wpAny (model prog w) A (setAddHashed a (.int k tok) (hashInt k)) Q E s:= by
 obtain ⟨o,ho,hx,hd⟩:=x.obj
 have hsz:(l.map eo).toArray.size = l.length:=by simp
 have hel:ElemsOf (intKind prog w) (l.map eo).toArray.toList:=by simpa using xr l
 have hft:t.fits (l.map eo).toArray.size = true:=by rw [hsz]; exact x.fits
 unfold setAddHashed setAddHashedIn
 refine wpAny_holding ?_
 refine wpAny_bind (wpAny_setState_of ho hd hft ?_)
 show wpAny _ _ (if byScan (.int k tok) (l.map eo).toArray = true then _ else _) _ _ _
 rw [if_pos (byScan_of (knd:=intKind prog w) rfl (by rw [hsz]; exact x.few) hel)]
 refine wpAny_bind ?_
 unfold setAddByScan
 refine wpAny_bind (wpAny_rule ?_)
 refine wpAny_bind (wpAny_setScan_of (knd:=intKind prog w) (k:=k) (intKind_is _ _ _ _) ho hd hft hel ?_)
 have hfi:=Ah (prog:=prog) (w:=w) k l
 rw [show (l.map eo).toArray.toList = l.map eo by simp]
 cases hr:(l.map eo).findIdx? (fun e => (intKind prog w).is k e.2) with
 | some j =>
  rw [hr] at hfi
  have hm:k ∈ l.map (·.1):=of_decide_eq_true hfi.symm
  dsimp only
  refine wpAny_pure (wpAny_pure ?_)
  have:=h s.heap l ep t false (Heap.SameBut.refl a s.heap) x (by rw [if_pos hm])
  exact this
 | none =>
  rw [hr] at hfi
  have hm:k ∉ l.map (·.1):=of_decide_eq_false hfi.symm
  dsimp only
  have p1:=layNew_perm t (l.map eo).toArray (hashInt k) (.int k tok)
  have f1:=layNew_fits t (l.map eo).toArray (hashInt k) (.int k tok)
  obtain ⟨b1,b2⟩:=vQ x.tb (l.map eo).toArray (hashInt k) (.int k tok)
  generalize hL:layNew t (l.map eo).toArray (hashInt k) (.int k tok) = L at p1 f1 b1 b2 ⊢
  obtain ⟨es1,t1,dm,gv⟩:=L
  dsimp only at p1 f1 b1 b2 ⊢
  rw [Array.toList_push,show (l.map eo).toArray.toList ++ [(hashInt k,Value.int k tok)] = (l ++ [(k,tok)]).map eo by simp [eo]] at p1
  obtain ⟨l1,e1,q1⟩:=ui p1
  have n1:l1.length = l.length + 1:=by rw [q1.length_eq]; simp
  have z1:=gQ e1
  have fin:∀ h' l' ep' t',Heap.SameBut a s.heap h' -> ff w h' a l' ep' t' -> l'.Perm l1 -> Q true { s with heap:=h' }:=fun h' l' ep' t' sb x' p' =>
   h h' l' ep' t' true sb x' (by rw [if_neg hm]; exact p'.trans q1)
  have gw:∀ (b:Bool) {s₁:Shared} {Q':Unit -> Shared -> Prop},Q' () s₁ -> wpAny (model prog w) A (match b with | true => rule "set.scan.the-table-gave-way" | false => pure ()) Q' E s₁:=fun b _ _ hq => by
   cases b
   ·exact wpAny_pure hq
   ·exact wpAny_rule hq
  refine wpAny_bind (gw gv ?_)
  have x1:ff w (s.heap.update a (Obj.putSet es1 t1)) a l1 (ep + 1) t1:=x.store e1 (by omega) (by rw [<- z1]; exact f1) b2 b1
  have sb1:=Heap.SameBut.update s.heap a (Obj.putSet es1 t1)
  have tl:∀ (g:Bool -> Sem Unit) (R:Option Bool -> Shared -> Prop),(∀ (b:Bool) {s₁:Shared} {Q':Unit -> Shared -> Prop},Q' () s₁ -> wpAny (model prog w) A (g b) Q' E s₁) ->
    (∀ h' l' ep' t',Heap.SameBut a s.heap h' -> ff w h' a l' ep' t' -> l'.Perm l1 -> R (some true) { s with heap:=h' }) ->
    wpAny (model prog w) A (storeSet a es1 t1 >>= fun _ => if (!dm && t1.tooFull) = true then (g (relayAll t1 es1 (SetTable.grown es1.size)).2.2 >>= fun _ =>
     storeSet a (relayAll t1 es1 (SetTable.grown es1.size)).1 (relayAll t1 es1 (SetTable.grown es1.size)).2.1 >>= fun _ => pure (some true)) else pure (some true)) R E s:=fun g R hg fin => by
   refine wpAny_bind (m_ x (by rw [z1]; omega) ?_)
   by_cases hfull:(!dm && t1.tooFull) = true
   ·rw [if_pos hfull]
    have p2:=relayAll_perm t1 es1 (SetTable.grown es1.size)
    have f2:=relayAll_fits t1 es1 (SetTable.grown es1.size)
    obtain ⟨c1,c2⟩:=rK t1 es1 (SetTable.grown es1.size)
    generalize hR:relayAll t1 es1 (SetTable.grown es1.size) = R at p2 f2 c1 c2 ⊢
    obtain ⟨es2,t2,gv2⟩:=R
    dsimp only at p2 f2 c1 c2 ⊢
    rw [e1] at p2
    obtain ⟨l2,e2,q2⟩:=ui p2
    have n2:l2.length = l1.length:=q2.length_eq
    have z2:=gQ e2
    refine wpAny_bind (hg gv2 ?_)
    refine wpAny_bind (m_ (s:={ s with heap:=s.heap.update a (Obj.putSet es1 t1) }) x1 (by rw [z2]; omega) (wpAny_pure ?_))
    exact fin _ l2 _ t2 (sb1.trans (Heap.SameBut.update _ a _)) (x1.store e2 (by omega) (by rw [<- z2]; exact f2) c2 c1) q2
   ·rw [if_neg hfull]
    exact wpAny_pure (fin _ l1 _ t1 sb1 x1 (List.Perm.refl _))
  split
  ·refine wpAny_bind (wpAny_pure ?_)
   exact tl _ _ gw fun h' l' ep' t' c1 c2 c3 => wpAny_pure (fin h' l' ep' t' c1 c2 c3)
  ·refine wpAny_bind (wpAny_pure ?_)
   exact tl _ _ gw fun h' l' ep' t' c1 c2 c3 => wpAny_pure (fin h' l' ep' t' c1 c2 c3)
end
end Jt
namespace Jt
open PySem
section
variable {prog:Program} {w:World} {A:Around} {E:Value -> Shared -> Prop} {s:Shared} {R:Result -> Shared -> Prop} {I:Addr} {fp wr:List Addr} {n:Nat} {P:Nat -> Value -> Prop} {St:Nat -> Heap -> Prop}
theorem ff.at {h h':Heap} {a:Addr} {l:List (Int × Tok)} {ep:Nat} {t:SetTable} (x:ff w h a l ep t) (k:∀ o,h.get? a = some o -> h'.get? a = some o):ff w h' a l ep t:= by
 obtain ⟨o,ho,hr⟩:=x.obj
 exact ⟨⟨o,k o ho,hr⟩,x.few,x.fits,x.led,x.tb⟩
theorem oY (W:Walks prog w A.in1 I fp wr n P St) (S:Addr) (hSf:S ∉ fp) (val:Nat -> Int) (hval:∀ i v,P i v -> ∃ t,v = .int (val i) t) (hb:n + 1 < scanBound) :
  ∀ (k i:Nat) (h:Heap) (tk:Nat) (l:List (Int × Tok)) (ep:Nat) (t:SetTable),n - i = k -> i ≤ n -> St i h -> ff w h S l ep t -> l.length ≤ i -> (l.map (·.1)).Nodup -> (∀ z,z ∈ l.map (·.1) ↔ ∃ j,j < i ∧ val j = z) ->
   (∀ h' tk' l' ep' t',(∀ b o,b ∉ S :: wr -> h.get? b = some o -> h'.get? b = some o) -> ff w h' S l' ep' t' -> (l'.map (·.1)).Nodup -> (∀ z,z ∈ l'.map (·.1) ↔ ∃ j,j < n ∧ val j = z) -> R (.ok (.ret .none)) { s with heap:=h',toks:=tk' }) ->
   codeAny (model prog w) A (.builtin "set.update.loop" ⟨[.ref S,.ref I],[]⟩) R { s with heap:=h,toks:=tk }:= by
 have hSw:S ∉ wr:=fun z => hSf (W.sub _ z)
 intro k
 induction k with
 | zero =>
  intro i h tk l ep t hk hi st x hl nd mem fin
  have ei:i = n:=by omega
  subst ei
  refine codeAny_builtin PyProof.Rows.F.entry_set_update_loop ?_
  rw [Around.under_plainId PyProof.Rows.F.plain_set_update_loop _]
  show wpAny (model prog w) A.in1 (pyNext (.ref I) >>= _) _ _ _
  refine wpAny_bind (W.done { s with heap:=h,toks:=tk } _ _ st fun h' tk' kp => ?_)
  exact wpAny_pure (fin h' tk' l ep t (fun b o hb' e => kp b o (fun z => hb' (List.mem_cons_of_mem _ z)) e) (x.at fun o e => kp S o hSw e) nd mem)
 | succ k ih =>
  intro i h tk l ep t hk hi st x hl nd mem fin
  have hlt:i < n:=by omega
  refine codeAny_builtin PyProof.Rows.F.entry_set_update_loop ?_
  rw [Around.under_plainId PyProof.Rows.F.plain_set_update_loop _]
  show wpAny (model prog w) A.in1 (pyNext (.ref I) >>= _) _ _ _
  refine wpAny_bind (W.item i { s with heap:=h,toks:=tk } _ _ hlt st fun v h1 tk1 hP st1 kp => ?_)
  obtain ⟨u,rfl⟩:=hval i v hP
  have x1:ff w h1 S l ep t:=x.at fun o e => kp S o hSw e
  show wpAny (model prog w) A.in1 (holding [Value.int (val i) u] (setAdd S (.int (val i) u)) >>= _) _ _ _
  refine wpAny_bind (wpAny_holding ?_)
  unfold setAdd
  refine wpAny_holding ?_
  refine wpAny_bind ((intKind prog w).pyHash (k:=val i) (intKind_is _ _ _ _) ?_)
  refine yc (s:={ s with heap:=h1,toks:=tk1 + 1 }) x1 (by omega) fun h2 l2 ep2 t2 b sb x2 hif => ?_
  have hm2:(∀ z,z ∈ l2.map (·.1) ↔ ∃ j,j < i + 1 ∧ val j = z) ∧ (l2.map (·.1)).Nodup ∧ l2.length ≤ i + 1:= by
   by_cases hm:val i ∈ l.map (·.1)
   ·rw [if_pos hm] at hif
    subst hif
    refine ⟨fun z => (mem z).trans ⟨fun ⟨j,h1,h2⟩ => ⟨j,by omega,h2⟩,fun ⟨j,h1,h2⟩ => ?_⟩,nd,by omega⟩
    by_cases hj:j < i
    ·exact ⟨j,hj,h2⟩
    ·have:j = i:=by omega
     subst this
     exact (mem z).mp (h2 ▸ hm)
   ·rw [if_neg hm] at hif
    have pm:(l2.map (·.1)).Perm (l.map (·.1) ++ [val i]):=by simpa using hif.map (·.1)
    refine ⟨fun z => ?_,?_,?_⟩
    ·rw [pm.mem_iff,List.mem_append,mem z,List.mem_singleton]
     constructor
     ·rintro (⟨j,h1,h2⟩ | e)
      ·exact ⟨j,by omega,h2⟩
      ·exact ⟨i,by omega,e.symm⟩
     ·rintro ⟨j,h1,h2⟩
      by_cases hj:j < i
      ·exact .inl ⟨j,hj,h2⟩
      ·have:j = i:=by omega
       subst this
       exact .inr h2.symm
    ·rw [pm.nodup_iff,List.nodup_append]
     refine ⟨nd,by simp,fun p hp q hq e => ?_⟩
     rw [List.mem_singleton] at hq
     subst hq; subst e
     exact hm hp
    ·rw [hif.length_eq]; simp; omega
  refine wpAny_pure ⟨plainId_quiet PyProof.Rows.F.plain_set_update_loop _,ih (i + 1) h2 (tk1 + 1) l2 ep2 t2 (by omega) hlt (W.frame _ h1 h2 st1 fun b hb' o e => ?_) x2 hm2.2.2 hm2.2.1 hm2.1 fun h' tk' l' ep' t' c1 c2 c3 c4 => fin h' tk' l' ep' t' (fun b o hb' e => ?_) c2 c3 c4⟩
  ·rw [sb.2 b fun z => hSf (z ▸ hb')]; exact e
  ·refine c1 b o hb' ?_
   rw [sb.2 b fun z => hb' (z ▸ List.mem_cons_self)]
   exact kp b o (fun z => hb' (List.mem_cons_of_mem _ z)) e
theorem mq {h:Heap} {S:Addr} (e:h.get? S = some { cls:=.type "set",dict:=none,data:=.set #[] 0 (.fresh 0 0 (!w.params.followText "set-order")) }):ff w h S [] 0 (.fresh 0 0 (!w.params.followText "set-order")) :=
 ⟨⟨_,e,⟨rfl,rfl,rfl⟩,rfl⟩,by decide,by rfl,rfl,fun _ => List.Pairwise.nil⟩
theorem kC (v:Value) {Q:Value -> Shared -> Prop} (h:Q (.ref s.heap.objs.size) { s with heap:=s.heap.push { cls:=.type "set",dict:=none,data:=.set #[] 0 (.fresh 0 0 (!w.params.followText "set-order")) } }) :
  codeAny (model prog w) A (.call (.builtin "set.__new__") ⟨[.type "set",v],[]⟩) (wants Q E) s:= by
 refine codeAny_of_tree ?_
 show wpAny (model prog w) A.in1 (do checkBuiltinCall "set.__new__" ⟨[.type "set",v],[]⟩; again (.builtin "set.__new__" ⟨[.type "set",v],[]⟩)) _ _ s
 refine wpAny_bind (wpAny_of_eq (F.newCall_set_1 v) (wpAny_pure ⟨plainId_quiet F.plain_set_new _,codeAny_builtin F.entry_set_new ?_⟩))
 rw [Around.under_plainId F.plain_set_new _]
 have hsub:=sub_set_self
 obtain ⟨hp,g,d,tk,os⟩:=s
 unfold Builtin.«set.__new__» Builtin.Frozenset.newClass
 dsimp only
 wp_walk
 refine wpAny_askSetting (wpAny_pure ?_)
 dsimp only
 simp only [newObj]
 exact wpAny_bind (wpAny_alloc (wpAny_pure (wpAny_pure h)))
set_option maxHeartbeats 8000000 in
theorem vK {l:Addr} {items:Array Value} {ns:List Int} {Q:Value -> Shared -> Prop} (hh:A.handled = none) (hl:s.heap.IsList l items) (hi:PyProof.Rows.IntsAre items.toList ns) (hb:items.size + 1 < scanBound)
  (h:∀ (h':Heap) (tk:Nat) (ls:List (Int × Tok)) (ep:Nat) (t:SetTable),ff w h' s.heap.objs.size ls ep t -> (ls.map (·.1)).Nodup -> (∀ z,z ∈ ls.map (·.1) ↔ z ∈ ns) ->
   (∀ b o,s.heap.get? b = some o -> h'.get? b = some o) -> Q (.ref s.heap.objs.size) { s with heap:=h',toks:=tk }) :
  wpAny (model prog w) A (call (.type "set") [.ref l]) Q E s:= by
 obtain ⟨c,tl,hmro⟩:=F.called_set.mro
 have hmade:=F.called_set.made
 have hsub:=F.called_set.sub
 refine wpAny_call (codeAny_of_tree (?_:wpAny _ _ (callAny (.type "set") _) _ _ _))
 refine wpAny_pure ⟨Code.quiet_builtin _ (by decide +kernel),codeAny_builtin F.entry_type_call ?_⟩
 rw [Around.under_plain (weight_type_call_type "set" [.ref l] []) rfl]
 have h1:=F.called_set.notType
 have h2:=F.called_set.canCreate
 have hct:=F.typeCall_set_1 (.ref l)
 repeat (any_goals (first | assumption | wp_step))
 refine codeAny_mono (kC (.ref l) (E:=E) (Q:=fun obj s₁ => obj = .ref s.heap.objs.size ∧ s₁ = { s with heap:=s.heap.push { cls:=.type "set",dict:=none,data:=.set #[] 0 (.fresh 0 0 (!w.params.followText "set-order")) } }) ⟨rfl,rfl⟩) fun r s₁ hr => ?_
 cases r with
 | error e => exact hr
 | ok fl =>
  cases fl with
  | ret obj =>
   obtain ⟨rfl,rfl⟩:=hr
   have hS:(s.heap.push ({ cls:=.type "set",dict:=none,data:=.set #[] 0 (.fresh 0 0 (!w.params.followText "set-order")) }:Obj)).get? s.heap.objs.size = some ({ cls:=.type "set",dict:=none,data:=.set #[] 0 (.fresh 0 0 (!w.params.followText "set-order")) }:Obj):=Heap.get?_push_size _ rfl
   have hT:Shared.TypeIs { s with heap:=s.heap.push ({ cls:=.type "set",dict:=none,data:=.set #[] 0 (.fresh 0 0 (!w.params.followText "set-order")) }:Obj) } (.ref s.heap.objs.size) "set":=⟨_,hS,rfl⟩
   have hli:=F.called_set.init.lookup
   have hbi:=F.called_set.init.bind (.ref s.heap.objs.size)
   repeat (any_goals (first | assumption | wp_step))
   refine codeAny_mono (codeAny_call_builtin (R:=wants (fun r s₂ => r = .none ∧ ∃ h' tk ls ep t,s₂ = { s with heap:=h',toks:=tk } ∧ ff w h' s.heap.objs.size ls ep t ∧ (ls.map (·.1)).Nodup ∧ (∀ z,z ∈ ls.map (·.1) ↔ z ∈ ns) ∧
     (∀ b o,s.heap.get? b = some o -> h'.get? b = some o)) E) F.called_set.init.plain F.entry_set_init (check_set_init_1 hT ?_)) fun r₂ s₂ hr₂ => ?_
   ·obtain ⟨⟨ocls,odict,odata,oslots⟩,hol,hcl,nl,hdl⟩:=hl
    simp only at hcl hdl
    subst hcl; subst hdl
    have hol':=Heap.get?_push_of_some ({ cls:=.type "set",dict:=none,data:=.set #[] 0 (.fresh 0 0 (!w.params.followText "set-order")) }:Obj) hol
    have hsls:=F.sub_list_set
    have hslf:=F.sub_list_frozenset
    have hne:(Value.type "list" == Value.type "dict") = false:=by decide
    have hl1:(s.heap.push ({ cls:=.type "set",dict:=none,data:=.set #[] 0 (.fresh 0 0 (!w.params.followText "set-order")) }:Obj)).IsList l items:=⟨_,hol',rfl,nl,rfl⟩
    unfold Builtin.«set.__init__» noKeywords Builtin.Frozenset.updateFrom
    generalize hPI:pyIter = PI
    wp_walk
    subst hPI
    refine wpAny_pyIter_list (s:={ s with heap:=s.heap.push ({ cls:=.type "set",dict:=none,data:=.set #[] 0 (.fresh 0 0 (!w.params.followText "set-order")) }:Obj) }) hl1 ?_
    refine wpAny_bind (wpAny_runValue ?_)
    have hlS:l < s.heap.objs.size:=Heap.lt_size hol
    have hh3:A.in1.in1.in1.handled = none:=by simp [hh]
    have hneI:l ≠ (s.heap.push ({ cls:=.type "set",dict:=none,data:=.set #[] 0 (.fresh 0 0 (!w.params.followText "set-order")) }:Obj)).objs.size:=by rw [Heap.size_push]; exact Nat.ne_of_lt (Nat.lt_succ_of_lt hlS)
    have hSf:s.heap.objs.size ∉ [(s.heap.push ({ cls:=.type "set",dict:=none,data:=.set #[] 0 (.fresh 0 0 (!w.params.followText "set-order")) }:Obj)).objs.size,l]:= by
     rw [Heap.size_push]
     intro hm
     rcases List.mem_cons.mp hm with e | hm
     ·exact Nat.ne_of_lt (Nat.lt_succ_self _) e
     ·exact Nat.ne_of_gt hlS (List.mem_singleton.mp hm)
    have hval:∀ (i:Nat) (v:Value),items[i]? = some v -> ∃ t,v = .int ((fun i => ns.getD i 0) i) t:=fun i v hv => PyProof.Rows.IntsAre.int_at hi i v (by rw [Array.getElem?_toList]; exact hv)
    have hln:ns.length = items.size:=by have:=hi.length; simpa using this.symm
    refine oY (Walks.list hh3 _ l hneI items) s.heap.objs.size hSf (fun i => ns.getD i 0) hval hb (items.size - 0) 0 _ s.toks [] 0 (.fresh 0 0 (!w.params.followText "set-order")) (by omega) (Nat.zero_le _) ⟨⟨_,Heap.get?_push_size _ rfl,rfl,rfl⟩,hl1.push _⟩
     (mq (Heap.get?_push_of_some _ hS)) (Nat.zero_le _) List.nodup_nil (fun z => ⟨fun hz => (by cases hz),fun ⟨j,hj,_⟩ => absurd hj (Nat.not_lt_zero _)⟩) fun h' tk' l' ep' t' kp x' nd' mem' => ?_
    refine wpAny_pure (?_:wpAny _ _ (ret Value.none) _ _ _)
    refine wpAny_pure ⟨rfl,h',tk',l',ep',t',rfl,x',nd',fun z => (mem' z).trans ⟨fun ⟨j,hj,e⟩ => ?_,fun hz => ?_⟩,fun b o e => ?_⟩
    ·have hj':j < ns.length:=by omega
     have:ns.getD j 0 = ns[j]:=by simp [hj']
     exact e ▸ this ▸ List.getElem_mem hj'
    ·obtain ⟨j,hj,e⟩:=List.getElem_of_mem hz
     exact ⟨j,by omega,by simp [hj,e]⟩
    ·have hb':=Heap.lt_size e
     refine kp b o (fun hm => ?_) (Heap.get?_push_of_some _ (Heap.get?_push_of_some _ e))
     rcases List.mem_cons.mp hm with e' | hm
     ·exact Nat.ne_of_lt hb' e'
     ·have:=List.mem_singleton.mp hm
      rw [Heap.size_push] at this
      exact Nat.ne_of_lt (Nat.lt_succ_of_lt hb') this
   ·cases r₂ with
    | error e => exact hr₂
    | ok fl₂ =>
     cases fl₂ with
     | ret r =>
      obtain ⟨rfl,h',tk,ls,ep,t,rfl,x',nd',mem',kp⟩:=hr₂
      repeat (any_goals (first | assumption | wp_step))
      exact h _ _ ls ep t x' nd' mem' kp
     | _ => exact hr₂.elim
  | _ => exact hr.elim
theorem qY:isSubtype (.type "tuple") (.type "set") = pure false:=by rw [isSubtype_type]; kernel_rfl
theorem rl:isSubtype (.type "tuple") (.type "frozenset") = pure false:=by rw [isSubtype_type]; kernel_rfl
set_option maxHeartbeats 8000000 in
theorem v3 {l:Addr} {items:Array Value} {ns:List Int} {Q:Value -> Shared -> Prop} (hh:A.handled = none) (hl:s.heap.IsTuple l items) (hi:PyProof.Rows.IntsAre items.toList ns) (hb:items.size + 1 < scanBound)
  (h:∀ (h':Heap) (tk:Nat) (ls:List (Int × Tok)) (ep:Nat) (t:SetTable),ff w h' s.heap.objs.size ls ep t -> (ls.map (·.1)).Nodup -> (∀ z,z ∈ ls.map (·.1) ↔ z ∈ ns) ->
   (∀ b o,s.heap.get? b = some o -> h'.get? b = some o) -> Q (.ref s.heap.objs.size) { s with heap:=h',toks:=tk }) :
  wpAny (model prog w) A (call (.type "set") [.ref l]) Q E s:= by
 obtain ⟨c,tl,hmro⟩:=F.called_set.mro
 have hmade:=F.called_set.made
 have hsub:=F.called_set.sub
 refine wpAny_call (codeAny_of_tree (?_:wpAny _ _ (callAny (.type "set") _) _ _ _))
 refine wpAny_pure ⟨Code.quiet_builtin _ (by decide +kernel),codeAny_builtin F.entry_type_call ?_⟩
 rw [Around.under_plain (weight_type_call_type "set" [.ref l] []) rfl]
 have h1:=F.called_set.notType
 have h2:=F.called_set.canCreate
 have hct:=F.typeCall_set_1 (.ref l)
 repeat (any_goals (first | assumption | wp_step))
 refine codeAny_mono (kC (.ref l) (E:=E) (Q:=fun obj s₁ => obj = .ref s.heap.objs.size ∧ s₁ = { s with heap:=s.heap.push { cls:=.type "set",dict:=none,data:=.set #[] 0 (.fresh 0 0 (!w.params.followText "set-order")) } }) ⟨rfl,rfl⟩) fun r s₁ hr => ?_
 cases r with
 | error e => exact hr
 | ok fl =>
  cases fl with
  | ret obj =>
   obtain ⟨rfl,rfl⟩:=hr
   have hS:(s.heap.push ({ cls:=.type "set",dict:=none,data:=.set #[] 0 (.fresh 0 0 (!w.params.followText "set-order")) }:Obj)).get? s.heap.objs.size = some ({ cls:=.type "set",dict:=none,data:=.set #[] 0 (.fresh 0 0 (!w.params.followText "set-order")) }:Obj):=Heap.get?_push_size _ rfl
   have hT:Shared.TypeIs { s with heap:=s.heap.push ({ cls:=.type "set",dict:=none,data:=.set #[] 0 (.fresh 0 0 (!w.params.followText "set-order")) }:Obj) } (.ref s.heap.objs.size) "set":=⟨_,hS,rfl⟩
   have hli:=F.called_set.init.lookup
   have hbi:=F.called_set.init.bind (.ref s.heap.objs.size)
   repeat (any_goals (first | assumption | wp_step))
   refine codeAny_mono (codeAny_call_builtin (R:=wants (fun r s₂ => r = .none ∧ ∃ h' tk ls ep t,s₂ = { s with heap:=h',toks:=tk } ∧ ff w h' s.heap.objs.size ls ep t ∧ (ls.map (·.1)).Nodup ∧ (∀ z,z ∈ ls.map (·.1) ↔ z ∈ ns) ∧
     (∀ b o,s.heap.get? b = some o -> h'.get? b = some o)) E) F.called_set.init.plain F.entry_set_init (check_set_init_1 hT ?_)) fun r₂ s₂ hr₂ => ?_
   ·obtain ⟨⟨ocls,odict,odata,oslots⟩,hol,hcl,nl,hdl⟩:=hl
    simp only at hcl hdl
    subst hcl; subst hdl
    have hol':=Heap.get?_push_of_some ({ cls:=.type "set",dict:=none,data:=.set #[] 0 (.fresh 0 0 (!w.params.followText "set-order")) }:Obj) hol
    have hsls:=qY
    have hslf:=rl
    have hne:(Value.type "tuple" == Value.type "dict") = false:=by decide
    have hl1:(s.heap.push ({ cls:=.type "set",dict:=none,data:=.set #[] 0 (.fresh 0 0 (!w.params.followText "set-order")) }:Obj)).IsTuple l items:=⟨_,hol',rfl,nl,rfl⟩
    unfold Builtin.«set.__init__» noKeywords Builtin.Frozenset.updateFrom
    generalize hPI:pyIter = PI
    wp_walk
    subst hPI
    refine wpAny_pyIter_tuple (s:={ s with heap:=s.heap.push ({ cls:=.type "set",dict:=none,data:=.set #[] 0 (.fresh 0 0 (!w.params.followText "set-order")) }:Obj) }) hl1 ?_
    refine wpAny_bind (wpAny_runValue ?_)
    have hlS:l < s.heap.objs.size:=Heap.lt_size hol
    have hh3:A.in1.in1.in1.handled = none:=by simp [hh]
    have hneI:l ≠ (s.heap.push ({ cls:=.type "set",dict:=none,data:=.set #[] 0 (.fresh 0 0 (!w.params.followText "set-order")) }:Obj)).objs.size:=by rw [Heap.size_push]; exact Nat.ne_of_lt (Nat.lt_succ_of_lt hlS)
    have hSf:s.heap.objs.size ∉ [(s.heap.push ({ cls:=.type "set",dict:=none,data:=.set #[] 0 (.fresh 0 0 (!w.params.followText "set-order")) }:Obj)).objs.size,l]:= by
     rw [Heap.size_push]
     intro hm
     rcases List.mem_cons.mp hm with e | hm
     ·exact Nat.ne_of_lt (Nat.lt_succ_self _) e
     ·exact Nat.ne_of_gt hlS (List.mem_singleton.mp hm)
    have hval:∀ (i:Nat) (v:Value),items[i]? = some v -> ∃ t,v = .int ((fun i => ns.getD i 0) i) t:=fun i v hv => PyProof.Rows.IntsAre.int_at hi i v (by rw [Array.getElem?_toList]; exact hv)
    have hln:ns.length = items.size:=by have:=hi.length; simpa using this.symm
    refine oY (Walks.tuple hh3 _ l hneI items) s.heap.objs.size hSf (fun i => ns.getD i 0) hval hb (items.size - 0) 0 _ s.toks [] 0 (.fresh 0 0 (!w.params.followText "set-order")) (by omega) (Nat.zero_le _) ⟨⟨_,Heap.get?_push_size _ rfl,rfl,rfl⟩,hl1.push _⟩
     (mq (Heap.get?_push_of_some _ hS)) (Nat.zero_le _) List.nodup_nil (fun z => ⟨fun hz => (by cases hz),fun ⟨j,hj,_⟩ => absurd hj (Nat.not_lt_zero _)⟩) fun h' tk' l' ep' t' kp x' nd' mem' => ?_
    refine wpAny_pure (?_:wpAny _ _ (ret Value.none) _ _ _)
    refine wpAny_pure ⟨rfl,h',tk',l',ep',t',rfl,x',nd',fun z => (mem' z).trans ⟨fun ⟨j,hj,e⟩ => ?_,fun hz => ?_⟩,fun b o e => ?_⟩
    ·have hj':j < ns.length:=by omega
     have:ns.getD j 0 = ns[j]:=by simp [hj']
     exact e ▸ this ▸ List.getElem_mem hj'
    ·obtain ⟨j,hj,e⟩:=List.getElem_of_mem hz
     exact ⟨j,by omega,by simp [hj,e]⟩
    ·have hb':=Heap.lt_size e
     refine kp b o (fun hm => ?_) (Heap.get?_push_of_some _ (Heap.get?_push_of_some _ e))
     rcases List.mem_cons.mp hm with e' | hm
     ·exact Nat.ne_of_lt hb' e'
     ·have:=List.mem_singleton.mp hm
      rw [Heap.size_push] at this
      exact Nat.ne_of_lt (Nat.lt_succ_of_lt hb') this
   ·cases r₂ with
    | error e => exact hr₂
    | ok fl₂ =>
     cases fl₂ with
     | ret r =>
      obtain ⟨rfl,h',tk,ls,ep,t,rfl,x',nd',mem',kp⟩:=hr₂
      repeat (any_goals (first | assumption | wp_step))
      exact h _ _ ls ep t x' nd' mem' kp
     | _ => exact hr₂.elim
  | _ => exact hr.elim
end
end Jt
namespace Jt
open PySem
section
variable {prog:Program} {w:World} {A:Around} {E:Value -> Shared -> Prop} {s:Shared} {I S:Addr} {l:List (Int × Tok)} {ep:Nat} {t:SetTable} {i:Nat} {f0:Value}
theorem wU {α:Type} {Q:α -> Shared -> Prop} (hh:A.handled = none) (hE:∀ h' e,(∀ b o,s.heap.get? b = some o -> h'.get? b = some o) -> (∃ o,h'.get? e = some o ∧ o.cls = .type "StopIteration") -> E (.ref e) { s with heap:=h' }) :
  wpAny (model prog w) A (newExc (.type "StopIteration") [] >>= fun x => (raiseNew x:Sem α)) Q E s:= by
 refine wpAny_bind ?_
 simp only [newExc,newTuple]
 refine wpAny_bind (wpAny_newObj_type ?_ (by size_fits))
 refine wpAny_bind (m:=firstArgMember _ _) (wpAny_of_eq (a:=Value.none) (by first | rfl | (simp only [firstArgMember]; rfl)) ?_)
 refine wpAny_newObj_type ?_ (by size_fits)
 simp only [raiseNew]
 refine wpAny_bind (wpAny_handled ?_)
 rw [hh]
 refine wpAny_bind (wpAny_pure (wpAny_throw ?_))
 exact hE _ _ (fun b o e => Heap.get?_push_of_some _ (Heap.get?_push_of_some _ e)) ⟨_,Heap.get?_push_size _ rfl,rfl⟩
end
end Jt
namespace Jt
open PySem
section
variable {prog:Program} {w:World} {A:Around} {E:Value -> Shared -> Prop} {s:Shared} {I S:Addr} {l:List (Int × Tok)} {ep:Nat} {t:SetTable} {i:Nat} {f0:Value}
end
end Jt
namespace Jt
open PySem
section
variable {prog:Program} {w:World} {A:Around} {E:Value -> Shared -> Prop} {s:Shared} {I S:Addr} {l:List (Int × Tok)} {ep:Nat} {t:SetTable} {i:Nat} {f0:Value}
end
end Jt
namespace Jt
open PySem
section
variable {prog:Program} {w:World} {A:Around} {E:Value -> Shared -> Prop} {s:Shared} {I S:Addr} {l:List (Int × Tok)} {ep:Nat} {t:SetTable}
theorem qW {v:Value} {ns:List Int} {Q:Value -> Shared -> Prop}
  (hc:∀ (A':Around) (Q':List Value -> Shared -> Prop) (E':Value -> Shared -> Prop),(A'.handled = A.handled) -> (∀ (vs:List Value) (ms:List Int) (h':Heap) (tk:Nat) (d:Drawn),PyProof.Rows.IntsAre vs ms -> ms.Perm ns -> (∀ b o,s.heap.get? b = some o -> h'.get? b = some o) -> Q' vs { s with heap:=h',toks:=tk,drawn:=d }) ->
   wpAny (model prog w) A' (collect v) Q' E' s) (h64:ns.length < 64)
  (h:∀ (h1 h':Heap) (tk:Nat) (d:Drawn) (out:List Value) (ms:List Int) (e:Nat),(∀ b o,s.heap.get? b = some o -> h1.get? b = some o) -> (∀ b o,h1.get? b = some o -> h'.get? b = some o) -> h'.get? h1.objs.size = some { cls:=.type "list",data:=.seq out.toArray e } ->
   PyProof.Rows.IntsAre out ms -> ms.Perm ns -> ms.Pairwise (· ≤ ·) -> Q (.ref h1.objs.size) { s with heap:=h',toks:=tk,drawn:=d }) :
  wpAny (model prog w) A (call (.builtin "sorted") [v]) Q E s:= by
 refine Calls.call_function_entry PyProof.Rows.kind_sorted PyProof.Rows.plain_sorted PyProof.Rows.entry_sorted (PyProof.Rows.args_sorted1 _) ?_
 unfold Builtin.«sorted»
 refine wpAny_bind (m:=checkCount "sorted" 1 1 _) (wpAny_pure ?_)
 refine wpAny_bind (hc _ _ _ (by simp) fun vs ms h1 tk d hi pm kp => ?_)
 have hl:vs.length = ns.length:=by rw [hi.length,pm.length_eq]
 refine wpAny_bind (wpAny_newList ?_ (by rw [hl,sizeLine_eq]; omega))
 have g1:(h1.push (PyProof.Rows.seqObj "list" vs.toArray 0)).get? h1.objs.size = some (PyProof.Rows.seqObj "list" vs.toArray 0):=Heap.get?_push_size _ rfl
 refine wpAny_bind (wpAny_holding (wpAny_call_entry PyProof.Rows.slot_list_sort ⟨_,g1,rfl⟩ PyProof.Rows.entry_list_sort (PyProof.Rows.list_sort_tree (s:={ s with heap:=h1.push (PyProof.Rows.seqObj "list" vs.toArray 0),toks:=tk,drawn:=d }) g1 hi (by omega) fun out ms' a1 a2 a3 => ⟨_,rfl,?_⟩) (PyProof.Rows.args_list_sort _)))
 obtain ⟨e,he⟩:=PyProof.Rows.sortedHeap_at (out:=out) g1
 refine wpAny_pure ⟨_,rfl,h h1 _ tk d out.toList ms' e kp (fun b o eb => ?_) (by simpa [PyProof.Rows.seqObj] using he) a1 (a2.trans pm) a3⟩
 have hb:=Heap.lt_size eb
 show (PyProof.Rows.sortedHeap (h1.push (PyProof.Rows.seqObj "list" vs.toArray 0)) h1.objs.size vs out).get? b = some o
 rw [PyProof.Rows.sortedHeap_old (Nat.ne_of_lt hb) (by rw [Heap.size_push]; exact Nat.lt_succ_of_lt hb)]
 exact Heap.get?_push_of_some _ eb
end
end Jt
namespace Jt
open PySem
def ka (b:Bool) (h:Heap) (q:Addr) (xs:Array Value):Prop:=match b with
 | true => h.IsTuple q xs
 | false => h.IsList q xs
def kM (b:Bool) (h:Heap) (it q:Addr) (k:Nat):Prop:=match b with
 | true => h.IsTupleIter it q k
 | false => h.IsListIter it q k
def eN (b:Bool) (q:Addr):Obj:={ cls:=.type (if b then "tuple_iterator" else "list_iterator"),data:=.fields #[.ref q,.int 0 0] }
section
variable {prog:Program} {w:World} {A:Around} {E:Value -> Shared -> Prop} {s:Shared} {b:Bool} {it q:Addr} {k:Nat} {xs:Array Value}
theorem ka.at {h h':Heap} (x:ka b h q xs) (e:∀ o,h.get? q = some o -> h'.get? q = some o):ka b h' q xs:= by
 cases b with
 | true => obtain ⟨o,ho,r⟩:=x; exact ⟨o,e o ho,r⟩
 | false => obtain ⟨o,ho,r⟩:=x; exact ⟨o,e o ho,r⟩
theorem kM.at {h h':Heap} (x:kM b h it q k) (e:∀ o,h.get? it = some o -> h'.get? it = some o):kM b h' it q k:= by
 cases b with
 | true => obtain ⟨o,ho,r⟩:=x; exact ⟨o,e o ho,r⟩
 | false => obtain ⟨o,ho,r⟩:=x; exact ⟨o,e o ho,r⟩
theorem kM.lt {h:Heap} (x:kM b h it q k):it < h.objs.size:= by
 cases b with
 | true => obtain ⟨o,ho,r⟩:=x; exact Heap.lt_size ho
 | false => obtain ⟨o,ho,r⟩:=x; exact Heap.lt_size ho
theorem ka.lt {h:Heap} (x:ka b h q xs):q < h.objs.size:= by
 cases b with
 | true => obtain ⟨o,ho,r⟩:=x; exact Heap.lt_size ho
 | false => obtain ⟨o,ho,r⟩:=x; exact Heap.lt_size ho
theorem jK {Q:Value -> Shared -> Prop} (x:ka b s.heap q xs) (h:Q (.ref s.heap.objs.size) { s with heap:=s.heap.push (eN b q) }):wpAny (model prog w) A (pyIter (.ref q)) Q E s:= by
 cases b with
 | true => exact wpAny_pyIter_tuple x h
 | false => exact wpAny_pyIter_list x h
theorem kM.new {h:Heap}:kM b (h.push (eN b q)) h.objs.size q 0:= by
 cases b with
 | true => exact ⟨_,Heap.get?_push_size _ rfl,rfl,rfl⟩
 | false => exact ⟨_,Heap.get?_push_size _ rfl,rfl,rfl⟩
theorem gz {x:Value} {Q:Value -> Shared -> Prop} (hi:kM b s.heap it q k) (hq:ka b s.heap q xs) (hx:xs[k]? = some x) (h:∀ h',kM b h' it q (k + 1) -> Heap.SameBut it s.heap h' -> Q x { s with heap:=h' }) :
  wpAny (model prog w) A (Builtin.SmallTypes.nextOf (.ref it)) Q E s:= by
 cases b with
 | false => exact wpAny_nextOf_list_item hi hq hx h
 | true =>
  obtain ⟨o,ho,hc,hd⟩:=id hi
  obtain ⟨oq,hoq,_,n,hdq⟩:=hq
  have hT:s.TypeIs (.ref it) "tuple_iterator":=⟨o,ho,hc⟩
  unfold Builtin.SmallTypes.nextOf
  refine wpAny_bind (wpAny_callSpecial?_slot (name:=Str.ofString "__next__") hT F.slot_tuple_iterator_next (wpAny_call_entry F.slot_tuple_iterator_next hT F.entry_tuple_iterator_next (?_:wpAny _ _ (field (.ref it) 0 >>= _) _ _ s) (F.args_tuple_iterator_next_1 _)))
  refine wpAny_bind (wpAny_field ho hd (x:=.ref q) rfl (?_:wpAny _ _ (if (Value.ref q == Value.none) = true then _ else _) _ _ s))
  rw [if_neg (show ¬ ((Value.ref q == Value.none) = true) from Bool.false_ne_true)]
  refine (?_:wpAny _ _ (field (.ref it) 1 >>= _) _ _ s)
  refine wpAny_bind (wpAny_field ho hd (x:=.int k 0) rfl (?_:wpAny _ _ (seqItems? (.ref q) >>= _) _ _ s))
  refine wpAny_bind (wpAny_seqItems hoq hdq ?_)
  simp only [Int.toNat_natCast,hx]
  refine wpAny_bind (wpAny_setField ho hd (by simp) (wpAny_pure ⟨x,rfl,wpAny_pure (h _ ⟨_,Heap.get?_update_self _ ho (Obj.isFreed_of_fields (Obj.data_mapFields hd _)),(Obj.cls_mapFields ..).trans hc,?_⟩ (Heap.SameBut.update ..))⟩))
  rw [Obj.data_mapFields hd]; simp [rawInt]
theorem mr {Q:Value -> Shared -> Prop} (hh:A.handled = none) (hi:kM b s.heap it q k) (hq:ka b s.heap q xs) (hx:xs[k]? = none)
  (h:∀ h' e,(∀ c o,c ≠ it -> s.heap.get? c = some o -> h'.get? c = some o) -> (∃ o,h'.get? e = some o ∧ o.cls = .type "StopIteration") -> E (.ref e) { s with heap:=h' }) :
  wpAny (model prog w) A (Builtin.SmallTypes.nextOf (.ref it)) Q E s:= by
 cases b with
 | false => exact wpAny_nextOf_list_end hh hi hq hx h
 | true =>
  obtain ⟨o,ho,hc,hd⟩:=id hi
  obtain ⟨oq,hoq,_,n,hdq⟩:=hq
  have hT:s.TypeIs (.ref it) "tuple_iterator":=⟨o,ho,hc⟩
  unfold Builtin.SmallTypes.nextOf
  refine wpAny_bind (wpAny_callSpecial?_slot (name:=Str.ofString "__next__") hT F.slot_tuple_iterator_next (wpAny_call_entry F.slot_tuple_iterator_next hT F.entry_tuple_iterator_next (?_:wpAny _ _ (field (.ref it) 0 >>= _) _ _ s) (F.args_tuple_iterator_next_1 _)))
  refine wpAny_bind (wpAny_field ho hd (x:=.ref q) rfl (?_:wpAny _ _ (if (Value.ref q == Value.none) = true then _ else _) _ _ s))
  rw [if_neg (show ¬ ((Value.ref q == Value.none) = true) from Bool.false_ne_true)]
  refine (?_:wpAny _ _ (field (.ref it) 1 >>= _) _ _ s)
  refine wpAny_bind (wpAny_field ho hd (x:=.int k 0) rfl (?_:wpAny _ _ (seqItems? (.ref q) >>= _) _ _ s))
  refine wpAny_bind (wpAny_seqItems hoq hdq ?_)
  simp only [Int.toNat_natCast,hx]
  refine wpAny_bind (wpAny_rule (wpAny_bind (wpAny_setField ho hd (by simp) (?_:wpAny _ _ (newExc (.type "StopIteration") [] >>= _) _ _ _))))
  refine wU (s:={ s with heap:=s.heap.update it _ }) (by simpa using hh) fun h' e kp he => h h' e (fun c o hc e' => kp c o ?_) he
  exact (Heap.get?_update_other _ _ (Ne.symm hc)).trans e'
structure uD (z TI TO i1 i2 l1 l2:Addr):Prop where
 ni:[z,TI,TO,i1,i2].Nodup
 n1:l1 ∉ [z,TO,i1,i2]
 n2:l2 ∉ [z,TO,i1,i2]
abbrev t6 (b1 b2:Bool) (z TI TO i1 i2 l1 l2:Addr) (xs ys:Array Value) (k:Nat) (f:Value) (h:Heap):Prop :=
 IsZip h z TI TO f ∧ IsPair h TI (.ref i1) (.ref i2) ∧ (∃ a c,IsPair h TO a c) ∧ kM b1 h i1 l1 k ∧ kM b2 h i2 l2 k ∧ ka b1 h l1 xs ∧ ka b2 h l2 ys
variable {b1 b2:Bool} {z TI TO i1 i2 l1 l2:Addr} {ys:Array Value}
theorem uD.ne (D:uD z TI TO i1 i2 l1 l2):TI ≠ z ∧ TO ≠ z ∧ i1 ≠ z ∧ i2 ≠ z ∧ TI ≠ TO ∧ TI ≠ i1 ∧ TI ≠ i2 ∧ TO ≠ i1 ∧ TO ≠ i2 ∧ i1 ≠ i2 ∧ l1 ≠ z ∧ l1 ≠ TO ∧ l1 ≠ i1 ∧ l1 ≠ i2 ∧ l2 ≠ z ∧ l2 ≠ TO ∧ l2 ≠ i1 ∧ l2 ≠ i2:= by
 obtain ⟨h,h1,h2⟩:=D
 simp only [List.nodup_cons,List.mem_cons,List.not_mem_nil,or_false,not_or,List.nodup_nil,and_true,not_false_eq_true] at h h1 h2
 obtain ⟨⟨a1,a2,a3,a4⟩,⟨b1,b2,b3⟩,⟨c1,c2⟩,d1⟩:=h
 exact ⟨Ne.symm a1,Ne.symm a2,Ne.symm a3,Ne.symm a4,b1,b2,b3,c1,c2,d1,h1.1,h1.2.1,h1.2.2.1,h1.2.2.2,h2.1,h2.2.1,h2.2.2.1,h2.2.2.2⟩
theorem t6.keep {h h':Heap} {f:Value} (x:t6 b1 b2 z TI TO i1 i2 l1 l2 xs ys k f h) (e:∀ c ∈ [z,TI,TO,i1,i2,l1,l2],∀ o,h.get? c = some o -> h'.get? c = some o):t6 b1 b2 z TI TO i1 i2 l1 l2 xs ys k f h':= by
 obtain ⟨x1,x2,⟨a,c,x3⟩,x4,x5,x6,x7⟩:=x
 exact ⟨e z (by simp) _ x1,e TI (by simp) _ x2,⟨a,c,e TO (by simp) _ x3⟩,x4.at (e i1 (by simp)),x5.at (e i2 (by simp)),x6.at (e l1 (by simp)),x7.at (e l2 (by simp))⟩
theorem me {T:Addr} {a c v:Value} {j:Nat} {Q:Unit -> Shared -> Prop} (hT:IsPair s.heap T a c) (h:∀ h',h'.get? T = some { cls:=.type "tuple",data:=.seq ((#[a,c]:Array Value).setIfInBounds j v) } -> Heap.SameBut T s.heap h' -> Q () { s with heap:=h' }) :
  wpAny (model prog w) A (updateSeq T (·.setIfInBounds j v)) Q E s:=wpAny_updateSeq_pair hT h
theorem rJ {v1 v2:Value} {Q:Option Value -> Shared -> Prop} (D:uD z TI TO i1 i2 l1 l2) (st:t6 b1 b2 z TI TO i1 i2 l1 l2 xs ys k .none s.heap) (hx:xs[k]? = some v1) (hy:ys[k]? = some v2)
  (hQ:∀ h',t6 b1 b2 z TI TO i1 i2 l1 l2 xs ys (k + 1) (rawInt s.heap.objs.size) h' -> IsPair h' s.heap.objs.size v1 v2 -> (∀ c o,c ∉ [z,TO,i1,i2] -> s.heap.get? c = some o -> h'.get? c = some o) -> Q (some (.ref s.heap.objs.size)) { s with heap:=h' }) :
  wpAny (model prog w) A (pyNext (.ref z)) Q E s:= by
 obtain ⟨n1,n2,n3,n4,n5,n6,n7,n8,n9,n10,m1,m2,m3,m4,m5,m6,m7,m8⟩:=D.ne
 obtain ⟨hz,hTI,⟨a,c,hTO⟩,q1,q2,p1,p2⟩:=st
 have hT:s.TypeIs (.ref z) "zip":=⟨_,hz,rfl⟩
 unfold pyNext
 refine wpAny_bind (wpAny_attempt (wpAny_callSpecial?_slot (name:=Str.ofString "__next__") hT F.slot_zip_next (wpAny_call_entry F.slot_zip_next hT F.entry_zip_next (?_:wpAny _ _ (field (.ref z) 2 >>= _) _ _ _) (F.args_zip_next_1 _))))
 refine wpAny_bind (wpAny_field hz rfl (x:=.bool false) rfl (?_:wpAny _ _ (field (.ref z) 3 >>= _) _ _ _))
 refine wpAny_bind (wpAny_field hz rfl (x:=.ref TI) rfl (wpAny_bind (wpAny_seqItems hTI rfl (?_:wpAny _ _ (Builtin.SmallTypes.ownedTupleIsFree (.ref z) >>= _) _ _ _))))
 refine wpAny_bind ?_
 unfold Builtin.SmallTypes.ownedTupleIsFree
 refine wpAny_bind (wpAny_field hz rfl (x:=.none) rfl (wpAny_pure ?_))
 simp only [if_true]
 refine wpAny_bind (wpAny_rule (wpAny_bind (wpAny_field hz rfl (x:=.ref TO) rfl ?_)))
 refine wpAny_bind (wpAny_setField_rec hz (by simp) fun h1 z1 s1 => ?_)
 replace z1:IsZip h1 z TI TO .ellipsis:=z1
 refine wpAny_bind ?_
 simp only [List.zipIdx_cons,List.zipIdx_nil,List.forIn_cons,List.forIn_nil]
 refine wpAny_bind (wpAny_bind (wpAny_onRaise (?_:wpAny _ _ (Builtin.SmallTypes.nextOf (.ref i1) >>= _) _ _ _)))
 refine wpAny_bind (gz (s:={ s with heap:=h1 }) (q1.at fun o e => s1.extBut _ _ n3 e) (p1.at fun o e => s1.extBut _ _ m1 e) hx fun h2 q1' s2 => wpAny_pure ?_)
 have t2:IsPair h2 TO a c:=s2.extBut _ _ n8 (s1.extBut _ _ n2 hTO)
 refine wpAny_bind (wpAny_seqItems (s:={ s with heap:=h2 }) t2 rfl (wpAny_bind (me (s:={ s with heap:=h2 }) t2 fun h3 t3 s3 => ?_)))
 replace t3:IsPair h3 TO v1 c:=t3
 refine wpAny_bind (wpAny_letGo (wpAny_pure ?_))
 refine wpAny_bind (wpAny_bind (wpAny_onRaise (?_:wpAny _ _ (Builtin.SmallTypes.nextOf (.ref i2) >>= _) _ _ _)))
 refine wpAny_bind (gz (s:={ s with heap:=h3 }) (q2.at fun o e => s3.extBut _ _ n9.symm (s2.extBut _ _ n10.symm (s1.extBut _ _ n4 e))) (p2.at fun o e => s3.extBut _ _ m6 (s2.extBut _ _ m7 (s1.extBut _ _ m5 e))) hy fun h4 q2' s4 => wpAny_pure ?_)
 have t4:IsPair h4 TO v1 c:=s4.extBut _ _ n9 t3
 refine wpAny_bind (wpAny_seqItems (s:={ s with heap:=h4 }) t4 rfl (wpAny_bind (me (s:={ s with heap:=h4 }) t4 fun h5 t5 s5 => ?_)))
 replace t5:IsPair h5 TO v1 v2:=t5
 refine wpAny_bind (wpAny_letGo (wpAny_pure (wpAny_pure ?_)))
 refine wpAny_bind (wpAny_seqItems (s:={ s with heap:=h5 }) t5 rfl (wpAny_bind (wpAny_newTuple ?_)))
 have hsz:h5.objs.size = s.heap.objs.size:=by rw [s5.1,s4.1,s3.1,s2.1,s1.1]
 have up5:∀ c o,c ∉ [z,TO,i1,i2] -> s.heap.get? c = some o -> h5.get? c = some o:=fun c o hc e => by
  simp only [List.mem_cons,List.not_mem_nil,or_false,not_or] at hc
  obtain ⟨c1,c2,c3,c4⟩:=hc
  exact s5.extBut _ _ c2 (s4.extBut _ _ c4 (s3.extBut _ _ c2 (s2.extBut _ _ c3 (s1.extBut _ _ c1 e))))
 have z5:IsZip h5 z TI TO .ellipsis:=s5.extBut _ _ n2.symm (s4.extBut _ _ n4.symm (s3.extBut _ _ n2.symm (s2.extBut _ _ n3.symm z1)))
 refine (?_:wpAny _ _ (Builtin.SmallTypes.ownedTupleHandOut (.ref z) (.ref h5.objs.size) >>= _) _ _ _)
 refine wpAny_bind ?_
 unfold Builtin.SmallTypes.ownedTupleHandOut
 have z6:IsZip (h5.push { cls:=.type "tuple",data:=.seq #[v1,v2] }) z TI TO .ellipsis:=Heap.get?_push_of_some _ z5
 refine wpAny_bind (wpAny_setField_rec (s:={ s with heap:=h5.push { cls:=.type "tuple",data:=.seq #[v1,v2] } }) z6 (by simp) fun h7 z7 s7 => ?_)
 replace z7:IsZip h7 z TI TO (rawInt h5.objs.size):=z7
 refine wpAny_setField_rec (s:={ s with heap:=h7 }) z7 (by simp) fun h8 z8 s8 => ?_
 replace z8:IsZip h8 z TI TO (rawInt h5.objs.size):=z8
 have up:∀ c o,c ≠ z -> h5.get? c = some o -> h8.get? c = some o:=fun c o c1 e => s8.extBut _ _ c1 (s7.extBut _ _ c1 (Heap.get?_push_of_some _ e))
 have zl:z ≠ h5.objs.size:=Nat.ne_of_lt (Heap.lt_size z5)
 have new8:IsPair h8 h5.objs.size v1 v2:=s8.extBut _ _ zl.symm (s7.extBut _ _ zl.symm (Heap.get?_push_size _ rfl))
 rw [hsz] at z8 new8
 refine wpAny_pure ⟨_,rfl,(?_:wpAny _ _ (pure (some (Value.ref h5.objs.size))) _ _ _)⟩
 rw [hsz]
 refine wpAny_pure (hQ h8 ⟨z8,up _ _ n1 (up5 TI _ (by simp [n1,n5,n6,n7]) hTI),⟨_,_,up _ _ n2 t5⟩,q1'.at fun o e => up _ _ n3 (s5.extBut _ _ n8.symm (s4.extBut _ _ n10 (s3.extBut _ _ n8.symm e))),q2'.at fun o e => up _ _ n4 (s5.extBut _ _ n9.symm e),
  p1.at fun o e => up _ _ m1 (up5 l1 _ D.n1 e),p2.at fun o e => up _ _ m5 (up5 l2 _ D.n2 e)⟩ new8 fun c o hc e => up c o (fun z' => hc (by rw [z']; simp)) (up5 c o hc e))
theorem uo {Q:Option Value -> Shared -> Prop} (hh:A.handled = none) (D:uD z TI TO i1 i2 l1 l2) (st:t6 b1 b2 z TI TO i1 i2 l1 l2 xs ys k .none s.heap) (hx:xs[k]? = none ∨ ys[k]? = none)
  (hQ:∀ h',(∀ c o,c ∉ [z,TO,i1,i2] -> s.heap.get? c = some o -> h'.get? c = some o) -> Q none { s with heap:=h' }):wpAny (model prog w) A (pyNext (.ref z)) Q E s:= by
 obtain ⟨n1,n2,n3,n4,n5,n6,n7,n8,n9,n10,m1,m2,m3,m4,m5,m6,m7,m8⟩:=D.ne
 obtain ⟨hz,hTI,⟨a,c,hTO⟩,q1,q2,p1,p2⟩:=st
 have hT:s.TypeIs (.ref z) "zip":=⟨_,hz,rfl⟩
 have fin:∀ (h:Heap) (e:Addr),IsZip h z TI TO .ellipsis -> (∀ c o,c ∉ [z,TO,i1,i2] -> s.heap.get? c = some o -> h.get? c = some o) -> (∃ o,h.get? e = some o ∧ o.cls = .type "StopIteration") ->
   wpAny (model prog w) A.in1 (setField (.ref z) 0 .none) (fun _ s' => wpAny (model prog w) A (do if <- isInstance (Value.ref e) (.type "StopIteration") then pure (none:Option Value) else throw (Value.ref e)) Q E s') (fun _ _ => False) { s with heap:=h }:=fun h e hz kp he => by
  obtain ⟨o,ho,hc⟩:=he
  refine wpAny_setField_rec (s:={ s with heap:=h }) hz (by simp) fun h' _ sb => ?_
  have hez:e ≠ z:=fun x => by subst x; rw [hz] at ho; cases ho; simp at hc
  refine wpAny_bind (wpAny_isInstance (T:="StopIteration") (b:=true) ⟨o,sb.extBut _ _ hez ho,hc⟩ isSubtype_stop (wpAny_pure (hQ h' fun c o hc e => sb.extBut _ _ (fun z' => hc (by rw [z']; simp)) (kp c o hc e))))
 unfold pyNext
 refine wpAny_bind (wpAny_attempt (wpAny_callSpecial?_slot (name:=Str.ofString "__next__") hT F.slot_zip_next (wpAny_call_entry F.slot_zip_next hT F.entry_zip_next (?_:wpAny _ _ (field (.ref z) 2 >>= _) _ _ _) (F.args_zip_next_1 _))))
 refine wpAny_bind (wpAny_field hz rfl (x:=.bool false) rfl (?_:wpAny _ _ (field (.ref z) 3 >>= _) _ _ _))
 refine wpAny_bind (wpAny_field hz rfl (x:=.ref TI) rfl (wpAny_bind (wpAny_seqItems hTI rfl (?_:wpAny _ _ (Builtin.SmallTypes.ownedTupleIsFree (.ref z) >>= _) _ _ _))))
 refine wpAny_bind ?_
 unfold Builtin.SmallTypes.ownedTupleIsFree
 refine wpAny_bind (wpAny_field hz rfl (x:=.none) rfl (wpAny_pure ?_))
 simp only [if_true]
 refine wpAny_bind (wpAny_rule (wpAny_bind (wpAny_field hz rfl (x:=.ref TO) rfl ?_)))
 refine wpAny_bind (wpAny_setField_rec hz (by simp) fun h1 z1 s1 => ?_)
 replace z1:IsZip h1 z TI TO .ellipsis:=z1
 refine wpAny_bind ?_
 simp only [List.zipIdx_cons,List.zipIdx_nil,List.forIn_cons,List.forIn_nil]
 refine wpAny_bind (wpAny_bind (wpAny_onRaise (?_:wpAny _ _ (Builtin.SmallTypes.nextOf (.ref i1) >>= _) _ _ _)))
 have p1':ka b1 h1 l1 xs:=p1.at fun o e => s1.extBut _ _ m1 e
 have q1'':kM b1 h1 i1 l1 k:=q1.at fun o e => s1.extBut _ _ n3 e
 cases hxk:xs[k]? with
 | none =>
  refine wpAny_bind (mr (s:={ s with heap:=h1 }) (by simpa using hh) q1'' p1' hxk fun h2 e kp he => ?_)
  refine wpAny_mono (fin h2 e (kp _ _ n3.symm z1) (fun c o hc e' => ?_) he) (fun _ _ q => q) fun _ _ q => q.elim
  simp only [List.mem_cons,List.not_mem_nil,or_false,not_or] at hc
  exact kp _ _ hc.2.2.1 (s1.extBut _ _ hc.1 e')
 | some v1 =>
  have hy:ys[k]? = none:= by
   rcases hx with h | h
   ·rw [hxk] at h; cases h
   ·exact h
  refine wpAny_bind (gz (s:={ s with heap:=h1 }) q1'' p1' hxk fun h2 q1' s2 => wpAny_pure ?_)
  have t2:IsPair h2 TO a c:=s2.extBut _ _ n8 (s1.extBut _ _ n2 hTO)
  refine wpAny_bind (wpAny_seqItems (s:={ s with heap:=h2 }) t2 rfl (wpAny_bind (me (s:={ s with heap:=h2 }) t2 fun h3 t3 s3 => ?_)))
  refine wpAny_bind (wpAny_letGo (wpAny_pure ?_))
  refine wpAny_bind (wpAny_bind (wpAny_onRaise (?_:wpAny _ _ (Builtin.SmallTypes.nextOf (.ref i2) >>= _) _ _ _)))
  refine wpAny_bind (mr (s:={ s with heap:=h3 }) (by simpa using hh) (q2.at fun o e => s3.extBut _ _ n9.symm (s2.extBut _ _ n10.symm (s1.extBut _ _ n4 e))) (p2.at fun o e => s3.extBut _ _ m6 (s2.extBut _ _ m7 (s1.extBut _ _ m5 e))) hy fun h4 e kp he => ?_)
  refine wpAny_mono (fin h4 e (kp _ _ n4.symm (s3.extBut _ _ n2.symm (s2.extBut _ _ n3.symm z1))) (fun c o hc e' => ?_) he) (fun _ _ q => q) fun _ _ q => q.elim
  simp only [List.mem_cons,List.not_mem_nil,or_false,not_or] at hc
  exact kp _ _ hc.2.2.2 (s3.extBut _ _ hc.2.1 (s2.extBut _ _ hc.2.2.1 (s1.extBut _ _ hc.1 e')))
end
end Jt
namespace Jt
open PySem
section
variable {prog:Program} {w:World} {A:Around} {E:Value -> Shared -> Prop} {s:Shared} {b1 b2 b:Bool} {l1 l2 q it e:Addr} {xs ys:Array Value} {k:Nat}
def xO (b1 b2:Bool) (h:Heap) (l1 l2:Addr):Heap:=(h.push (eN b1 l1)).push (eN b2 l2)
def FW (b1 b2:Bool) (h:Heap) (l1 l2:Addr):Heap:=((xO b1 b2 h l1 l2).push { cls:=.type "tuple",data:=.seq #[.ref h.objs.size,.ref (h.push (eN b1 l1)).objs.size] }).push { cls:=.type "tuple",data:=.seq #[.none,.none] }
def CV (b1 b2:Bool) (h:Heap) (l1 l2:Addr):Heap:=(FW b1 b2 h l1 l2).push { cls:=.type "zip",data:=.fields #[.none,.bool false,.bool false,.ref (xO b1 b2 h l1 l2).objs.size,.ref ((xO b1 b2 h l1 l2).push { cls:=.type "tuple",data:=.seq #[.ref h.objs.size,.ref (h.push (eN b1 l1)).objs.size] }).objs.size] }
theorem vO (b1 b2:Bool) (l1 l2:Addr) (xs ys:Array Value):Meets (Builtin.«zip.__new__» ⟨[.type "zip",.ref l1,.ref l2],[]⟩) (fun _ R s => ka b1 s.heap l1 xs ∧ ka b2 s.heap l2 ys ∧ R (.ok (.ret (.ref (FW b1 b2 s.heap l1 l2).objs.size))) { s with heap:=CV b1 b2 s.heap l1 l2 }) :=
 .of_wp fun prog w A R s h => by
  obtain ⟨hp,g,d,tk,os⟩:=s
  obtain ⟨h1,h2,h⟩:=h
  have hsub:=sub_zip
  have L1:ka b1 (Shared.heap ⟨hp,g,d,tk,os⟩) l1 xs:=h1
  have L2:ka b2 (Shared.heap ⟨hp.push (eN b1 l1),g,d,tk,os⟩) l2 ys:=h2.at fun o e => Heap.get?_push_of_some _ e
  wp_walk using jK L1,jK L2
  exact ⟨_,rfl,h⟩
theorem uW {Q:Value -> Shared -> Prop} (h1:ka b1 s.heap l1 xs) (h2:ka b2 s.heap l2 ys)
  (h:∀ h' z TI TO i1 i2,uD z TI TO i1 i2 l1 l2 -> t6 b1 b2 z TI TO i1 i2 l1 l2 xs ys 0 .none h' -> (∀ c o,s.heap.get? c = some o -> h'.get? c = some o) -> (∀ c ∈ [z,TI,TO,i1,i2],s.heap.objs.size ≤ c) -> Q (.ref z) { s with heap:=h' }) :
  wpAny (model prog w) A (call (.type "zip") [.ref l1,.ref l2]) Q E s:= by
 refine callType_new F.called_zip (by decide) (F.typeCall_zip_2 _ _) (F.newCall_zip_2 _ _) (fun obj => F.args_object_init_3 obj _ _) F.entry_zip_new (vO b1 b2 l1 l2 xs ys) ⟨h1,h2,?_⟩
 have a1:(s.heap.push (eN b1 l1)).objs.size = s.heap.objs.size + 1:=Heap.size_push ..
 have a2:(xO b1 b2 s.heap l1 l2).objs.size = s.heap.objs.size + 2:=by unfold xO; rw [Heap.size_push,a1]
 have a3:((xO b1 b2 s.heap l1 l2).push { cls:=.type "tuple",data:=.seq #[.ref s.heap.objs.size,.ref (s.heap.push (eN b1 l1)).objs.size] }).objs.size = s.heap.objs.size + 3:=by rw [Heap.size_push,a2]
 have a4:(FW b1 b2 s.heap l1 l2).objs.size = s.heap.objs.size + 4:=by unfold FW; rw [Heap.size_push,a3]
 have up4:∀ c o,(FW b1 b2 s.heap l1 l2).get? c = some o -> (CV b1 b2 s.heap l1 l2).get? c = some o:=fun c o e => Heap.get?_push_of_some _ e
 have up2:∀ c o,(xO b1 b2 s.heap l1 l2).get? c = some o -> (CV b1 b2 s.heap l1 l2).get? c = some o:=fun c o e => up4 c o (Heap.get?_push_of_some _ (Heap.get?_push_of_some _ e))
 have up:∀ c o,s.heap.get? c = some o -> (CV b1 b2 s.heap l1 l2).get? c = some o:=fun c o e => up2 c o (Heap.get?_push_of_some _ (Heap.get?_push_of_some _ e))
 have g5:(CV b1 b2 s.heap l1 l2).get? (FW b1 b2 s.heap l1 l2).objs.size = some _:=Heap.get?_push_size _ rfl
 have g4:(CV b1 b2 s.heap l1 l2).get? ((xO b1 b2 s.heap l1 l2).push { cls:=.type "tuple",data:=.seq #[.ref s.heap.objs.size,.ref (s.heap.push (eN b1 l1)).objs.size] }).objs.size = some _:=up4 _ _ (Heap.get?_push_size _ rfl)
 have g3:(CV b1 b2 s.heap l1 l2).get? (xO b1 b2 s.heap l1 l2).objs.size = some _:=up4 _ _ (Heap.get?_push_of_some _ (Heap.get?_push_size _ rfl))
 have lt1:=h1.lt
 have lt2:=h2.lt
 refine ⟨⟨_,g5,rfl⟩,h (CV b1 b2 s.heap l1 l2) _ (xO b1 b2 s.heap l1 l2).objs.size ((xO b1 b2 s.heap l1 l2).push { cls:=.type "tuple",data:=.seq #[.ref s.heap.objs.size,.ref (s.heap.push (eN b1 l1)).objs.size] }).objs.size s.heap.objs.size (s.heap.push (eN b1 l1)).objs.size ?_
  ⟨g5,g3,⟨_,_,g4⟩,kM.new.at fun o e => up2 _ _ (Heap.get?_push_of_some _ e),kM.new.at fun o e => up2 _ _ e,h1.at fun o e => up _ _ e,h2.at fun o e => up _ _ e⟩ up fun c hc => ?_⟩
 ·rw [a3,a4,a2,a1]
  have e1:∀ j:Nat,l1 ≠ s.heap.objs.size + j:=fun j z => Nat.ne_of_lt (Nat.lt_of_lt_of_le lt1 (Nat.le_add_right _ j)) z
  have e2:∀ j:Nat,l2 ≠ s.heap.objs.size + j:=fun j z => Nat.ne_of_lt (Nat.lt_of_lt_of_le lt2 (Nat.le_add_right _ j)) z
  have ne:∀ i j:Nat,i ≠ j -> s.heap.objs.size + i ≠ s.heap.objs.size + j:=fun i j h z => h (Nat.add_left_cancel z)
  have ne0:∀ j:Nat,j ≠ 0 -> s.heap.objs.size + j ≠ s.heap.objs.size:=fun j h z => h (Nat.add_left_cancel (m:=j) (k:=0) z)
  refine ⟨?_,?_,?_⟩
  ·simp only [List.nodup_cons,List.mem_cons,List.not_mem_nil,or_false,not_or,List.nodup_nil,and_true,not_false_eq_true]
   exact ⟨⟨ne 4 2 (by decide),ne 4 3 (by decide),ne0 4 (by decide),ne 4 1 (by decide)⟩,⟨ne 2 3 (by decide),ne0 2 (by decide),ne 2 1 (by decide)⟩,⟨ne0 3 (by decide),ne 3 1 (by decide)⟩,(ne0 1 (by decide)).symm⟩
  ·simp only [List.mem_cons,List.not_mem_nil,or_false,not_or]
   exact ⟨e1 4,e1 3,Nat.ne_of_lt lt1,e1 1⟩
  ·simp only [List.mem_cons,List.not_mem_nil,or_false,not_or]
   exact ⟨e2 4,e2 3,Nat.ne_of_lt lt2,e2 1⟩
 ·rw [a3,a4,a2,a1] at hc
  simp only [List.mem_cons,List.not_mem_nil,or_false] at hc
  rcases hc with e | e | e | e | e
  ·rw [e]; exact Nat.le_add_right _ 4
  ·rw [e]; exact Nat.le_add_right _ 2
  ·rw [e]; exact Nat.le_add_right _ 3
  ·rw [e]; exact Nat.le_refl _
  ·rw [e]; exact Nat.le_add_right _ 1
theorem se (b:Bool) (l:Addr) (xs:Array Value):Meets (Builtin.«enumerate.__new__» ⟨[.type "enumerate",.ref l],[]⟩) (fun _ R s => ka b s.heap l xs ∧ R (.ok (.ret (.ref (s.heap.push (eN b l)).objs.size)))
  { s with heap:=(s.heap.push (eN b l)).push { cls:=.type "enumerate",data:=.fields #[.none,.bool false,.ref s.heap.objs.size,rawInt 0,.none,.none] } }) :=
 .of_wp fun prog w A R s h => by
  obtain ⟨hp,g,d,tk,os⟩:=s
  obtain ⟨h1,h⟩:=h
  have hsub:=sub_enumerate
  have L1:ka b (Shared.heap ⟨hp,g,d,tk,os⟩) l xs:=h1
  wp_walk
  refine wpAny_stack_any fun st => wpAny_pure ?_
  split
  ·rename_i c _ _ _ _ _
   cases (c == Value.type "enumerate")
   ·wp_walk using jK L1
    exact ⟨_,rfl,h⟩
   ·wp_walk using jK L1
    exact ⟨_,rfl,h⟩
  ·wp_walk using jK L1
   exact ⟨_,rfl,h⟩
abbrev IQ (b:Bool) (e it l:Addr) (xs:Array Value) (k:Nat) (h:Heap):Prop:=(∃ old,IsEnum h e it k old) ∧ kM b h it l k ∧ ka b h l xs
theorem yL {Q:Value -> Shared -> Prop} (h1:ka b s.heap q xs)
  (h:∀ h' e it,e ≠ it -> q ≠ e -> q ≠ it -> IQ b e it q xs 0 h' -> (∀ c o,s.heap.get? c = some o -> h'.get? c = some o) -> s.heap.objs.size ≤ e -> s.heap.objs.size ≤ it -> Q (.ref e) { s with heap:=h' }) :
  wpAny (model prog w) A (call (.type "enumerate") [.ref q]) Q E s:= by
 refine callType_new F.called_enumerate (by decide) (F.typeCall_enumerate_1 _) (F.newCall_enumerate_1 _) (fun obj => F.args_object_init_2 obj _) F.entry_enumerate_new (se b q xs) ⟨h1,?_⟩
 have a1:(s.heap.push (eN b q)).objs.size = s.heap.objs.size + 1:=Heap.size_push ..
 have lt1:=h1.lt
 refine ⟨⟨_,Heap.get?_push_size _ rfl,rfl⟩,h _ _ s.heap.objs.size (fun z => ?_) (fun z => ?_) (Nat.ne_of_lt lt1) ⟨⟨.none,Heap.get?_push_size _ rfl⟩,kM.new.at fun o e => Heap.get?_push_of_some _ e,h1.at fun o e => Heap.get?_push_of_some _ (Heap.get?_push_of_some _ e)⟩ (fun c o e => Heap.get?_push_of_some _ (Heap.get?_push_of_some _ e)) ?_ (Nat.le_refl _)⟩
 ·rw [a1] at z; exact Nat.succ_ne_self _ z
 ·rw [a1] at z; exact Nat.ne_of_lt (Nat.lt_succ_of_lt lt1) z
 ·rw [a1]; exact Nat.le_succ _
theorem vz {v:Value} {Q:Option Value -> Shared -> Prop} (hne:e ≠ it) (hqe:q ≠ e) (hqi:q ≠ it) (st:IQ b e it q xs k s.heap) (hx:xs[k]? = some v)
  (hQ:∀ h',IsEnumOut h' e it ((k:Int) + 1) v s.heap.objs.size -> kM b h' it q (k + 1) -> ka b h' q xs -> IsPair h' s.heap.objs.size (.int k s.toks) v -> (∀ c o,c ≠ e -> c ≠ it -> s.heap.get? c = some o -> h'.get? c = some o) -> Q (some (.ref s.heap.objs.size)) { s with heap:=h',toks:=s.toks + 1 }) :
  wpAny (model prog w) A (pyNext (.ref e)) Q E s:= by
 obtain ⟨⟨old,he⟩,hi,hq⟩:=st
 have hT:s.TypeIs (.ref e) "enumerate":=⟨_,he,rfl⟩
 have hel:e < s.heap.objs.size:=Heap.lt_size he
 unfold pyNext
 refine wpAny_bind (wpAny_attempt (wpAny_callSpecial?_slot (name:=Str.ofString "__next__") hT F.slot_enumerate_next (wpAny_call_entry F.slot_enumerate_next hT F.entry_enumerate_next (?_:wpAny _ _ (field (.ref e) 2 >>= _) _ _ _) (F.args_enumerate_next_1 _))))
 obtain ⟨hp,g,d,tk,os⟩:=s
 refine wpAny_bind (wpAny_field he rfl (x:=.ref it) rfl (wpAny_bind (gz hi hq hx fun h1 hi1 s1 => ?_)))
 replace s1:Heap.SameBut it hp h1:=s1
 have e1:IsEnum h1 e it k old:=(s1.2 e hne).trans he
 refine (?_:wpAny _ _ (field (.ref e) 3 >>= _) _ _ ⟨h1,g,d,tk,os⟩)
 refine wpAny_bind (wpAny_field (s:=⟨h1,g,d,tk,os⟩) e1 rfl (x:=rawInt k) rfl (?_:wpAny _ _ (field (.ref e) 4 >>= _) _ _ ⟨h1,g,d,tk,os⟩))
 refine wpAny_bind (wpAny_field (s:=⟨h1,g,d,tk,os⟩) e1 rfl (x:=.none) rfl (?_:wpAny _ _ (mkInt k >>= _) _ _ ⟨h1,g,d,tk,os⟩))
 refine wpAny_bind (wpAny_mkInt (?_:wpAny _ _ (setField (.ref e) 3 (rawInt ((k:Int) + 1)) >>= _) _ _ ⟨h1,g,d,tk + 1,os⟩))
 refine wpAny_bind (wpAny_setField_rec (s:=⟨h1,g,d,tk + 1,os⟩) e1 (by simp) fun h2 e2 s2 => (?_:wpAny _ _ (setField (.ref e) 4 .none >>= _) _ _ ⟨h2,g,d,tk + 1,os⟩))
 replace s2:Heap.SameBut e h1 h2:=s2
 replace e2:IsEnum h2 e it ((k:Int) + 1) old:=e2
 refine wpAny_bind (wpAny_setField_rec (s:=⟨h2,g,d,tk + 1,os⟩) e2 (by simp) fun h3 e3 s3 => (?_:wpAny _ _ (newTuple [.int k tk,v] >>= _) _ _ ⟨h3,g,d,tk + 1,os⟩))
 replace s3:Heap.SameBut e h2 h3:=s3
 replace e3:IsEnum h3 e it ((k:Int) + 1) old:=e3
 refine wpAny_bind (wpAny_newTuple ?_)
 have hsz:h3.objs.size = hp.objs.size:=by rw [s3.1,s2.1,s1.1]
 have e4:IsEnum (h3.push { cls:=.type "tuple",data:=.seq #[.int k tk,v] }) e it ((k:Int) + 1) old:=Heap.get?_push_of_some _ e3
 have t4:IsPair (h3.push { cls:=.type "tuple",data:=.seq #[.int k tk,v] }) hp.objs.size (.int k tk) v:=by rw [<- hsz]; exact Heap.get?_push_size _ rfl
 have up4:∀ c o,c ≠ e -> h1.get? c = some o -> (h3.push { cls:=.type "tuple",data:=.seq #[.int k tk,v] }).get? c = some o:=fun c o hc x => Heap.get?_push_of_some _ (s3.extBut c o hc (s2.extBut c o hc x))
 refine (?_:wpAny _ _ (Builtin.SmallTypes.ownedTupleIsFree (.ref e) >>= _) _ _ ⟨h3.push { cls:=.type "tuple",data:=.seq #[.int k tk,v] },g,d,tk + 1,os⟩)
 rw [hsz]
 generalize h3.push { cls:=.type "tuple",data:=.seq #[.int k tk,v] } = h4 at e4 t4 up4
 refine wpAny_bind ?_
 unfold Builtin.SmallTypes.ownedTupleIsFree
 refine wpAny_bind (wpAny_field (s:=⟨h4,g,d,tk + 1,os⟩) e4 rfl (x:=.none) rfl (wpAny_pure ?_))
 simp only [if_true]
 refine wpAny_bind (wpAny_rule (wpAny_bind (wpAny_field (s:=⟨h4,g,d,tk + 1,os⟩) e4 rfl (x:=old) rfl ?_)))
 refine wpAny_bind (wpAny_setField_rec (s:=⟨h4,g,d,tk + 1,os⟩) e4 (by simp) fun h5 e5 s5 => (?_:wpAny _ _ (Builtin.SmallTypes.ownedTupleHandOut (.ref e) (.ref hp.objs.size) >>= _) _ _ ⟨h5,g,d,tk + 1,os⟩))
 replace s5:Heap.SameBut e h4 h5:=s5
 replace e5:IsEnum h5 e it ((k:Int) + 1) v:=e5
 refine wpAny_bind ?_
 unfold Builtin.SmallTypes.ownedTupleHandOut
 refine wpAny_bind (wpAny_setField_rec (s:=⟨h5,g,d,tk + 1,os⟩) e5 (by simp) fun h6 e6 s6 => ?_)
 replace s6:Heap.SameBut e h5 h6:=s6
 replace e6:IsEnumOut h6 e it ((k:Int) + 1) v hp.objs.size:=e6
 refine wpAny_setField_rec (s:=⟨h6,g,d,tk + 1,os⟩) e6 (by simp) fun h7 e7 s7 => ?_
 replace s7:Heap.SameBut e h6 h7:=s7
 replace e7:IsEnumOut h7 e it ((k:Int) + 1) v hp.objs.size:=e7
 have up:∀ c o,c ≠ e -> h1.get? c = some o -> h7.get? c = some o:=fun c o hc x => s7.extBut c o hc (s6.extBut c o hc (s5.extBut c o hc (up4 c o hc x)))
 have hel':hp.objs.size ≠ e:=Nat.ne_of_gt hel
 refine wpAny_bind (wpAny_letGo (wpAny_pure ⟨_,rfl,wpAny_pure (hQ h7 e7 (hi1.at fun o x => up _ _ hne.symm x) (hq.at fun o x => up _ _ hqe (s1.extBut _ _ hqi x)) (s7.extBut _ _ hel' (s6.extBut _ _ hel' (s5.extBut _ _ hel' t4))) fun c o c1 c2 x => up c o c1 (s1.extBut _ _ c2 x))⟩))
theorem ye {Q:Option Value -> Shared -> Prop} (hh:A.handled = none) (st:IQ b e it q xs k s.heap) (hx:xs[k]? = none) (hQ:∀ h',(∀ c o,c ≠ it -> s.heap.get? c = some o -> h'.get? c = some o) -> Q none { s with heap:=h' }):wpAny (model prog w) A (pyNext (.ref e)) Q E s:= by
 obtain ⟨⟨old,he⟩,hi,hq⟩:=st
 have hT:s.TypeIs (.ref e) "enumerate":=⟨_,he,rfl⟩
 unfold pyNext
 refine wpAny_bind (wpAny_attempt (wpAny_callSpecial?_slot (name:=Str.ofString "__next__") hT F.slot_enumerate_next (wpAny_call_entry F.slot_enumerate_next hT F.entry_enumerate_next (?_:wpAny _ _ (field (.ref e) 2 >>= _) _ _ _) (F.args_enumerate_next_1 _))))
 refine wpAny_bind (wpAny_field he rfl (x:=.ref it) rfl (wpAny_bind (mr (by simpa using hh) hi hq hx fun h' x kp hx' => ?_)))
 obtain ⟨o,ho,hc⟩:=hx'
 exact wpAny_bind (wpAny_isInstance (T:="StopIteration") (b:=true) ⟨o,ho,hc⟩ isSubtype_stop (wpAny_pure (hQ _ kp)))
end
end Jt
namespace L2
open PySem PySem.Spec PyProof.Rows
abbrev Key:=Sum Int Str
def Dg:Key -> Value -> Bool
 | .inl k,v => Value.isInt k v
 | .inr x,v => Value.isStrOf x v
def IH (w:World):Key -> Int
 | .inl k => hashInt k
 | .inr x => hashStr w x
theorem cB:∀ {k:Key} {v:Value},Dg k v = true -> (∃ i t,k = Sum.inl i ∧ v = Value.int i t) ∨ (∃ x t,k = Sum.inr x ∧ v = Value.str x t)
 | .inl i,v,h => by
  obtain ⟨t,e⟩:=Value.isInt_shape (k:=i) (v:=v) h
  exact .inl ⟨i,t,rfl,e⟩
 | .inr x,v,h => by
  obtain ⟨t,e⟩:=Value.isStrOf_shape (x:=x) (v:=v) h
  exact .inr ⟨x,t,rfl,e⟩
theorem D1 (a b:Int):decide ((Sum.inl a:Key) = Sum.inl b) = (a == b):= by
 by_cases e:a = b
 ·subst e; simp
 ·have h:¬ (Sum.inl a:Key) = Sum.inl b:=fun q => e (Sum.inl.inj q)
  rw [decide_eq_false h]
  exact (beq_eq_false_iff_ne.mpr e).symm
theorem EG (a b:Str):decide ((Sum.inr a:Key) = Sum.inr b) = decide (a = b):= by
 by_cases e:a = b
 ·subst e; simp
 ·have h:¬ (Sum.inr a:Key) = Sum.inr b:=fun q => e (Sum.inr.inj q)
  rw [decide_eq_false h,decide_eq_false e]
theorem DK (a:Int) (b:Str):decide ((Sum.inl a:Key) = Sum.inr b) = false:=decide_eq_false (fun q => nomatch q)
theorem Eb (a:Str) (b:Int):decide ((Sum.inr a:Key) = Sum.inl b) = false:=decide_eq_false (fun q => nomatch q)
def pK (prog:Program) (w:World):PySem.KeyKind prog w Key where
 is:=Dg
 hash:=IH w
 inj:=fun v a b ha hb => by
  rcases cB ha with ⟨i,t,rfl,rfl⟩ | ⟨x,t,rfl,rfl⟩
  ·rcases cB hb with ⟨j,u,rfl,e⟩ | ⟨y,u,rfl,e⟩
   ·injection e with e1 _; rw [e1]
   ·exact nomatch e
  ·rcases cB hb with ⟨j,u,rfl,e⟩ | ⟨y,u,rfl,e⟩
   ·exact nomatch e
   ·injection e with e1 _; rw [e1]
 byValue:=fun k v h => by
  rcases cB h with ⟨i,t,rfl,rfl⟩ | ⟨x,t,rfl,rfl⟩ <;> rfl
 pyHash:=fun hv h => by
  rcases cB hv with ⟨i,t,rfl,rfl⟩ | ⟨x,t,rfl,rfl⟩
  ·exact wpAny_pyHash_int h
  ·exact wpAny_pyHash_str h
 eqBool:=fun hu hv h => by
  rcases cB hu with ⟨i,t,rfl,rfl⟩ | ⟨x,t,rfl,rfl⟩
  ·rcases cB hv with ⟨j,u,rfl,rfl⟩ | ⟨y,u,rfl,rfl⟩
   ·rw [D1] at h; exact wpAny_eqBool_int h
   ·rw [DK] at h; exact SeqAt.EqAt.int_str i t y u _ _ _ _ h
  ·rcases cB hv with ⟨j,u,rfl,rfl⟩ | ⟨y,u,rfl,rfl⟩
   ·rw [Eb] at h; exact SeqAt.EqAt.str_int x t j u _ _ _ _ h
   ·rw [EG] at h; exact wpAny_eqBool_str h
 «strs»:=fun k x t v h => by
  rcases cB h with ⟨i,u,rfl,e⟩ | ⟨y,u,rfl,e⟩
  ·exact nomatch e
  ·injection e with e1 _
   subst e1
   cases v <;> rfl
end L2
namespace L2
open PySem PySem.Spec PyProof.Rows
inductive V where
 | non | bl (b:Bool) | int (i:Int) | str (x:Str) | byt (b:Array UInt8) | flt (b:UInt64) | ref (a:Addr) | ty (n:String)
 deriving DecidableEq
def RelV:V -> Value -> Prop
 | .non,u => u = Value.none
 | .bl b,u => u = Value.bool b
 | .int i,u => ∃ t,u = Value.int i t
 | .str x,u => ∃ t,u = Value.str x t
 | .byt b,u => ∃ t,u = Value.bytes b t
 | .flt b,u => ∃ t,u = Value.float b t
 | .ref a,u => u = Value.ref a
 | .ty n,u => u = Value.type n
abbrev Vals:List V -> List Value -> Prop:=Paired RelV
theorem Vals.length {xs:List V} {us:List Value} (r:Vals xs us):xs.length = us.length:=Paired.length r
theorem Vals.get:∀ {xs:List V} {us:List Value} {i:Nat} {x:V},Vals xs us -> xs[i]? = some x -> ∃ u,us[i]? = some u ∧ RelV x u
 | _,_,_,_,.nil,e => by simp at e
 | _,_,0,_,.cons r _,e => by simp at e; subst e; exact ⟨_,rfl,r⟩
 | _,_,i + 1,x,.cons _ t,e => by
  obtain ⟨u,h1,h2⟩:=Vals.get (i:=i) (x:=x) t (by simpa using e)
  exact ⟨u,by simpa using h1,h2⟩
theorem Vals.set {x:V} {u:Value} (r:RelV x u):∀ {xs:List V} {us:List Value} (i:Nat),Vals xs us -> Vals (xs.set i x) (us.set i u)
 | _,_,_,.nil => .nil
 | _,_,0,.cons _ t => .cons r t
 | _,_,i + 1,.cons q t => .cons q (Vals.set r i t)
theorem Vals.append:∀ {xs ys:List V} {us ws:List Value},Vals xs us -> Vals ys ws -> Vals (xs ++ ys) (us ++ ws)
 | _,_,_,_,.nil,s => s
 | _,_,_,_,.cons r t,s => .cons r (Vals.append t s)
theorem Vals.take:∀ {xs:List V} {us:List Value} (n:Nat),Vals xs us -> Vals (xs.take n) (us.take n)
 | _,_,0,_ => .nil
 | _,_,_ + 1,.nil => .nil
 | _,_,n + 1,.cons r t => .cons r (Vals.take n t)
theorem Vals.drop:∀ {xs:List V} {us:List Value} (n:Nat),Vals xs us -> Vals (xs.drop n) (us.drop n)
 | _,_,0,r => r
 | _,_,_ + 1,.nil => .nil
 | _,_,n + 1,.cons _ t => Vals.drop n t
def GN:Option V -> Option Value -> Prop
 | some v,some u => RelV v u
 | none,none => True
 | _,_ => False
def KV {κ:Type}:List (κ × V) -> List (κ × Value) -> Prop:=Paired fun (p:κ × V) (q:κ × Value) => p.1 = q.1 ∧ RelV p.2 q.2
def kV:Key -> V
 | .inl i => .int i
 | .inr x => .str x
inductive HO where
  | lst (xs:List V)
  | tup (xs:List V)
  | dK (kvs:List (Key × V)) | dT (kvs:List (List Key × V))
  | set (S:Int -> Bool) (n:Nat)
  | ins (C dx:Addr) (fs:List (Str × V))
  | own (x:Addr)
  | xd (fs:List (Str × V))
  | met (f x:Addr)
  | rng (lo hi:Int)
  | frz (o:Obj) (u:HO)
  | tbl (ps:Array Value)
  | ext (φ:Heap -> Prop)
abbrev Hp:=Addr -> Option HO
def upd (H:Hp) (a:Addr) (o:HO):Hp:=fun b => if b = a then some o else H b
theorem aQ {H:Hp} {a:Addr} {o:HO}:upd H a o a = some o:=by unfold upd; rw [if_pos rfl]
theorem az {H:Hp} {a b:Addr} {o:HO} (h:b ≠ a):upd H a o b = H b:=by unfold upd; rw [if_neg h]
theorem BH {H:Hp} {a:Addr} {o u:HO}:upd (upd H a o) a u = upd H a u:= by
 funext b; unfold upd; split <;> rfl
theorem cm {H:Hp} {a b:Addr} {o:HO} (h:H a = some o) (h':H b = none):a ≠ b:= by
 intro e; subst e; rw [h] at h'; cases h'
def tP (h:Heap) (a:Addr) (items:Array Value):Prop:=IsTup h a items ∧ ∃ o,h.get? a = some o ∧ o.dict = none
theorem tP.new (h:Heap) (items:Array Value):tP (h.push { cls:=.type "tuple",data:=.seq items }) h.objs.size items:=⟨IsTup.new _ _,_,Heap.get?_push_size _ rfl,rfl⟩
section
variable (P:Program) (w:World)
def dM (H:Hp) (h:Heap) (a:Addr):HO -> Prop
 | .lst xs => xs.length ≤ sizeLine ∧ ∃ (its:List Value) (n:Nat),Vals xs its ∧ h.get? a = some { cls:=.type "list",data:=.seq its.toArray n }
 | .tup xs => xs.length ≤ sizeLine ∧ ∃ its:List Value,Vals xs its ∧ tP h a its.toArray
 | .dK kvs => kvs.length ≤ sizeLine ∧ (a == sysModules) = false ∧ ∃ vs,KV kvs vs ∧ h.DictOf (pK P w) a vs
 | .dT kvs => kvs.length ≤ sizeLine ∧ (a == sysModules) = false ∧ ∃ xs:List (List Key × Addr × Value),
   Paired (fun (p:List Key × V) (q:List Key × Addr × Value) => p.1 = q.1 ∧ H q.2.1 = some (.tup (p.1.map kV)) ∧ RelV p.2 q.2.2) kvs xs ∧
   ∃ o es ep,h.get? a = some o ∧ o.ExactDict ∧ o.data = .dict es ep ∧ es.toList = xs.map (entryOfKey (tupleKind (pK P w))) ∧ (xs.map (·.1)).Nodup
 | .set S n => h.SetOf (intKind P w) a S n
 | .ins C dx fs => H dx = some (.own a) ∧ fs.length ≤ 1000 ∧ dx ≠ a ∧ h.get? a = some (PySem.W.instObj C dx) ∧
   ∃ mA,h.Ns1 dx mA ∧ (∀ f,GN (fs.lookup f) (mA f)) ∧ PySem.Within mA (fs.map (·.1))
 | .own _ => ∃ o,h.get? a = some o
 | .xd fs => ∃ mA,h.Ns1 a mA ∧ ∀ f,GN (fs.lookup f) (mA f)
 | .rng lo hi => ∃ t u v,h.get? a = some { cls:=.type "range",data:=.fields #[.int lo t,.int hi u,.int 1 v] }
 | .frz o u => h.get? a = some o ∧ dM H h a u
 | .tbl ps => h.get? a = some { cls:=.none,data:=.fields ps }
 | .met f x => h.get? a = some (PySem.W.methodObj (.ref f) (.ref x))
 | .ext φ => φ h ∧ (∃ o,h.get? a = some o) ∧ ∀ h1 h2:Heap,φ h1 -> (∀ o,h1.get? a = some o -> h2.get? a = some o) -> φ h2
def mE (H:Hp) (h:Heap):Prop:=∀ a o,H a = some o -> dM P w H h a o
end
section
variable {P:Program} {w:World} {H H':Hp} {h h':Heap} {a:Addr} {o:HO}
theorem dM.lt (x:dM P w H h a o):a < h.objs.size:= by
 cases o with
 | lst xs => obtain ⟨_,_,_,_,e⟩:=x; exact Heap.lt_size e
 | tup xs => obtain ⟨_,_,_,p⟩:=x; exact p.1.lt
 | dK kvs => obtain ⟨_,_,_,_,o,_,_,e,_⟩:=x; exact Heap.lt_size e
 | dT kvs => obtain ⟨_,_,_,_,o,_,_,e,_⟩:=x; exact Heap.lt_size e
 | set S n => obtain ⟨o,_,_,_,e,_⟩:=x; exact Heap.lt_size e
 | ins C dx fs => obtain ⟨_,_,_,e,_⟩:=x; exact Heap.lt_size e
 | own y => obtain ⟨_,e⟩:=x; exact Heap.lt_size e
 | xd fs => obtain ⟨_,⟨_,_,_,e,_⟩,_⟩:=x; exact Heap.lt_size e
 | rng lo hi => obtain ⟨_,_,_,e⟩:=x; exact Heap.lt_size e
 | frz ob u => obtain ⟨e,_⟩:=x; exact Heap.lt_size e
 | tbl ps => exact Heap.lt_size (show h.get? a = some _ from x)
 | met f y => exact Heap.lt_size (show h.get? a = some _ from x)
 | ext φ => obtain ⟨_,⟨_,e⟩,_⟩:=x; exact Heap.lt_size e
theorem Paired.mapP {α β:Type} {F G:α -> β -> Prop}:∀ {l₁:List α} {l₂:List β},Paired F l₁ l₂ -> (∀ a b,F a b -> G a b) -> Paired G l₁ l₂
 | _,_,.nil,_ => .nil
 | _,_,.cons r t,f => .cons (f _ _ r) (Paired.mapP t f)
theorem dM.stay (x:dM P w H h a o) (k:∀ b u,(b = a ∨ H b = some (.own a)) -> h.get? b = some u -> h'.get? b = some u)
  (ho:∀ b,H b = some (.own a) -> H' b = some (.own a)) (ht:∀ b xs,H b = some (.tup xs) -> H' b = some (.tup xs)):dM P w H' h' a o:= by
 induction o with
 | lst xs => obtain ⟨z,its,n,r,e⟩:=x; exact ⟨z,its,n,r,k _ _ (.inl rfl) e⟩
 | tup xs => obtain ⟨z,its,r,⟨ob,e,c⟩,ob2,e2,d⟩:=x; exact ⟨z,its,r,⟨ob,k _ _ (.inl rfl) e,c⟩,ob2,k _ _ (.inl rfl) e2,d⟩
 | dK kvs => obtain ⟨z,y,vs,r,ob,es,ep,e,c⟩:=x; exact ⟨z,y,vs,r,ob,es,ep,k _ _ (.inl rfl) e,c⟩
 | dT kvs =>
  obtain ⟨z,y,xs,r,ob,es,ep,e,c⟩:=x
  exact ⟨z,y,xs,Paired.mapP r fun p q z => ⟨z.1,ht _ _ z.2.1,z.2.2⟩,ob,es,ep,k _ _ (.inl rfl) e,c⟩
 | set S n => obtain ⟨ob,es,ep,t,e,c⟩:=x; exact ⟨ob,es,ep,t,k _ _ (.inl rfl) e,c⟩
 | ins C dx fs =>
  obtain ⟨d,z,ne,e,mA,⟨od,es,ep,e2,c⟩,r⟩:=x
  exact ⟨ho _ d,z,ne,k _ _ (.inl rfl) e,mA,⟨od,es,ep,k _ _ (.inr d) e2,c⟩,r⟩
 | own y => obtain ⟨ob,e⟩:=x; exact ⟨ob,k _ _ (.inl rfl) e⟩
 | xd fs => obtain ⟨mA,⟨od,es,ep,e,c⟩,r⟩:=x; exact ⟨mA,⟨od,es,ep,k _ _ (.inl rfl) e,c⟩,r⟩
 | rng lo hi => obtain ⟨t,u,v,e⟩:=x; exact ⟨t,u,v,k _ _ (.inl rfl) e⟩
 | frz ob u ih => obtain ⟨e,q⟩:=x; exact ⟨k _ _ (.inl rfl) e,ih q⟩
 | tbl ps =>
  have e:h.get? a = some { cls:=.none,data:=.fields ps }:=x
  show h'.get? a = some { cls:=.none,data:=.fields ps }
  exact k a _ (.inl rfl) e
 | met f y =>
  have e:h.get? a = some (PySem.W.methodObj (.ref f) (.ref y)):=x
  show h'.get? a = some (PySem.W.methodObj (.ref f) (.ref y))
  exact k a _ (.inl rfl) e
 | ext φ => obtain ⟨p,⟨o,e⟩,st⟩:=x; exact ⟨st _ _ p fun o q => k _ _ (.inl rfl) q,⟨o,k _ _ (.inl rfl) e⟩,st⟩
theorem mE.lt (x:mE P w H h) (e:H a = some o):a < h.objs.size:=(x a o e).lt
theorem mE.fresh (x:mE P w H h) (e:h.objs.size ≤ a):H a = none:= by
 cases q:H a with
 | none => rfl
 | some u => exact absurd (Nat.lt_of_lt_of_le (x.lt q) e) (Nat.lt_irrefl _)
theorem mE.kept (x:mE P w H h) (k:∀ b u,h.get? b = some u -> h'.get? b = some u):mE P w H h':=fun a o e =>
 (x a o e).stay (fun b u _ q => k b u q) (fun _ q => q) fun _ _ q => q
theorem mE.laid (x:mE P w H h) (k:∀ b u,h.get? b = some u -> h'.get? b = some u) (hp:h.objs.size ≤ a) (new:dM P w (upd H a o) h' a o):mE P w (upd H a o) h':=fun b u e => by
 have hn:=x.fresh hp
 by_cases hb:b = a
 ·subst hb; rw [aQ] at e; cases e; exact new
 ·rw [az hb] at e
  exact (x b u e).stay (fun c v _ q => k c v q) (fun c q => by rw [az (cm q hn)]; exact q) fun c xs q => by rw [az (cm q hn)]; exact q
end
def Rd (H:Hp) (a:Addr) (u:HO):Prop:=H a = some u ∨ ∃ o,H a = some (.frz o u)
theorem Rd.ok {P:Program} {w:World} {H:Hp} {h:Heap} {a:Addr} {u:HO} (r:Rd H a u) (x:mE P w H h):dM P w H h a u:= by
 rcases r with r | ⟨o,r⟩
 ·exact x a u r
 ·obtain ⟨_,q⟩:=x a _ r
  exact q
def Ip:Option HO -> Prop
 | some (.lst _) => True
 | some (.dK _) => True
 | some (.dT _) => True
 | some (.set _ _) => True
 | some (.ins _ _ _) => True
 | some (.ext _) => True
 | _ => False
section
variable {P:Program} {w:World} {H:Hp} {h h':Heap} {x e:Addr} {o':HO}
theorem mE.write (ok:mE P w H h) (mu:Ip (H x)) (he:e = x ∨ H e = some (.own x)) (k:∀ b u,b ≠ e -> h.get? b = some u -> h'.get? b = some u) (heo:∃ u,h'.get? e = some u)
  (new:dM P w (upd H x o') h' x o'):mE P w (upd H x o') h':=fun b u q => by
 have nown:∀ c y,H c = some (.own y) -> c ≠ x:=fun c y r z => by subst z; rw [r] at mu; exact mu
 have ntup:∀ c xs,H c = some (.tup xs) -> c ≠ x:=fun c xs r z => by subst z; rw [r] at mu; exact mu
 by_cases hb:b = x
 ·subst hb; rw [aQ] at q; cases q; exact new
 ·rw [az hb] at q
  by_cases hbe:b = e
  ·have q':H b = some (.own x):= by
    rcases he with z | z
    ·exact absurd (hbe.trans z) hb
    ·rw [hbe]; exact z
   rw [q] at q'; cases q'
   obtain ⟨v,hv⟩:=heo
   exact ⟨v,by rw [hbe]; exact hv⟩
  ·refine (ok b u q).stay (fun c v hc r => k c v ?_ r) (fun c r => by rw [az (nown c b r)]; exact r) fun c xs r => by rw [az (ntup c xs r)]; exact r
   rcases hc with rfl | hc
   ·exact hbe
   ·rintro rfl
    rcases he with z | z
    ·exact nown c b hc z
    ·rw [hc] at z; cases z; exact hb rfl
end
structure Un (fs ex:List Addr) (H H':Hp) (h h':Heap):Prop where
 keep:∀ b o,h.get? b = some o -> H b = none -> b ∉ fs -> b ∉ ex -> h'.get? b = some o
 slot:∀ b o,h.get? b = some o -> H b = none -> b ∈ fs -> b ∉ ex -> ∃ sl,h'.get? b = some { o with slots:=sl }
 free:∀ b o,h.get? b = some o -> H b = none -> b ∉ ex -> H' b = none
 there:∀ b o,h.get? b = some o -> b ∉ ex -> ∃ o',h'.get? b = some o'
 tups:∀ b xs,H b = some (.tup xs) -> H' b = some (.tup xs)
 frzs:∀ b o u,H b = some (.frz o u) -> H' b = some (.frz o u)
 tbls:∀ b ps,H b = some (.tbl ps) -> ∃ more,H' b = some (.tbl (ps ++ more))
section
variable {fs fs' ex ex':List Addr} {H H1 H2:Hp} {h h1 h2 h':Heap} {a x e:Addr} {o:HO}
theorem Un.any (u:Un fs ex H H1 h h1) {b:Addr} {ob:Obj} (q:h.get? b = some ob) (n:H b = none) (hx:b ∉ ex):∃ sl,h1.get? b = some { ob with slots:=sl }:= by
 by_cases hb:b ∈ fs
 ·exact u.slot b ob q n hb hx
 ·exact ⟨ob.slots,u.keep b ob q n hb hx⟩
theorem Un.kept (k:∀ b u,h.get? b = some u -> h'.get? b = some u):Un fs ex H H h h' :=
 ⟨fun b ob q _ _ _ => k b ob q,fun b ob q _ _ _ => ⟨ob.slots,k b ob q⟩,fun _ _ _ n _ => n,fun b ob q _ => ⟨ob,k b ob q⟩,fun _ _ q => q,fun _ _ _ q => q,fun _ ps q => ⟨#[],by rw [q]; simp⟩⟩
theorem Un.refl:Un fs ex H H h h:=Un.kept fun _ _ q => q
theorem Un.laid (k:∀ b u,h.get? b = some u -> h'.get? b = some u) (hp:h.objs.size ≤ a) (hn:H a = none):Un fs ex H (upd H a o) h h' where
 keep:=fun b u q _ _ _ => k b u q
 slot:=fun b u q _ _ _ => ⟨u.slots,k b u q⟩
 free:=fun b u q n _ => by rw [az (Nat.ne_of_lt (Nat.lt_of_lt_of_le (Heap.lt_size q) hp))]; exact n
 there:=fun b u q _ => ⟨u,k b u q⟩
 tups:=fun b xs q => by rw [az (cm q hn)]; exact q
 frzs:=fun b u xs q => by rw [az (cm q hn)]; exact q
 tbls:=fun b ps q => ⟨#[],by rw [az (cm q hn),q]; simp⟩
theorem Un.write (mu:Ip (H x)) (he:e = x ∨ H e = some (.own x)) (k:∀ b u,b ≠ e -> h.get? b = some u -> h'.get? b = some u) (heo:∃ u,h'.get? e = some u):Un fs ex H (upd H x o) h h':= by
 have hx:∀ b,H b = none -> b ≠ x:=fun b n z => by subst z; rw [n] at mu; exact mu
 have hb:∀ b,H b = none -> b ≠ e:=fun b n z => by
  subst z
  rcases he with r | r
  ·exact hx b n r
  ·rw [n] at r; cases r
 have hm:∀ b u,H b = some u -> ¬ Ip (some u) -> b ≠ x:=fun b u q nm z => by subst z; rw [q] at mu; exact nm mu
 refine ⟨fun b u q n _ _ => k b u (hb b n) q,fun b u q n _ _ => ⟨u.slots,k b u (hb b n) q⟩,fun b u q n _ => by rw [az (hx b n)]; exact n,fun b u q _ => ?_,
  fun b xs q => by rw [az (hm b _ q fun z => z)]; exact q,fun b u xs q => by rw [az (hm b _ q fun z => z)]; exact q,fun b ps q => ⟨#[],by rw [az (hm b _ q fun z => z),q]; simp⟩⟩
 by_cases hbe:b = e
 ·subst hbe; exact heo
 ·exact ⟨u,k b u hbe q⟩
end
def Ig (h:Heap) (H:Hp):List Addr:=(List.range h.objs.size).filter fun a => (H a).isSome
def qi (h:Heap) (H:Hp):Heap:=PySem.W.hideAll h (Ig h H)
theorem vA (h:Heap) (H:Hp):(qi h H).objs.size = h.objs.size:=PySem.W.hideAll_size _ _
theorem yU {h:Heap} {H:Hp} {b:Addr} {o:Obj} (e:h.get? b = some o) (n:H b = none):(qi h H).get? b = some o :=
 PySem.W.hideAll_get _ e fun hm => by
  have q:(H b).isSome = true:=(List.mem_filter.mp hm).2
  rw [n] at q; simp at q
theorem AK {h:Heap} {H:Hp} {b:Addr} {o:Obj} (e:(qi h H).get? b = some o):h.get? b = some o ∧ H b = none:= by
 have e':h.get? b = some o:=PySem.W.of_hideAll (Ig h H) e
 refine ⟨e',?_⟩
 cases q:H b with
 | none => rfl
 | some x =>
  have hm:b ∈ Ig h H:=List.mem_filter.mpr ⟨List.mem_range.mpr (Heap.lt_size e'),by simp [q]⟩
  have z:(qi h H).get? b = none:=PySem.W.hideAll_none (Ig h H) hm
  rw [z] at e; cases e
def Ay (g h:Heap) (L:Addr):List (Addr × Obj):=(List.range h.objs.size).filterMap fun a => if a = L ∨ (g.get? a).isSome = true then none else (h.get? a).map fun o => (a,o)
def rest (g h:Heap) (L d:Addr):List (Addr × Obj):=(Ay g h L).filter fun p => decide (p.1 ≠ d)
end L2
namespace L2
open PySem PySem.Spec PyProof.Rows
structure Mod (K:PySem.W.Frag) (mg:Str -> Option Value) (base:Heap):Prop where
 kin:K.In base
 glob:base.Ns mainGlobals mg
 blt:∃ mb,base.Ns builtinsNs mb ∧ ∀ x:Str,x ≠ "__name__" -> mb x = bootBuiltins x
 nolimit:base.NoLimit
structure Cx where
 prog:Program
 w:World
 K:PySem.W.Frag
 mg:Str -> Option Value
 base:Heap
 A:Around
 N:List Str
 s₀:Shared
 H₀:Hp
 env:Env
 outer:List Env
 stack:List Env
 ex:List Addr
 fn:Str -> Bool
 calm:Bool
 pn:List (Addr × Obj)
 xe:Value -> Shared -> Prop
def wk (l:List Env):List Addr:=l.filterMap (·.frame)
abbrev Cx.fs (X:Cx):List Addr:=wk X.outer
def ug (sc:Scope) (x:Str):Prop:=sc.names.lookup x = some .local ∨ sc.names.lookup x = some .cell ∨ sc.names.lookup x = some .free
def Loc (sc:Scope) (x:Str):Prop:=sc.names.lookup x = some .local ∨ sc.names.lookup x = some .cell
def Look (env:Env) (h:Heap) (m:Str -> Option Value) (x:Str) (u:Value):Prop :=
 (env.kindOf x = some .local ∧ m x = some u) ∨ ((env.kindOf x = some .cell ∨ env.kindOf x = some .free) ∧ ∃ c,env.cells.lookup x = some c ∧ h.IsCell c (some u))
structure Cx.Ok (X:Cx):Prop where
 mod:Mod X.K X.mg X.base
 kind:X.env.scope.kind = .function
 glob:X.env.globals = mainGlobals
 blt:X.env.builtins = builtinsNs
 above:X.s₀.heap.objs.size ≤ X.env.locals
 inj:∀ x y c,X.env.cells.lookup x = some c -> X.env.cells.lookup y = some c -> x = y
 has:∀ x,(X.env.kindOf x = some .cell ∨ X.env.kindOf x = some .free) -> ∃ c,X.env.cells.lookup x = some c
 cab:∀ x c,X.fn x = true -> X.env.cells.lookup x = some c -> X.s₀.heap.objs.size ≤ c
 hd:X.calm = true -> X.A.handled = none
 frames:X.A.frames = some X.stack
 stk:X.stack = X.outer ∨ (X.stack = X.env :: X.outer ∧ X.env.frame = some X.env.locals)
 exf:∀ b ∈ X.ex,b ≠ X.env.locals ∧ ∀ x c,X.env.cells.lookup x = some c -> c ≠ b
 bs:∀ b o,X.base.get? b = some o -> X.s₀.heap.get? b = some o ∧ X.H₀ b = none
 bsz:X.base.objs.size ≤ X.s₀.heap.objs.size
 noex:∀ b o,X.base.get? b = some o -> b ∉ X.ex
 exfs:∀ b ∈ X.ex,b ∉ X.fs
 funs:X.s₀.heap.FunFrames X.base X.outer
 frf:∀ b ∈ X.fs,X.H₀ b = none
structure Inv (X:Cx) (pins:List (Addr × Obj)) (σ:List (Option V)) (H:Hp) (s:Shared):Prop where
 ok:X.Ok
 os:s.os = X.s₀.os
 bare:AllBare s.gens
 base:Un X.fs X.ex X.H₀ H X.s₀.heap s.heap
 loc:∃ m,s.heap.Ns X.env.locals m ∧ ∀ (i:Nat) (x:Str) (v:V),X.N[i]? = some x -> σ[i]? = some (some v) -> ug X.env.scope x -> ∃ u,RelV v u ∧ Look X.env s.heap m x u
 cell:∀ x c,X.env.cells.lookup x = some c -> ∃ v,s.heap.IsCell c v
 free:H X.env.locals = none
 freeC:∀ x c,X.env.cells.lookup x = some c -> H c = none
 pin:∀ p ∈ X.pn ++ pins,s.heap.get? p.1 = some p.2 ∧ H p.1 = none ∧ p.1 ≠ X.env.locals ∧ p.1 ∉ X.fs ∧ ∀ v,p.2.data ≠ .cell v
 hok:mE X.prog X.w H s.heap
 len:σ.length = X.N.length
section
variable {X:Cx} {pins:List (Addr × Obj)} {σ:List (Option V)} {H H':Hp} {s:Shared} {h':Heap}
theorem Cx.Ok.nofr (ok:X.Ok) {b:Addr} {o:Obj} (e:X.base.get? b = some o):b ∉ X.fs:=fun hb => by
 have:=(ok.funs.mem hb).1
 rw [e] at this; cases this
theorem Inv.bs (I:Inv X pins σ H s):∀ b o,X.base.get? b = some o -> s.heap.get? b = some o ∧ H b = none:=fun b o e =>
 ⟨I.base.keep b o (I.ok.bs b o e).1 (I.ok.bs b o e).2 (I.ok.nofr e) (I.ok.noex b o e),I.base.free b o (I.ok.bs b o e).1 (I.ok.bs b o e).2 (I.ok.noex b o e)⟩
theorem Inv.bk (I:Inv X pins σ H s):∀ b o,X.base.get? b = some o -> s.heap.get? b = some o:=fun b o e => (I.bs b o e).1
theorem Inv.mod (I:Inv X pins σ H s):Mod X.K X.mg X.base:=I.ok.mod
theorem Inv.kIn (I:Inv X pins σ H s):X.K.In s.heap:=I.ok.mod.kin.keeps I.bk
theorem Inv.fr (I:Inv X pins σ H s):∃ m,Fr X.base X.env.locals s.heap m :=
 let ⟨m,hn,_⟩:=I.loc
 ⟨m,hn,I.bk,Nat.le_trans I.ok.bsz I.ok.above⟩
theorem Inv.lt (I:Inv X pins σ H s):X.env.locals < s.heap.objs.size:=let ⟨_,hn,_⟩:=I.loc; hn.lt
theorem Inv.sz (I:Inv X pins σ H s):X.s₀.heap.objs.size ≤ s.heap.objs.size:=Nat.le_trans I.ok.above (Nat.le_of_lt I.lt)
theorem Inv.nofs (I:Inv X pins σ H s) {a:Addr} (h:s.heap.objs.size ≤ a):a ∉ X.fs:=fun hb => by
 obtain ⟨_,o,ho,_⟩:=I.ok.funs.mem hb
 exact absurd (Nat.lt_of_lt_of_le (Heap.lt_size ho) (Nat.le_trans I.sz h)) (Nat.lt_irrefl _)
theorem Inv.cne (I:Inv X pins σ H s):∀ x c,X.env.cells.lookup x = some c -> c ≠ X.env.locals:=fun x c e z => by
 obtain ⟨v,o,ho,hd⟩:=I.cell x c e
 obtain ⟨m,⟨o',es,ep,ho',hd',_⟩,_⟩:=I.loc
 rw [z,ho'] at ho; cases ho; rw [hd'] at hd; cases hd
theorem Inv.funs (I:Inv X pins σ H s):s.heap.FunFrames X.base X.outer:= by
 have all:∀ (l:List Env),(∀ b ∈ wk l,b ∈ X.fs) -> X.s₀.heap.FunFrames X.base l -> s.heap.FunFrames X.base l:= by
  intro l
  induction l with
  | nil => intro _ _; trivial
  | cons env r ih =>
   intro hs hl
   obtain ⟨hk,⟨L,o,hf,hn,ho,hd⟩,hr⟩:=hl
   have hL:L ∈ X.fs:=hs L (by unfold wk; rw [List.filterMap_cons,hf]; exact List.mem_cons_self)
   obtain ⟨sl,e⟩:=I.base.slot L o ho (I.ok.frf L hL) hL fun z => I.ok.exfs L z hL
   exact ⟨hk,⟨L,_,hf,hn,e,hd⟩,ih (fun b hb => hs b (by unfold wk; rw [List.filterMap_cons,hf]; exact List.mem_cons_of_mem _ hb)) hr⟩
 exact all X.outer (fun _ hb => hb) I.ok.funs
theorem Inv.stack (I:Inv X pins σ H s):s.heap.FunFrames X.base X.stack:= by
 rcases I.ok.stk with e | ⟨e,hf⟩
 ·rw [e]; exact I.funs
 ·rw [e]
  obtain ⟨m,hn,_⟩:=I.loc
  refine .cons (by rw [I.ok.kind]; decide) hf hn ?_ I.funs
  exact Heap.get?_none_of_le (Nat.le_trans I.ok.bsz I.ok.above)
theorem Inv.stkSub (I:Inv X pins σ H s):∀ b ∈ wk X.stack,b ∈ X.env.locals :: X.fs:=fun b hb => by
 rcases I.ok.stk with e | ⟨e,hf⟩
 ·rw [e] at hb; exact List.mem_cons_of_mem _ hb
 ·rw [e] at hb
  unfold wk at hb
  rw [List.filterMap_cons,hf] at hb
  exact hb
theorem Inv.stkFree (I:Inv X pins σ H s):∀ b ∈ wk X.stack,H b = none:=fun b hb => by
 rcases List.mem_cons.mp (I.stkSub b hb) with e | hb
 ·rw [e]; exact I.free
 ·obtain ⟨_,o,ho,_⟩:=I.ok.funs.mem hb
  exact I.base.free b o ho (I.ok.frf b hb) fun z => I.ok.exfs b z hb
theorem Inv.step {g':Array GenState} {t':Nat} {d':Drawn} {ch:List Addr} (I:Inv X pins σ H s)
  (hch:∀ b ∈ ch,(b ∈ X.ex ∨ X.s₀.heap.objs.size ≤ b) ∧ b ≠ X.env.locals ∧ (∀ x c,X.env.cells.lookup x = some c -> c ≠ b) ∧ ∀ p ∈ X.pn ++ pins,p.1 ≠ b)
  (keep:∀ b o,b ≠ X.env.locals -> b ∉ X.fs -> b ∉ ch -> s.heap.get? b = some o -> H b = none -> h'.get? b = some o)
  (slot:∀ b o,b ≠ X.env.locals -> b ∈ X.fs -> b ∉ ch -> s.heap.get? b = some o -> H b = none -> ∃ sl,h'.get? b = some { o with slots:=sl }) (free:∀ b o,b ∉ ch -> s.heap.get? b = some o -> H b = none -> H' b = none)
  (there:∀ b o,b ∉ ch -> s.heap.get? b = some o -> ∃ o',h'.get? b = some o')
  (tups:∀ b xs,H b = some (.tup xs) -> H' b = some (.tup xs)) (frzs:∀ b o u,H b = some (.frz o u) -> H' b = some (.frz o u)) (tbls:∀ b ps,H b = some (.tbl ps) -> ∃ more,H' b = some (.tbl (ps ++ more)))
  (ns:∀ m,s.heap.Ns X.env.locals m -> h'.Ns X.env.locals m) (hok:mE X.prog X.w H' h') (hg:AllBare g') :
  Inv X pins σ H' { s with heap:=h',gens:=g',drawn:=d',toks:=t' }:= by
 have neL:∀ b o,X.s₀.heap.get? b = some o -> b ≠ X.env.locals:=fun b o e => Nat.ne_of_lt (Nat.lt_of_lt_of_le (Heap.lt_size e) I.ok.above)
 have neC:∀ b o,X.s₀.heap.get? b = some o -> b ∉ X.ex -> b ∉ ch:=fun b o e hx hb => by
  rcases (hch b hb).1 with z | z
  ·exact hx z
  ·exact absurd (Nat.lt_of_lt_of_le (Heap.lt_size e) z) (Nat.lt_irrefl _)
 have cellK:∀ x c,X.env.cells.lookup x = some c -> ∀ v,s.heap.IsCell c v -> h'.IsCell c v:=fun x c e v ⟨o,ho,hd⟩ => by
  have nch:c ∉ ch:=fun z => (hch c z).2.2.1 x c e rfl
  by_cases hc:c ∈ X.fs
  ·obtain ⟨sl,q⟩:=slot c o (I.cne x c e) hc nch ho (I.freeC x c e)
   exact ⟨_,q,hd⟩
  ·exact ⟨o,keep c o (I.cne x c e) hc nch ho (I.freeC x c e),hd⟩
 refine ⟨I.ok,I.os,hg,⟨fun b o e n hb hx => ?_,fun b o e n hb hx => ?_,fun b o e n hx => ?_,fun b o e hx => ?_,fun b xs e => tups b xs (I.base.tups b xs e),fun b o xs e => frzs b o xs (I.base.frzs b o xs e),fun b ps e => ?_⟩,?_,fun x c e => ?_,?_,fun x c e => ?_,fun p hp => ?_,hok,I.len⟩
 ·exact keep b o (neL b o e) hb (neC b o e hx) (I.base.keep b o e n hb hx) (I.base.free b o e n hx)
 ·obtain ⟨sl,e1⟩:=I.base.slot b o e n hb hx
  obtain ⟨sl',e2⟩:=slot b _ (neL b o e) hb (neC b o e hx) e1 (I.base.free b o e n hx)
  exact ⟨sl',e2⟩
 ·obtain ⟨o',e1⟩:=I.base.there b o e hx
  exact free b o' (neC b o e hx) e1 (I.base.free b o e n hx)
 ·obtain ⟨o',e1⟩:=I.base.there b o e hx
  exact there b o' (neC b o e hx) e1
 ·obtain ⟨m1,e1⟩:=I.base.tbls b ps e
  obtain ⟨m2,e2⟩:=tbls b _ e1
  exact ⟨m1 ++ m2,by rw [e2,Array.append_assoc]⟩
 ·obtain ⟨m,hn,hl⟩:=I.loc
  refine ⟨m,ns m hn,fun i x v e1 e2 e3 => ?_⟩
  obtain ⟨u,r,l⟩:=hl i x v e1 e2 e3
  refine ⟨u,r,?_⟩
  rcases l with l | ⟨k,c,e,z⟩
  ·exact .inl l
  ·exact .inr ⟨k,c,e,cellK x c e _ z⟩
 ·obtain ⟨v,z⟩:=I.cell x c e
  exact ⟨v,cellK x c e v z⟩
 ·obtain ⟨m,⟨o,_,_,ho,_⟩,_⟩:=I.loc
  exact free _ o (fun z => (hch _ z).2.1 rfl) ho I.free
 ·obtain ⟨v,o,ho,hd⟩:=I.cell x c e
  exact free c o (fun z => (hch c z).2.2.1 x c e rfl) ho (I.freeC x c e)
 ·obtain ⟨e,n,ne,nf,d⟩:=I.pin p hp
  have nch:p.1 ∉ ch:=fun z => (hch p.1 z).2.2.2 p hp rfl
  exact ⟨keep p.1 p.2 ne nf nch e n,free p.1 p.2 nch e n,ne,nf,d⟩
theorem Inv.un {t':Nat} (I:Inv X pins σ H s) (u:Un X.fs [] H H' s.heap h') (hok:mE X.prog X.w H' h'):Inv X pins σ H' { s with heap:=h',toks:=t' }:= by
 obtain ⟨m,⟨o,es,ep,ho,r⟩,_⟩:=id I.loc
 obtain ⟨sl,hL⟩:=u.any ho I.free (by simp)
 exact I.step (g':=s.gens) (d':=s.drawn) (ch:=[]) (fun _ z => nomatch z) (fun b o _ hb _ e n => u.keep b o e n hb (by simp)) (fun b o _ hb _ e n => u.slot b o e n hb (by simp)) (fun b o _ e n => u.free b o e n (by simp)) (fun b o _ e => u.there b o e (by simp)) u.tups u.frzs u.tbls (fun m' hm => by
  obtain ⟨o',es',ep',ho',r'⟩:=hm
  rw [ho] at ho'; cases ho'
  exact ⟨_,es',ep',hL,r'⟩) hok I.bare
theorem Inv.call {g':Array GenState} {t':Nat} {d':Drawn} {ch:List Addr} (I:Inv X pins σ H s) (u:Un (wk X.stack) ch H H' s.heap h') (hok:mE X.prog X.w H' h') (hg:AllBare g')
  (hch:∀ b ∈ ch,(b ∈ X.ex ∨ X.s₀.heap.objs.size ≤ b) ∧ b ≠ X.env.locals ∧ (∀ x c,X.env.cells.lookup x = some c -> c ≠ b) ∧ ∀ p ∈ X.pn ++ pins,p.1 ≠ b) :
  Inv X pins σ H' { s with heap:=h',gens:=g',drawn:=d',toks:=t' }:= by
 obtain ⟨m,⟨o,es,ep,ho,r⟩,_⟩:=id I.loc
 obtain ⟨sl,hL⟩:=u.any ho I.free fun z => (hch _ z).2.1 rfl
 exact I.step (ch:=ch) hch (fun b o hL hb hc e n => u.keep b o e n (fun z => (List.mem_cons.mp (I.stkSub b z)).elim hL hb) hc) (fun b o _ _ hc e n => u.any e n hc) (fun b o hc e n => u.free b o e n hc) (fun b o hc e => u.there b o e hc) u.tups u.frzs u.tbls (fun m' hm => by
  obtain ⟨o',es',ep',ho',r'⟩:=hm
  rw [ho] at ho'; cases ho'
  exact ⟨_,es',ep',hL,r'⟩) hok hg
theorem Inv.turned {t':Nat} {it:Addr} (I:Inv X pins σ H s) (k:∀ b o,b ≠ it -> s.heap.get? b = some o -> h'.get? b = some o) (hn:H it = none) (hL:it ≠ X.env.locals)
  (h1:it ∈ X.ex ∨ X.s₀.heap.objs.size ≤ it) (h2:∀ x c,X.env.cells.lookup x = some c -> c ≠ it) (h3:∀ p ∈ X.pn ++ pins,p.1 ≠ it):Inv X pins σ H { s with heap:=h',toks:=t' }:= by
 have nit:∀ b u,H b = some u -> b ≠ it:=fun b u e z => by rw [z,hn] at e; cases e
 refine I.step (g':=s.gens) (d':=s.drawn) (ch:=[it]) (fun b hb => ?_) (fun b o _ _ hc e _ => k b o (fun z => hc (by simp [z])) e) (fun b o _ _ hc e _ => ⟨o.slots,k b o (fun z => hc (by simp [z])) e⟩) (fun _ _ _ _ n => n)
  (fun b o hc e => ⟨o,k b o (fun z => hc (by simp [z])) e⟩) (fun _ _ e => e) (fun _ _ _ e => e) (fun b ps e => ⟨#[],by rw [e]; simp⟩) (fun m hm => ?_) (fun b u e => ?_) I.bare
 ·have e:b = it:=by simpa using hb
  subst e
  exact ⟨h1,hL,h2,h3⟩
 ·obtain ⟨o,es,ep,ho,r⟩:=hm
  exact ⟨o,es,ep,k _ o (Ne.symm hL) ho,r⟩
 ·refine (I.hok b u e).stay (fun c v hc q => k c v ?_ q) (fun _ q => q) fun _ _ q => q
  rcases hc with z | z
  ·rw [z]; exact nit b u e
  ·exact nit c _ z
theorem Inv.tok (I:Inv X pins σ H s) (t:Nat):Inv X pins σ H { s with toks:=t }:=I.un (h':=s.heap) (t':=t) Un.refl I.hok
theorem Inv.kept {t':Nat} (I:Inv X pins σ H s) (k:∀ b u,s.heap.get? b = some u -> h'.get? b = some u):Inv X pins σ H { s with heap:=h',toks:=t' }:=I.un (Un.kept k) (I.hok.kept k)
theorem Inv.laid {a:Addr} {o:HO} {t':Nat} (I:Inv X pins σ H s) (k:∀ b u,s.heap.get? b = some u -> h'.get? b = some u) (hp:s.heap.objs.size ≤ a) (new:dM X.prog X.w (upd H a o) h' a o) :
  Inv X pins σ (upd H a o) { s with heap:=h',toks:=t' }:=I.un (Un.laid k hp (I.hok.fresh hp)) (I.hok.laid k hp new)
theorem Inv.write {x e:Addr} {o:HO} {t':Nat} (I:Inv X pins σ H s) (mu:Ip (H x)) (he:e = x ∨ H e = some (.own x)) (k:∀ b u,b ≠ e -> s.heap.get? b = some u -> h'.get? b = some u) (heo:∃ u,h'.get? e = some u)
  (new:dM X.prog X.w (upd H x o) h' x o):Inv X pins σ (upd H x o) { s with heap:=h',toks:=t' }:=I.un (Un.write mu he k heo) (I.hok.write mu he k heo new)
theorem Inv.weak {σ':List (Option V)} (I:Inv X pins σ H s) (hl:σ'.length = σ.length) (w:∀ (i:Nat) v,σ'[i]? = some (some v) -> σ[i]? = some (some v)):Inv X pins σ' H s :=
 ⟨I.ok,I.os,I.bare,I.base,let ⟨m,hn,hl'⟩:=I.loc; ⟨m,hn,fun i x v e1 e2 e3 => hl' i x v e1 (w i v e2) e3⟩,I.cell,I.free,I.freeC,I.pin,I.hok,hl.trans I.len⟩
theorem Inv.pins_of {pins':List (Addr × Obj)} (I:Inv X pins σ H s) (h:∀ p ∈ pins',s.heap.get? p.1 = some p.2 ∧ H p.1 = none ∧ p.1 ≠ X.env.locals ∧ p.1 ∉ X.fs ∧ ∀ v,p.2.data ≠ .cell v):Inv X pins' σ H s :=
 ⟨I.ok,I.os,I.bare,I.base,I.loc,I.cell,I.free,I.freeC,fun p hp => (List.mem_append.mp hp).elim (fun z => I.pin p (List.mem_append_left _ z)) (h p),I.hok,I.len⟩
theorem qL {N:List Str} (hN:N.Nodup) {i j:Nat} {x:Str} (a:N[i]? = some x) (b:N[j]? = some x):i = j:= by
 obtain ⟨h1,e1⟩:=List.getElem?_eq_some_iff.mp a
 obtain ⟨h2,e2⟩:=List.getElem?_eq_some_iff.mp b
 exact (List.getElem_inj hN).mp (e1.trans e2.symm)
theorem oo {M:Model} {A:Around} {E:Value -> Shared -> Prop} {i:Nat} {x:Str} {v:V} {u:Value} {Q:Unit -> Shared -> Prop} (I:Inv X pins σ H s) (hN:X.N.Nodup) (hi:X.N[i]? = some x) (hx:Loc X.env.scope x) (r:RelV v u)
  (h:∀ s',Inv X pins (σ.set i (some v)) H s' -> (∃ a,Heap.SameBut a s.heap s'.heap ∧ (a = X.env.locals ∨ X.env.cells.lookup x = some a)) -> Q () s') (hf:X.fn x = true ∨ X.env.scope.names.lookup x = some .local:=by first | exact .inl rfl | exact .inr rfl | assumption):wpAny M A (storeName X.env x u) Q E s:= by
 obtain ⟨m,hn,hl⟩:=id I.loc
 have hcls:(X.env.scope.kind == .class || (X.env.scope.kind == .module && X.env.locals != X.env.globals)) = false:=by rw [I.ok.kind]; rfl
 have hiσ:i < σ.length:=by rw [I.len]; exact (List.getElem?_eq_some_iff.mp hi).1
 have cne:=I.cne
 have tracked:∀ {a:Addr} {h':Heap},(∃ o,s.heap.get? a = some o ∧ H a = none) -> Heap.SameBut a s.heap h' -> mE X.prog X.w H h':=fun {a h'} ha hs b ob e => by
  obtain ⟨_,_,hfree⟩:=ha
  refine (I.hok b ob e).stay (fun c w' hc q => (hs.2 c ?_).trans q) (fun _ q => q) fun _ _ q => q
  rintro rfl
  rcases hc with rfl | hc
  ·rw [hfree] at e; cases e
  ·rw [hfree] at hc; cases hc
 rcases hx with hk | hk
 ·refine wpAny_storeName_local hk hn (fun h' hn' hs => ?_) hcls
  obtain ⟨oL,_,_,hoL,_⟩:=id hn
  refine h _ ⟨I.ok,I.os,I.bare,⟨fun b o e n hb hx => ?_,fun b o e n hb hx => ?_,I.base.free,fun b o e hx => ?_,I.base.tups,I.base.frzs,I.base.tbls⟩,⟨_,hn',fun j y v' e1 e2 e3 => ?_⟩,fun y c e => ?_,I.free,I.freeC,fun p hp => ?_,tracked ⟨oL,hoL,I.free⟩ hs,by simpa using I.len⟩ ⟨_,hs,.inl rfl⟩
  ·exact (hs.2 b (Nat.ne_of_lt (Nat.lt_of_lt_of_le (Heap.lt_size e) I.ok.above))).trans (I.base.keep b o e n hb hx)
  ·obtain ⟨sl,e1⟩:=I.base.slot b o e n hb hx
   exact ⟨sl,(hs.2 b (Nat.ne_of_lt (Nat.lt_of_lt_of_le (Heap.lt_size e) I.ok.above))).trans e1⟩
  ·obtain ⟨o',e1⟩:=I.base.there b o e hx
   exact ⟨o',(hs.2 b (Nat.ne_of_lt (Nat.lt_of_lt_of_le (Heap.lt_size e) I.ok.above))).trans e1⟩
  ·by_cases hj:j = i
   ·subst hj
    rw [hi] at e1; cases e1
    rw [List.getElem?_set_self hiσ] at e2
    cases e2
    exact ⟨u,r,.inl ⟨hk,by simp⟩⟩
   ·rw [List.getElem?_set_ne (Ne.symm hj)] at e2
    obtain ⟨u',r',q⟩:=hl j y v' e1 e2 e3
    refine ⟨u',r',?_⟩
    rcases q with ⟨k,e⟩ | ⟨k,c,e,z⟩
    ·refine .inl ⟨k,?_⟩
     have:y ≠ x:=fun e => hj (qL hN e1 (e ▸ hi))
     simp [this,e]
    ·exact .inr ⟨k,c,e,z.sameBut hs (cne y c e)⟩
  ·obtain ⟨w',z⟩:=I.cell y c e
   exact ⟨w',z.sameBut hs (cne y c e)⟩
  ·obtain ⟨e,n,ne,nf,d⟩:=I.pin p hp
   exact ⟨(hs.2 p.1 ne).trans e,n,ne,nf,d⟩
 ·have hfn:X.fn x = true:= by
   rcases hf with z | z
   ·exact z
   ·rw [z] at hk; cases hk
  obtain ⟨c,hc⟩:=I.ok.has x (.inl hk)
  obtain ⟨w',z⟩:=I.cell x c hc
  refine wpAny_storeName_cell I.ok.kind hk hc z (fun h' hc' hs => ?_)
  obtain ⟨oc,hoc,hocd⟩:=id z
  refine h { s with heap:=h' } ⟨I.ok,I.os,I.bare,⟨fun b o e n hb hx => ?_,fun b o e n hb hx => ?_,I.base.free,fun b o e hx => ?_,I.base.tups,I.base.frzs,I.base.tbls⟩,⟨m,hn.sameBut hs (Ne.symm (cne x c hc)),fun j y v' e1 e2 e3 => ?_⟩,fun y c' e => ?_,I.free,I.freeC,fun p hp => ?_,tracked ⟨oc,hoc,I.freeC x c hc⟩ hs,by simpa using I.len⟩ ⟨c,hs,.inr hc⟩
  ·exact (hs.2 b (Nat.ne_of_lt (Nat.lt_of_lt_of_le (Heap.lt_size e) (I.ok.cab x c hfn hc)))).trans (I.base.keep b o e n hb hx)
  ·obtain ⟨sl,e1⟩:=I.base.slot b o e n hb hx
   exact ⟨sl,(hs.2 b (Nat.ne_of_lt (Nat.lt_of_lt_of_le (Heap.lt_size e) (I.ok.cab x c hfn hc)))).trans e1⟩
  ·obtain ⟨o',e1⟩:=I.base.there b o e hx
   exact ⟨o',(hs.2 b (Nat.ne_of_lt (Nat.lt_of_lt_of_le (Heap.lt_size e) (I.ok.cab x c hfn hc)))).trans e1⟩
  ·by_cases hj:j = i
   ·subst hj
    rw [hi] at e1; cases e1
    rw [List.getElem?_set_self hiσ] at e2
    cases e2
    exact ⟨u,r,.inr ⟨.inl hk,c,hc,hc'⟩⟩
   ·rw [List.getElem?_set_ne (Ne.symm hj)] at e2
    obtain ⟨u',r',q⟩:=hl j y v' e1 e2 e3
    refine ⟨u',r',?_⟩
    rcases q with q | ⟨k,c',e,z'⟩
    ·exact .inl q
    ·refine .inr ⟨k,c',e,z'.sameBut hs ?_⟩
     rintro rfl
     exact hj (qL hN e1 (I.ok.inj _ _ _ e hc ▸ hi))
  ·by_cases hcc:c' = c
   ·subst hcc; exact ⟨_,hc'⟩
   ·obtain ⟨w2,z2⟩:=I.cell y c' e
    exact ⟨w2,z2.sameBut hs hcc⟩
  ·obtain ⟨e,n,ne,nf,d⟩:=I.pin p hp
   refine ⟨(hs.2 p.1 ?_).trans e,n,ne,nf,d⟩
   intro q
   rw [q,hoc] at e
   have q':oc = p.2:=Option.some.inj e
   exact d w' (by rw [<- q']; exact hocd)
theorem qH {M:Model} {A:Around} {E:Value -> Shared -> Prop} {i:Nat} {x:Str} {v:V} {u:Value} {Q:Unit -> Shared -> Prop} (I:Inv X pins σ H s) (hN:X.N.Nodup) (hi:X.N[i]? = some x) (hx:Loc X.env.scope x) (r:RelV v u)
  (h:∀ s',Inv X pins (σ.set i (some v)) H s' -> Q () s') (hf:X.fn x = true ∨ X.env.scope.names.lookup x = some .local:=by first | exact .inl rfl | exact .inr rfl | assumption):wpAny M A (storeName X.env x u) Q E s :=
 oo I hN hi hx r (fun s' I' _ => h s' I') hf
theorem Inv.call' {s':Shared} {ch:List Addr} (I:Inv X pins σ H s) (ho:s'.os = s.os) (u:Un (wk X.stack) ch H H' s.heap s'.heap) (hok:mE X.prog X.w H' s'.heap) (hg:AllBare s'.gens)
  (hch:∀ b ∈ ch,(b ∈ X.ex ∨ X.s₀.heap.objs.size ≤ b) ∧ b ≠ X.env.locals ∧ (∀ x c,X.env.cells.lookup x = some c -> c ≠ b) ∧ ∀ p ∈ X.pn ++ pins,p.1 ≠ b):Inv X pins σ H' s':= by
 obtain ⟨h',g',d',t',o'⟩:=s'
 have e:o' = s.os:=ho
 subst e
 exact I.call (g':=g') (t':=t') (d':=d') u hok hg hch
end
abbrev XK:=Value -> Option Addr -> Hp -> Prop
abbrev St:=List (Option V)
abbrev VK:=V -> Hp -> Prop
abbrev TE:=St -> Hp -> VK -> Prop
abbrev TT:=St -> Hp -> (Bool -> Hp -> Prop) -> Prop
abbrev TA:=St -> Hp -> (List V -> Hp -> Prop) -> Prop
structure Ends where
 nx:St -> Hp -> Prop
 rt:VK
 bk:St -> Hp -> Prop:=fun _ _ => False
 ct:St -> Hp -> Prop:=fun _ _ => False
abbrev TS:=Ends -> St -> Hp -> Prop
def EP (X:Cx) (pins:List (Addr × Obj)) (σ:St) (Q:VK) (u:Value) (s':Shared):Prop:=∃ v H',Inv X pins σ H' s' ∧ RelV v u ∧ Q v H'
def TP (X:Cx) (pins:List (Addr × Obj)) (σ:St) (Q:Bool -> Hp -> Prop) (b:Bool) (s':Shared):Prop:=∃ H',Inv X pins σ H' s' ∧ Q b H'
def AP (X:Cx) (pins:List (Addr × Obj)) (σ:St) (Q:List V -> Hp -> Prop) (us:List Value) (s':Shared):Prop:=∃ vs H',Inv X pins σ H' s' ∧ Vals vs us ∧ Q vs H'
def SP (X:Cx) (pins:List (Addr × Obj)) (D:Ends) (f:Flow) (s':Shared):Prop :=
 match f with
 | .next => ∃ σ' H',Inv X pins σ' H' s' ∧ D.nx σ' H'
 | .brk => ∃ σ' H',Inv X pins σ' H' s' ∧ D.bk σ' H'
 | .cont => ∃ σ' H',Inv X pins σ' H' s' ∧ D.ct σ' H'
 | .ret u => ∃ v σ' H',Inv X pins σ' H' s' ∧ RelV v u ∧ D.rt v H'
def PE (X:Cx) (e:Expr) (t:TE):Prop :=
 ∀ (pins:List (Addr × Obj)) (s:Shared) (σ:St) (H:Hp) (Q:VK),Inv X pins σ H s -> t σ H Q -> wpAny (model X.prog X.w) X.A (eval e X.env) (EP X pins σ Q) X.xe s
def PT (X:Cx) (e:Expr) (t:TT):Prop :=
 ∀ (pins:List (Addr × Obj)) (s:Shared) (σ:St) (H:Hp) (Q:Bool -> Hp -> Prop),Inv X pins σ H s -> t σ H Q -> wpAny (model X.prog X.w) X.A (isTrue e X.env (eval e X.env)) (TP X pins σ Q) X.xe s
def PW (X:Cx) (e:Expr) (t:TT):Prop :=
 ∀ (whole:Sem Value) (pins:List (Addr × Obj)) (s:Shared) (σ:St) (H:Hp) (Q:Bool -> Hp -> Prop),Inv X pins σ H s -> t σ H Q -> wpAny (model X.prog X.w) X.A (isTrue e X.env whole) (TP X pins σ Q) X.xe s
theorem PW.pt {X:Cx} {e:Expr} {t:TT} (h:PW X e t):PT X e t:=h _
def PA (X:Cx) (es:List Expr) (t:TA):Prop :=
 ∀ (pos:Pos) (pins:List (Addr × Obj)) (s:Shared) (σ:St) (H:Hp) (Q:List V -> Hp -> Prop),Inv X pins σ H s -> t σ H Q -> wpAny (model X.prog X.w) X.A (spliced (backTo pos (starEach es X.env))) (AP X pins σ Q) X.xe s
def PS (X:Cx) (st:Stmt) (t:TS):Prop :=
 ∀ (pins:List (Addr × Obj)) (s:Shared) (σ:St) (H:Hp) (D:Ends),Inv X pins σ H s -> t D σ H -> wpAny (model X.prog X.w) X.A (exec st X.env) (SP X pins D) X.xe s
def rY (X:Cx) (st:List Stmt) (t:TS):Prop :=
 ∀ (pins:List (Addr × Obj)) (s:Shared) (σ:St) (H:Hp) (D:Ends),Inv X pins σ H s -> t D σ H -> wpAny (model X.prog X.w) X.A (execs st X.env) (SP X pins D) X.xe s
theorem cT {α:Type} {t:Sem α} {Q Q':α -> Shared -> Prop} {M:Model} {A:Around} {E:Value -> Shared -> Prop} {s:Shared} (h:wpAny M A t Q E s) (hQ:∀ a s,Q a s -> Q' a s):wpAny M A t Q' E s:=wpAny_mono h hQ fun _ _ x => x
end L2
namespace L2
open PySem PySem.Spec PyProof.Rows
section
variable {X:Cx}
theorem bin {a b:Expr} {ta tb:TE} (ha:PE X a ta) (hb:PE X b tb) {pins:List (Addr × Obj)} {s:Shared} {σ:St} {H:Hp} {R:V -> V -> Hp -> Prop} (I:Inv X pins σ H s) (h:ta σ H fun x H1 => tb σ H1 fun y H2 => R x y H2)
  {α:Type} {Q:α -> Shared -> Prop} {f:Value -> Value -> Sem α}
  (hf:∀ v u s2 x y H2,Inv X pins σ H2 s2 -> RelV x v -> RelV y u -> R x y H2 -> wpAny (model X.prog X.w) X.A (f v u) Q X.xe s2) :
  wpAny (model X.prog X.w) X.A (eval a X.env) (fun v s₁ => wpAny (model X.prog X.w) X.A (eval b X.env) (fun u s₂ => wpAny (model X.prog X.w) X.A (f v u) Q X.xe s₂) X.xe s₁) X.xe s:= by
 refine cT (ha pins s σ H _ I h) fun v s1 ⟨x,H1,I1,r1,q1⟩ => ?_
 refine cT (hb pins s1 σ H1 _ I1 q1) fun u s2 ⟨y,H2,I2,r2,q2⟩ => ?_
 exact hf v u s2 x y H2 I2 r1 r2 q2
def Jw (i:Nat):TE:=fun σ H Q => ∃ v,σ[i]? = some (some v) ∧ Q v H
def tC (v:V):TE:=fun _ H Q => Q v H
theorem eJ {i:Nat} {x:Str} {pos:Pos} (hN:X.N[i]? = some x) (hv:ug X.env.scope x) (hd:(x == ("__debug__":Str)) = false:=by decide) (hcd:(x == ("__classdict__":Str)) = false:=by decide):PE X (.Name x pos) (Jw i):= by
 intro pins s σ H Q I h
 obtain ⟨v,e,h⟩:=h
 obtain ⟨m,hn,hl⟩:=I.loc
 obtain ⟨u,r,l⟩:=hl i x v hN e hv
 have fin:EP X pins σ Q u s:=⟨v,H,I,r,h⟩
 rcases l with ⟨hk,hm⟩ | ⟨hk,c,hc,hcell⟩
 ·exact wpAny_Name (wpAny_loadName_local I.ok.kind hk hn hm fin) hd
 ·rcases hk with hk | hk
  ·exact wpAny_Name (wpAny_loadName_cell I.ok.kind hk hc hcell fin) hd
  ·exact wpAny_Name (wpAny_loadName_free I.ok.kind hk hc hcell fin hcd) hd
theorem tQ {i j pos}:PE X (.Constant (.int i) j pos) (tC (.int i)):=fun _ _ _ H _ I h => wpAny_Constant_int ⟨.int i,H,I.tok _,⟨_,rfl⟩,h⟩
theorem Gz {b j pos}:PE X (.Constant (.bool b) j pos) (tC (.bl b)):=fun _ _ _ H _ I h => Constant_bool ⟨.bl b,H,I,rfl,h⟩
theorem Fg {j pos}:PE X (.Constant .none j pos) (tC .non):=fun _ _ _ H _ I h => Constant_none ⟨.non,H,I,rfl,h⟩
theorem E5 {x j pos}:PE X (.Constant (.str x) j pos) (tC (.str x)):=fun _ _ _ H _ I h => Calls.Constant_str ⟨.str x,H,I.tok _,⟨_,rfl⟩,h⟩
def Gl (X:Cx) (x:Str):Prop:=X.env.kindOf x = some .globalImplicit
theorem uG {E:Value -> Shared -> Prop} {pins:List (Addr × Obj)} {s:Shared} {σ:St} {H:Hp} {x:Str} {u:Value} {pos:Pos} {Q:Value -> Shared -> Prop} (I:Inv X pins σ H s) (hg:Gl X x) (hm:X.mg x = some u) (h:Q u s)
  (hd:(x == ("__debug__":Str)) = false:=by decide):wpAny (model X.prog X.w) X.A (eval (.Name x pos) X.env) Q E s :=
 Calls.Name_function_global I.ok.kind hg (Calls.loadGlobal_global (by rw [I.ok.glob]; exact I.mod.glob.keeps I.bk) hm h) hd
theorem gq {E:Value -> Shared -> Prop} {pins:List (Addr × Obj)} {s:Shared} {σ:St} {H:Hp} {x:Str} {u:Value} {pos:Pos} {Q:Value -> Shared -> Prop} (I:Inv X pins σ H s) (hg:Gl X x) (hm:X.mg x = none) (hv:bootBuiltins x = some u) (h:Q u s)
  (hn:x ≠ "__name__":=by decide) (hd:(x == ("__debug__":Str)) = false:=by decide):wpAny (model X.prog X.w) X.A (eval (.Name x pos) X.env) Q E s:= by
 obtain ⟨mb,h1,h2⟩:=I.mod.blt
 exact Calls.Name_function_global I.ok.kind hg (Calls.loadGlobal_builtin (by rw [I.ok.glob]; exact I.mod.glob.keeps I.bk) hm (by rw [I.ok.blt]; exact h1.keeps I.bk) ((h2 x hn).trans hv) h) hd
theorem B5 {x:Str} {v:V} {u:Value} {pos:Pos} (hg:Gl X x) (hm:X.mg x = some u) (r:RelV v u) (hd:(x == ("__debug__":Str)) = false:=by decide):PE X (.Name x pos) (tC v) :=
 fun _ _ _ H _ I h => uG I hg hm ⟨v,H,I,r,h⟩ hd
theorem Cc {x:Str} {v:V} {u:Value} {pos:Pos} (hg:Gl X x) (hm:X.mg x = none) (hv:bootBuiltins x = some u) (r:RelV v u) (hn:x ≠ "__name__":=by decide) (hd:(x == ("__debug__":Str)) = false:=by decide):PE X (.Name x pos) (tC v) :=
 fun _ _ _ H _ I h => gq I hg hm hv ⟨v,H,I,r,h⟩ hn hd
variable {a b:Expr} {ta tb:TE} {pos:Pos}
variable {tA tB':TT} {rest:List Expr}
def IA (t u:TT):TT:=fun σ H Q => t σ H fun c H1 => if c = true then u σ H1 Q else Q false H1
def JQ (t u:TT):TT:=fun σ H Q => t σ H fun c H1 => if c = true then Q true H1 else u σ H1 Q
def Jb (t:TT):TT:=fun σ H Q => t σ H fun c H1 => Q (!c) H1
theorem A0 (ha:PT X a tA):PW X (.BoolOp .And [a] pos) tA:= by
 intro wh pins s σ H Q I h
 refine isTrue_and (cT (ha pins s σ H Q I h) fun c s1 e => ?_)
 cases c with
 | true => exact isTrue_and_nil e
 | false => exact e
theorem ED (ha:PT X a tA):PW X (.BoolOp .Or [a] pos) tA:= by
 intro wh pins s σ H Q I h
 refine isTrue_or (cT (ha pins s σ H Q I h) fun c s1 e => ?_)
 cases c with
 | false => exact isTrue_or_nil e
 | true => exact e
theorem Dy (ha:PT X a tA) (hb:PW X (.BoolOp .And (b :: rest) pos) tB'):PW X (.BoolOp .And (a :: b :: rest) pos) (IA tA tB'):= by
 intro wh pins s σ H Q I h
 refine isTrue_and (cT (ha pins s σ H _ I h) fun c s1 ⟨H1,I1,q1⟩ => ?_)
 cases c with
 | true => exact hb wh pins s1 σ H1 Q I1 q1
 | false => exact ⟨H1,I1,q1⟩
theorem Ho (ha:PT X a tA) (hb:PW X (.BoolOp .Or (b :: rest) pos) tB'):PW X (.BoolOp .Or (a :: b :: rest) pos) (JQ tA tB'):= by
 intro wh pins s σ H Q I h
 refine isTrue_or (cT (ha pins s σ H _ I h) fun c s1 ⟨H1,I1,q1⟩ => ?_)
 cases c with
 | true => exact ⟨H1,I1,q1⟩
 | false => exact hb wh pins s1 σ H1 Q I1 q1
theorem D4 (ha:PT X a tA):PT X (.UnaryOp .Not a pos) (Jb tA):= by
 intro pins s σ H Q I h
 exact isTrue_not (ha pins s σ H (fun c H1 => Q (!c) H1) I h)
def G8 (ta tb:TE):TE:=fun σ H Q => ta σ H fun x H1 => ∃ c,x = .bl c ∧ if c = true then tb σ H1 Q else Q (.bl false) H1
def HQ (ta:TE):TE:=fun σ H Q => ta σ H fun x H1 => ∃ c,x = .bl c ∧ Q (.bl (!c)) H1
theorem Ec {op} {t:TE} (h:PE X a t):PE X (.BoolOp op [a] pos) t:=fun pins s σ H Q I hw => BoolOp_one (h pins s σ H Q I hw)
theorem Fc (ha:PE X a ta) (hb:PE X (.BoolOp .And (b :: rest) pos) tb):PE X (.BoolOp .And (a :: b :: rest) pos) (G8 ta tb):= by
 intro pins s σ H Q I h
 refine BoolOp_and (cT (ha pins s σ H _ I h) fun v s1 ⟨x,H1,I1,r1,q1⟩ => ?_)
 obtain ⟨c,rfl,q1⟩:=q1
 cases r1
 refine wpAny_truthy_bool ?_
 cases c with
 | true => exact hb pins s1 σ H1 Q I1 q1
 | false => exact ⟨.bl false,H1,I1,rfl,q1⟩
theorem E_ (ha:PE X a ta):PE X (.UnaryOp .Not a pos) (HQ ta):= by
 intro pins s σ H Q I h
 refine UnaryOp_ (cT (ha pins s σ H _ I h) fun v s1 ⟨x,H1,I1,r1,q1⟩ => ?_)
 obtain ⟨c,rfl,q1⟩:=q1
 cases r1
 exact not_of (wpAny_truthy_bool ⟨.bl (!c),H1,I1,rfl,q1⟩)
def JZ (t:TT) (ta tb:TE):TE:=fun σ H Q => t σ H fun c H1 => if c = true then ta σ H1 Q else tb σ H1 Q
theorem yp {c:Expr} (hc:PT X c tA) (ha:PE X a ta) (hb:PE X b tb):PE X (.IfExp c a b pos) (JZ tA ta tb):= by
 intro pins s σ H Q I h
 refine wpAny_IfExp (cT (hc pins s σ H _ I h) fun d s1 ⟨H1,I1,q1⟩ => ?_)
 cases d with
 | true => exact ha pins s1 σ H1 Q I1 q1
 | false => exact hb pins s1 σ H1 Q I1 q1
end
end L2
namespace L2
open PySem PySem.Spec PyProof.Rows
def ip (K:PySem.W.Frag) (H:Hp) (a:Addr) (xs:List V):Prop :=
 Rd H a (.lst xs) ∨
  ∃ (o:Obj) (its:Array Value) (n:Nat),K.lookup a = some o ∧ o.cls = .type "list" ∧ o.dict = none ∧ o.data = .seq its n ∧ its.size ≤ sizeLine ∧ Vals xs its.toList
def iP (K:PySem.W.Frag) (H:Hp) (a:Addr) (xs:List V):Prop :=
 Rd H a (.tup xs) ∨
  ∃ (o:Obj) (its:Array Value) (n:Nat),K.lookup a = some o ∧ o.cls = .type "tuple" ∧ o.data = .seq its n ∧ its.size ≤ sizeLine ∧ Vals xs its.toList
def Jg:Value -> Option V
 | .none => some .non
 | .bool b => some (.bl b)
 | .int i _ => some (.int i)
 | .str x _ => some (.str x)
 | .bytes b _ => some (.byt b)
 | .float b _ => some (.flt b)
 | .ref a => some (.ref a)
 | .type n => some (.ty n)
 | _ => none
theorem RelV.abs {x:V} {u:Value} (r:RelV x u):Jg u = some x:= by
 cases x with
 | non => cases r; rfl
 | bl _ => cases r; rfl
 | int _ => obtain ⟨t,rfl⟩:=r; rfl
 | str _ => obtain ⟨t,rfl⟩:=r; rfl
 | byt _ => obtain ⟨t,rfl⟩:=r; rfl
 | flt _ => obtain ⟨t,rfl⟩:=r; rfl
 | ref _ => cases r; rfl
 | ty _ => cases r; rfl
theorem RelV.inj {x y:V} {u:Value} (r:RelV x u) (q:RelV y u):x = y:=Option.some.inj (r.abs.symm.trans q.abs)
theorem Vals.inj:∀ {xs ys:List V} {us:List Value},Vals xs us -> Vals ys us -> xs = ys
 | _,_,_,.nil,.nil => rfl
 | _,_,_,.cons r t,.cons r' t' => by rw [r.inj r',Vals.inj t t']
section
variable {X:Cx} {pins:List (Addr × Obj)} {σ:St} {H:Hp} {s:Shared} {a:Addr} {xs ys:List V}
theorem ip.of {K:PySem.W.Frag} (h:H a = some (.lst xs)):ip K H a xs:=.inl (.inl h)
theorem iP.of {K:PySem.W.Frag} (h:H a = some (.tup xs)):iP K H a xs:=.inl (.inl h)
theorem Inv.list (I:Inv X pins σ H s) (h:ip X.K H a xs):∃ its:List Value,Vals xs its ∧ PlainL s.heap a its.toArray ∧ xs.length ≤ sizeLine:= by
 rcases h with h | ⟨o,its,n,hk,hc,hd,hs,hz,r⟩
 ·obtain ⟨z,its,n,r,e⟩:=h.ok I.hok
  exact ⟨its,r,⟨_,n,e,rfl,rfl,rfl⟩,z⟩
 ·refine ⟨its.toList,r,⟨o,n,I.kIn a o hk,hc,hd,by simpa using hs⟩,?_⟩
  have e:=r.length
  simp only [Array.length_toList] at e
  omega
theorem Inv.tuple (I:Inv X pins σ H s) (h:iP X.K H a xs):∃ its:List Value,Vals xs its ∧ IsTup s.heap a its.toArray ∧ xs.length ≤ sizeLine:= by
 rcases h with h | ⟨o,its,n,hk,hc,hs,hz,r⟩
 ·obtain ⟨z,its,r,p⟩:=h.ok I.hok
  exact ⟨its,r,p.1,z⟩
 ·refine ⟨its.toList,r,⟨o,I.kIn a o hk,hc,n,by simpa using hs⟩,?_⟩
  have e:=r.length
  simp only [Array.length_toList] at e
  omega
theorem Inv.list_inj (I:Inv X pins σ H s) (h:ip X.K H a xs) (h':ip X.K H a ys):xs = ys:= by
 obtain ⟨its,r,⟨o,n,e,_,_,d⟩,_⟩:=I.list h
 obtain ⟨its',r',⟨o',n',e',_,_,d'⟩,_⟩:=I.list h'
 rw [e] at e'; cases e'
 rw [d] at d'
 injection d' with d1 _
 have:its = its':=by simpa using congrArg Array.toList d1
 subst this
 exact r.inj r'
theorem Inv.tuple_inj (I:Inv X pins σ H s) (h:iP X.K H a xs) (h':iP X.K H a ys):xs = ys:= by
 obtain ⟨its,r,⟨o,e,_,n,d⟩,_⟩:=I.tuple h
 obtain ⟨its',r',⟨o',e',_,n',d'⟩,_⟩:=I.tuple h'
 rw [e] at e'; cases e'
 rw [d] at d'
 injection d' with d1 _
 have:its = its':=by simpa using congrArg Array.toList d1
 subst this
 exact r.inj r'
end
abbrev Cx.wish (X:Cx) (E:Value -> Shared -> Prop):Cx:={ X with xe:=E }
abbrev Cx.nox (X:Cx):Cx:=X.wish fun _ _ => False
theorem Cx.Ok.wish {X:Cx} (ok:X.Ok) (E:Value -> Shared -> Prop):(X.wish E).Ok :=
 ⟨ok.mod,ok.kind,ok.glob,ok.blt,ok.above,ok.inj,ok.has,ok.cab,ok.hd,ok.frames,ok.stk,ok.exf,ok.bs,ok.bsz,ok.noex,ok.exfs,ok.funs,ok.frf⟩
theorem Cx.Ok.unwish {X:Cx} {E:Value -> Shared -> Prop} (ok:(X.wish E).Ok):X.Ok :=
 ⟨ok.mod,ok.kind,ok.glob,ok.blt,ok.above,ok.inj,ok.has,ok.cab,ok.hd,ok.frames,ok.stk,ok.exf,ok.bs,ok.bsz,ok.noex,ok.exfs,ok.funs,ok.frf⟩
section
variable {X:Cx} {pins:List (Addr × Obj)} {σ:St} {H:Hp} {s:Shared} {E:Value -> Shared -> Prop}
theorem Inv.wish (I:Inv X pins σ H s) (E:Value -> Shared -> Prop):Inv (X.wish E) pins σ H s:=⟨I.ok.wish E,I.os,I.bare,I.base,I.loc,I.cell,I.free,I.freeC,I.pin,I.hok,I.len⟩
theorem Inv.unwish (I:Inv (X.wish E) pins σ H s):Inv X pins σ H s:=⟨I.ok.unwish,I.os,I.bare,I.base,I.loc,I.cell,I.free,I.freeC,I.pin,I.hok,I.len⟩
theorem SP.unwish {D:Ends} {f:Flow} {s':Shared} (h:SP (X.wish E) pins D f s'):SP X pins D f s':= by
 cases f with
 | next => obtain ⟨σ',H',I,q⟩:=h; exact ⟨σ',H',I.unwish,q⟩
 | brk => obtain ⟨σ',H',I,q⟩:=h; exact ⟨σ',H',I.unwish,q⟩
 | cont => obtain ⟨σ',H',I,q⟩:=h; exact ⟨σ',H',I.unwish,q⟩
 | ret u => obtain ⟨v,σ',H',I,r,q⟩:=h; exact ⟨v,σ',H',I.unwish,r,q⟩
theorem rY.nox {st:List Stmt} {t:TS} (h:rY X.nox st t):rY X st t:=fun pins s σ H D I hw =>
 wpAny_mono (h pins s σ H D (I.wish _) hw) (fun _ _ q => q.unwish) fun _ _ z => False.elim z
end
section
variable {X:Cx} {st:Stmt} {rest:List Stmt} {t u:TS} {e:Expr} {te:TE} {pos:Pos}
def G_:TS:=fun D σ H => D.nx σ H
def Ji (t u:TS):TS:=fun D σ H => t { D with nx:=u D } σ H
theorem Cj:rY X [] G_:=fun _ _ σ H _ I h => wpAny_execs_nil ⟨σ,H,I,h⟩
theorem zq (h1:PS X st t) (h2:rY X rest u):rY X (st :: rest) (Ji t u):= by
 intro pins s σ H D I h
 refine wpAny_execs_cons (cT (h1 pins s σ H { D with nx:=u D } I h) fun f s1 q => ?_)
 cases f with
 | next =>
  obtain ⟨σ',H',I',q⟩:=q
  exact h2 pins s1 σ' H' D I' q
 | ret v => exact q
 | brk => exact q
 | cont => exact q
theorem Aq (h1:PS X st t):rY X [st] t:= by
 intro pins s σ H D I h
 refine wpAny_execs_cons (cT (h1 pins s σ H D I h) fun f s1 q => ?_)
 cases f with
 | next => exact wpAny_execs_nil q
 | ret v => exact q
 | brk => exact q
 | cont => exact q
theorem Inv.quiet {pins:List (Addr × Obj)} {σ:St} {H:Hp} {s:Shared} (I:Inv X pins σ H s):interactive X.env = false:=by simp [interactive,I.ok.kind]
def HI (te:TE):TS:=fun D σ H => te σ H fun _ H1 => D.nx σ H1
theorem uR (he:PE X e te) (hs:swapsWith e none pos.line X.env = pure false:=by rfl):PS X (.Expr e pos) (HI te):= by
 intro pins s σ H D I h
 exact wpAny_Expr_any (cT (he pins s σ H _ I h) fun v s1 ⟨x,H1,I1,r1,q1⟩ => ⟨σ,H1,I1,q1⟩) I.quiet hs
def IZ (te:TE):TS:=fun D σ H => te σ H D.rt
theorem xJ (he:PE X e te):PS X (.Return (some e) pos) (IZ te):= by
 intro pins s σ H D I h
 exact wpAny_Return_some (cT (he pins s σ H _ I h) fun v s1 ⟨x,H1,I1,r1,q1⟩ => ⟨x,σ,H1,I1,r1,q1⟩)
def Jf (c:TT) (t u:TS):TS:=fun D σ H => c σ H fun b H1 => if b = true then t D σ H1 else u D σ H1
theorem Hx {c:Expr} {a b:List Stmt} {tc:TT} (hc:PT X c tc) (ha:rY X a t) (hb:rY X b u):PS X (.If c a b pos) (Jf tc t u):= by
 intro pins s σ H D I h
 refine wpAny_If (cT (hc pins s σ H _ I h) fun d s1 ⟨H1,I1,q1⟩ => ?_)
 cases d with
 | true => exact ha pins s1 σ H1 D I1 q1
 | false => exact hb pins s1 σ H1 D I1 q1
end
abbrev TG:=V -> St -> Hp -> (St -> Hp -> Prop) -> Prop
abbrev CZ:=List V -> St -> Hp -> (St -> Hp -> Prop) -> Prop
def PG (X:Cx) (target:Expr) (t:TG):Prop :=
 ∀ (pins:List (Addr × Obj)) (s:Shared) (σ:St) (H:Hp) (v:V) (u:Value) (Q:St -> Hp -> Prop),Inv X pins σ H s -> RelV v u -> t v σ H Q ->
  wpAny (model X.prog X.w) X.A (assign target X.env u) (fun _ s' => ∃ σ' H',Inv X pins σ' H' s' ∧ Q σ' H') X.xe s
def Fs (X:Cx) (ts:List Expr) (t:CZ):Prop :=
 ∀ (pins:List (Addr × Obj)) (s:Shared) (σ:St) (H:Hp) (vs:List V) (us:List Value) (Q:St -> Hp -> Prop),Inv X pins σ H s -> Vals vs us -> t vs σ H Q ->
  wpAny (model X.prog X.w) X.A (assignInOrder ((assignEach ts X.env).map (·.2)) us) (fun _ s' => ∃ σ' H',Inv X pins σ' H' s' ∧ Q σ' H') X.xe s
abbrev Eh:=V -> V -> V -> Hp -> (Hp -> Prop) -> Prop
def GH (X:Cx) (t:Eh):Prop :=
 ∀ (pins:List (Addr × Obj)) (s:Shared) (σ:St) (H:Hp) (o i v:V) (ov iv u:Value) (Q:Hp -> Prop),Inv X pins σ H s -> RelV o ov -> RelV i iv -> RelV v u -> t o i v H Q ->
  wpAny (model X.prog X.w) X.A (setItem ov iv u) (fun _ s' => ∃ H',Inv X pins σ H' s' ∧ Q H') X.xe s
section
variable {X:Cx} {pos:Pos}
def qF (i:Nat):TG:=fun v σ H Q => Q (σ.set i (some v)) H
theorem Bf {i:Nat} {x:Str} (hN:X.N.Nodup) (hi:X.N[i]? = some x) (hx:Loc X.env.scope x) (hf:X.fn x = true ∨ X.env.scope.names.lookup x = some .local:=by first | exact .inl rfl | exact .inr rfl | assumption):PG X (.Name x pos) (qF i):= by
 intro pins s σ H v u Q I r h
 exact wpAny_assign_Name (qH I hN hi hx r (fun s' I' => ⟨_,H,I',h⟩) hf)
def Js:CZ:=fun vs σ H Q => vs = [] ∧ Q σ H
def GI (t:TG) (u:CZ):CZ:=fun vs σ H Q => ∃ v r,vs = v :: r ∧ t v σ H fun σ' H' => u r σ' H' Q
theorem Br:Fs X [] Js:= by
 intro pins s σ H vs us Q I r h
 obtain ⟨e,h⟩:=h
 subst e
 cases r
 exact assignInOrder_nil ⟨σ,H,I,h⟩
theorem zg {e:Expr} {es:List Expr} {t:TG} {u:CZ} (h1:PG X e t) (h2:Fs X es u)
  (hs:(assignEach (e :: es) X.env).map (·.2) = assign e X.env :: (assignEach es X.env).map (·.2):=by rfl):Fs X (e :: es) (GI t u):= by
 intro pins s σ H vs us Q I r h
 obtain ⟨v,vr,e1,h⟩:=h
 subst e1
 cases r with
 | cons r rr =>
  rw [hs]
  refine assignInOrder_cons (cT (h1 pins s σ H _ _ _ I r h) fun _ s1 ⟨σ1,H1,I1,q1⟩ => ?_)
  exact h2 pins s1 σ1 H1 _ _ Q I1 rr q1
def Jq (K:PySem.W.Frag) (n:Nat) (t:CZ):TG:=fun v σ H Q => ∃ a xs,v = .ref a ∧ iP K H a xs ∧ xs.length = n ∧ t xs σ H Q
theorem FC {es:List Expr} {k:Nat} {t:CZ} {n:Nat} (hc:X.calm = true) (h:Fs X es t)
  (hn:(assignEach es X.env).length = n:=by rfl) (hst:(assignEach es X.env).findIdx? (·.1) = none:=by rfl):PG X (.Tuple es k pos) (Jq X.K n t):= by
 intro pins s σ H v u Q I r hw
 obtain ⟨a,xs,e1,hq,hl,hw⟩:=hw
 subst e1
 cases r
 obtain ⟨its,rv,ht,hz⟩:=I.tuple hq
 refine assign_Tuple_tuple (I.ok.hd hc) ht (by simp [hn,<- hl,rv.length]) hst fun h' hx => ?_
 have I1:Inv X pins σ H { s with heap:=h' }:=I.kept (t':=s.toks) fun b o e => hx b o (Nat.ne_of_lt (Heap.lt_size e)) e
 exact h pins _ σ H xs _ Q I1 (by simpa using rv) hw
def Jn (to ti:TE) (t:Eh):TG:=fun v σ H Q => to σ H fun o H1 => ti σ H1 fun i H2 => t o i v H2 fun H3 => Q σ H3
theorem E8 {o i:Expr} {to ti:TE} {t:Eh} (ho:PE X o to) (hi:PE X i ti) (hs:GH X t)
  (ha:∀ v,assign (.Subscript o i pos) X.env v = (do
   let ov <- holding [v] (eval o X.env)
   let iv <- holding [v,ov] (eval i X.env)
   standAt pos
   holding [v,ov,iv] (setItem ov iv v)
   release [v,ov,iv] []):=by intro _; rfl):PG X (.Subscript o i pos) (Jn to ti t):= by
 intro pins s σ H v u Q I r h
 rw [ha]
 refine wpAny_bind (wpAny_holding (cT (ho pins s σ H _ I h) fun ov s1 ⟨x,H1,I1,r1,q1⟩ => ?_))
 refine wpAny_bind (wpAny_holding (cT (hi pins s1 σ H1 _ I1 q1) fun iv s2 ⟨y,H2,I2,r2,q2⟩ => ?_))
 refine wpAny_bind (wpAny_standAt (wpAny_bind (wpAny_holding (cT (hs pins s2 σ H2 x y v ov iv u _ I2 r1 r2 r q2) fun _ s3 ⟨H3,I3,q3⟩ => ?_))))
 exact wpAny_release ⟨σ,H3,I3,q3⟩
def yB (te:TE) (g:TG):TS:=fun D σ H => te σ H fun x H1 => g x σ H1 D.nx
theorem xj {tg e:Expr} {te:TE} {g:TG} (he:PE X e te) (hg:PG X tg g) (hs:swapsWithSole [tg] e pos.line X.env = pure false:=by rfl) (hw:swappedStores [tg] e X.env = pure none:=by rfl)
  (h1:(assignEach [tg] X.env).map (·.2) = [assign tg X.env]:=by rfl):PS X (.Assign [tg] e pos) (yB te g):= by
 intro pins s σ H D I h
 refine wpAny_Assign_stores (cT (he pins s σ H _ I h) fun v s1 ⟨x,H1,I1,r1,q1⟩ => ?_) hs hw
 rw [h1]
 exact cT (hg pins s1 σ H1 x v _ I1 r1 q1) fun _ s2 q => q
theorem xQ {i:Nat} {x:Str} {e:Expr} {te:TE} {pos':Pos} (hN:X.N.Nodup) (hi:X.N[i]? = some x) (hx:Loc X.env.scope x) (he:PE X e te) (hs:swapsWith e (some (.Name x pos')) pos.line X.env = pure false:=by rfl) (hf:X.fn x = true ∨ X.env.scope.names.lookup x = some .local:=by first | exact .inl rfl | exact .inr rfl | assumption) :
  PS X (.Assign [.Name x pos'] e pos) (yB te (qF i)):= by
 intro pins s σ H D I h
 refine wpAny_Assign_Name (cT (he pins s σ H _ I h) fun v s1 ⟨y,H1,I1,r1,q1⟩ => ?_) hs
 exact qH I1 hN hi hx r1 (fun s2 I2 => ⟨_,H1,I2,q1⟩) hf
end
section
variable {X:Cx} {pos:Pos}
def Dv (c:TT) (tb:TS):TS:=fun D σ H => ∃ W:Nat -> St -> Hp -> Prop,(∃ m,W m σ H) ∧ ∀ m σ H,W m σ H ->
 c σ H fun b H1 => if b = true then ∃ N:St -> Hp -> Prop,(∀ σ' H',N σ' H' -> ∃ m',m' < m ∧ W m' σ' H') ∧ tb { D with nx:=N,ct:=N,bk:=D.nx } σ H1 else D.nx σ H1
theorem zD {c:Expr} {body:List Stmt} {tc:TT} {tb:TS} (hp:PassesOwn (model X.prog X.w) X.A X.env X.xe) (hc:PT X c tc) (hb:rY X body tb):PS X (.While c body [] pos) (Dv tc tb):= by
 intro pins s σ H D I h
 obtain ⟨W,⟨m0,w0⟩,turn⟩:=h
 refine wpAny_While (codeAny_whileLoop (fun n s' => ∃ σ' H',Inv X pins σ' H' s' ∧ W n σ' H') ?_ m0 ⟨σ,H,I,w0⟩)
 rintro n s1 ⟨σ1,H1,I1,w1⟩
 refine wpAny_passesOwn hp (cT (hc pins s1 σ1 H1 _ I1 (turn n σ1 H1 w1)) fun b s2 ⟨H2,I2,q2⟩ => ?_)
 cases b with
 | true =>
  obtain ⟨N,hN,q2⟩:=q2
  rw [if_pos rfl]
  refine wpAny_passesOwn hp (cT (hb pins s2 σ1 H2 _ I2 q2) fun f s3 q3 => ?_)
  cases f with
  | next =>
   obtain ⟨σ3,H3,I3,n3⟩:=q3
   obtain ⟨m',hm,w3⟩:=hN σ3 H3 n3
   exact ⟨m',hm,σ3,H3,I3,w3⟩
  | cont =>
   obtain ⟨σ3,H3,I3,n3⟩:=q3
   obtain ⟨m',hm,w3⟩:=hN σ3 H3 n3
   exact ⟨m',hm,σ3,H3,I3,w3⟩
  | brk => exact q3
  | ret v => exact q3
 | false =>
  rw [if_neg Bool.false_ne_true]
  exact wpAny_execs_nil ⟨σ1,H2,I2,q2⟩
end
structure It where
 go:Nat -> Hp -> Prop
 yld:Nat -> Hp -> V -> Hp -> Prop
 stop:Nat -> Hp -> Prop
def jd (X:Cx) (pins:List (Addr × Obj)) (H:Hp) (b:Addr):Prop :=
 H b = none ∧ b ≠ X.env.locals ∧ b ∉ X.fs ∧ (b ∈ X.ex ∨ X.s₀.heap.objs.size ≤ b) ∧ (∀ x c,X.env.cells.lookup x = some c -> c ≠ b) ∧ ∀ p ∈ X.pn ++ pins,p.1 ≠ b
theorem Inv.fpOk {X:Cx} {pins:List (Addr × Obj)} {σ:St} {H H':Hp} {s:Shared} {b:Addr} (I:Inv X pins σ H s) (hb:s.heap.objs.size ≤ b) (hn:H' b = none):jd X pins H' b:= by
 refine ⟨hn,Nat.ne_of_gt (Nat.lt_of_lt_of_le I.lt hb),I.nofs hb,.inr (Nat.le_trans I.sz hb),fun x c e z => ?_,fun p hp z => ?_⟩
 ·obtain ⟨v,q⟩:=I.cell x c e
  exact absurd (Nat.lt_of_lt_of_le q.lt (by rw [z]; exact hb)) (Nat.lt_irrefl _)
 ·exact absurd (Nat.lt_of_lt_of_le (Heap.lt_size (I.pin p hp).1) (by rw [z]; exact hb)) (Nat.lt_irrefl _)
structure Turn (P:Program) (w:World) (K:PySem.W.Frag) (tg:Expr) (J:It) (fp:List Addr) (it:Addr) (tn:Nat -> Heap -> Prop):Prop where
 mem:it ∈ fp
 obj:∀ i h,tn i h -> ∀ b ∈ fp,∃ o,h.get? b = some o ∧ ∀ v,o.data ≠ .cell v
 keep:∀ i h h',tn i h -> (∀ b ∈ fp,∀ o,h.get? b = some o -> h'.get? b = some o) -> tn i h'
 item:∀ (X:Cx),X.prog = P -> X.w = w -> X.K = K -> X.calm = true -> ∀ (i:Nat) (pins:List (Addr × Obj)) (s:Shared) (σ:St) (H:Hp) (E:Value -> Shared -> Prop),Inv X pins σ H s -> (∀ b ∈ fp,jd X pins H b) -> tn i s.heap -> J.go i H ->
  wpAny (model P w) X.A (pyNext (.ref it)) (fun r s1 => ∃ u,r = some u ∧
   wpAny (model P w) X.A (letOwnedTupleGo tg (.ref it) u) (fun _ s2 => ∃ x H',Inv X pins σ H' s2 ∧ RelV x u ∧ J.yld i H x H' ∧ tn (i + 1) s2.heap ∧ ∀ b ∈ fp,H' b = none) E s1) E s
 done:∀ (X:Cx),X.prog = P -> X.w = w -> X.K = K -> X.calm = true -> ∀ (i:Nat) (pins:List (Addr × Obj)) (s:Shared) (σ:St) (H:Hp) (E:Value -> Shared -> Prop),Inv X pins σ H s -> (∀ b ∈ fp,jd X pins H b) -> tn i s.heap -> J.stop i H ->
  wpAny (model P w) X.A (pyNext (.ref it)) (fun r s1 => r = none ∧ Inv X pins σ H s1) E s
 self:∀ (A:Around) (i:Nat) (s:Shared) (Q:Value -> Shared -> Prop) (E:Value -> Shared -> Prop),tn i s.heap -> Q (.ref it) s -> wpAny (model P w) A (pyIter (.ref it)) Q E s
abbrev TI:=St -> Hp -> (It -> Hp -> Prop) -> Prop
def JD (X:Cx) (pins:List (Addr × Obj)) (σ:St) (tg:Expr) (R:It -> Hp -> Prop) (itv:Value) (s2:Shared):Prop :=
 ∃ (it:Addr) (fp:List Addr) (tn:Nat -> Heap -> Prop) (J:It) (H':Hp),itv = .ref it ∧ Inv X pins σ H' s2 ∧ Turn X.prog X.w X.K tg J fp it tn ∧ tn 0 s2.heap ∧ (∀ b ∈ fp,jd X pins H' b) ∧ R J H'
def PI (X:Cx) (tg iter:Expr) (wi:TI):Prop :=
 ∀ (pins:List (Addr × Obj)) (s:Shared) (σ:St) (H:Hp) (R:It -> Hp -> Prop),Inv X pins σ H s -> wi σ H R ->
  wpAny (model X.prog X.w) X.A (eval iter X.env) (fun v s1 => wpAny (model X.prog X.w) X.A (pyIter v) (JD X pins σ tg R) X.xe s1) X.xe s
theorem wB {M:Model} {A:Around} {E:Value -> Shared -> Prop} {s:Shared} {tg:Expr} {it:Addr} {u:Value} {o:Obj} {n:String} {vs:Array Value} {Q:Unit -> Shared -> Prop} (ho:s.heap.get? it = some o) (hc:o.cls = .type n) (hd:o.data = .fields vs)
  (hn:["enumerate","zip","dict_itemiterator","dict_reverseitemiterator","odict_iterator","itertools.zip_longest","itertools.pairwise"].contains n = false) (hQ:Q () s):wpAny M A (letOwnedTupleGo tg (.ref it) u) Q E s:= by
 unfold letOwnedTupleGo
 cases tg <;> first
  | exact wpAny_pure hQ
  | (cases u <;> first
    | exact wpAny_pure hQ
    | (refine wpAny_bind (wpAny_load ho ?_)
       rw [hc,hd]
       show wpAny M A (if (["enumerate","zip","dict_itemiterator","dict_reverseitemiterator","odict_iterator","itertools.zip_longest","itertools.pairwise"].contains n && vs[0]? == some (rawInt _)) = true then _ else _) Q E s
       rw [if_neg (by intro h; rw [hn,Bool.false_and] at h; cases h)]
       exact wpAny_pure hQ))
def Ie (K:PySem.W.Frag) (a:Addr):It :=
 ⟨fun i H => ∃ xs x,ip K H a xs ∧ xs[i]? = some x,fun i H x H' => H' = H ∧ ∀ xs,ip K H a xs -> xs[i]? = some x,fun i H => ∃ xs,ip K H a xs ∧ xs.length ≤ i⟩
def Jo (K:PySem.W.Frag) (a:Addr):It :=
 ⟨fun i H => ∃ xs x,iP K H a xs ∧ xs[i]? = some x,fun i H x H' => H' = H ∧ ∀ xs,iP K H a xs -> xs[i]? = some x,fun i H => ∃ xs,iP K H a xs ∧ xs.length ≤ i⟩
def Ir (lo:Int) (n:Nat):It:=⟨fun i _ => i < n,fun i H x H' => H' = H ∧ x = .int (lo + i),fun i _ => n ≤ i⟩
theorem nU {P:Program} {w:World} {K:PySem.W.Frag} {tg:Expr} (a it:Addr):Turn P w K tg (Ie K a) [it] it (fun i h => h.IsListIter it a i) where
 mem:=by simp
 obj:=fun i h st b hb => by
  have e:b = it:=by simpa using hb
  subst e
  obtain ⟨o,e,c,d⟩:=st
  exact ⟨o,e,fun v z => by rw [d] at z; cases z⟩
 keep:=fun i h h' st k => st.at fun o e => k it (by simp) o e
 item:= by
  intro X hP hw hK hc i pins s σ H E I hf st hg
  subst hP hw hK
  obtain ⟨xs,x,hq,hx⟩:=hg
  obtain ⟨its,rv,p,hz⟩:=I.list hq
  obtain ⟨u,hu,ru⟩:=rv.get hx
  obtain ⟨f0,f1,f2,f3,f4,f5⟩:=hf it (by simp)
  refine wpAny_pyNext_list_item st p.isList (x:=u) (by simpa using hu) fun h' st' sb => ?_
  have I1:Inv X pins σ H { s with heap:=h' }:=I.turned (t':=s.toks) (fun b o hb e => (sb.2 b hb).trans e) f0 f1 f3 f4 f5
  obtain ⟨o,e,c,d⟩:=id st'
  exact ⟨u,rfl,wB (s:={ s with heap:=h' }) e c d (by decide) ⟨x,H,I1,ru,⟨rfl,fun ys hy => by rw [I.list_inj hy hq]; exact hx⟩,st',fun b hb => (hf b hb).1⟩⟩
 done:= by
  intro X hP hw hK hc i pins s σ H E I hf st hg
  subst hP hw hK
  obtain ⟨xs,hq,hx⟩:=hg
  obtain ⟨its,rv,p,hz⟩:=I.list hq
  obtain ⟨f0,f1,f2,f3,f4,f5⟩:=hf it (by simp)
  have hl:=rv.length
  exact wpAny_pyNext_list_end (I.ok.hd hc) st p.isList (by simp; omega) fun h' eb => ⟨rfl,I.turned (t':=s.toks) (fun b o hb e => eb b o hb e) f0 f1 f3 f4 f5⟩
 self:=fun _ _ _ _ _ st h => wpAny_pyIter_listiter st h
theorem sO {P:Program} {w:World} {K:PySem.W.Frag} {tg:Expr} (a it:Addr):Turn P w K tg (Jo K a) [it] it (fun i h => h.IsTupleIter it a i) where
 mem:=by simp
 obj:=fun i h st b hb => by
  have e:b = it:=by simpa using hb
  subst e
  obtain ⟨o,e,c,d⟩:=st
  exact ⟨o,e,fun v z => by rw [d] at z; cases z⟩
 keep:=fun i h h' st k => st.at fun o e => k it (by simp) o e
 item:= by
  intro X hP hw hK hc i pins s σ H E I hf st hg
  subst hP hw hK
  obtain ⟨xs,x,hq,hx⟩:=hg
  obtain ⟨its,rv,p,hz⟩:=I.tuple hq
  obtain ⟨u,hu,ru⟩:=rv.get hx
  obtain ⟨f0,f1,f2,f3,f4,f5⟩:=hf it (by simp)
  refine wpAny_pyNext_tuple_item st (show s.heap.IsTuple a its.toArray from p) (x:=u) (by simpa using hu) fun h' st' sb => ?_
  have I1:Inv X pins σ H { s with heap:=h' }:=I.turned (t':=s.toks) (fun b o hb e => (sb.2 b hb).trans e) f0 f1 f3 f4 f5
  obtain ⟨o,e,c,d⟩:=id st'
  exact ⟨u,rfl,wB (s:={ s with heap:=h' }) e c d (by decide) ⟨x,H,I1,ru,⟨rfl,fun ys hy => by rw [I.tuple_inj hy hq]; exact hx⟩,st',fun b hb => (hf b hb).1⟩⟩
 done:= by
  intro X hP hw hK hc i pins s σ H E I hf st hg
  subst hP hw hK
  obtain ⟨xs,hq,hx⟩:=hg
  obtain ⟨its,rv,p,hz⟩:=I.tuple hq
  obtain ⟨f0,f1,f2,f3,f4,f5⟩:=hf it (by simp)
  have hl:=rv.length
  exact wpAny_pyNext_tuple_end (I.ok.hd hc) st (show s.heap.IsTuple a its.toArray from p) (by simp; omega) fun h' eb => ⟨rfl,I.turned (t':=s.toks) (fun b o hb e => eb b o hb e) f0 f1 f3 f4 f5⟩
 self:=fun _ _ _ _ _ st h => wpAny_pyIter_tupleiter st h
theorem t_ {P:Program} {w:World} {K:PySem.W.Frag} {tg:Expr} (it:Addr) (lo:Int) (n:Nat):Turn P w K tg (Ir lo n) [it] it (fun i h => IsRangeIter h it (lo + (i:Nat) * 1) ((n:Int) - (i:Nat)) 1) where
 mem:=by simp
 obj:=fun i h st b hb => by
  have e:b = it:=by simpa using hb
  subst e
  exact ⟨_,st,fun v z => by
   have z':Data.fields _ = Data.cell v:=z
   cases z'⟩
 keep:=fun i h h' st k => k it (by simp) _ st
 item:= by
  intro X hP hw hK hc i pins s σ H E I hf st hg
  subst hP hw hK
  obtain ⟨f0,f1,f2,f3,f4,f5⟩:=hf it (by simp)
  have W:=Walks.range (prog:=X.prog) (w:=X.w) (I.ok.hd hc) it lo 1 n
  refine W.item i s _ _ hg st fun v h' tk hv st' kk => ?_
  obtain ⟨t,rfl⟩:=hv
  have I1:Inv X pins σ H { s with heap:=h',toks:=tk }:=I.turned (fun b o hb e => kk b o (by simpa using hb) e) f0 f1 f3 f4 f5
  refine ⟨_,rfl,wB (s:={ s with heap:=h',toks:=tk }) (n:="range_iterator") st' rfl rfl (by decide) ⟨.int (lo + i),H,I1,⟨t,?_⟩,⟨rfl,rfl⟩,st',fun b hb => (hf b hb).1⟩⟩
  rw [Int.mul_one]
 done:= by
  intro X hP hw hK hc i pins s σ H E I hf st hg
  subst hP hw hK
  obtain ⟨f0,f1,f2,f3,f4,f5⟩:=hf it (by simp)
  exact wpAny_pyNext_range_end (I.ok.hd hc) st (by have:n ≤ i:=hg; omega) fun h' eb => ⟨rfl,I.turned (t':=s.toks) (fun b o hb e => eb b o hb e) f0 f1 f3 f4 f5⟩
 self:=fun _ _ _ _ _ st h => wpAny_pyIter_rangeiter st h
end L2
namespace L2
open PySem PySem.Spec PyProof.Rows
section
variable {X:Cx} {tg:Expr}
def Gj (K:PySem.W.Frag) (tl:TE):TI:=fun σ H R => tl σ H fun x H1 => ∃ a,x = .ref a ∧ (∃ xs,ip K H1 a xs) ∧ R (Ie K a) H1
theorem BO {l:Expr} {tl:TE} (hl:PE X l tl):PI X tg l (Gj X.K tl):= by
 intro pins s σ H R I h
 refine cT (hl pins s σ H _ I h) fun v s1 ⟨x,H1,I1,r1,q1⟩ => ?_
 obtain ⟨a,e,⟨xs,hq⟩,q⟩:=q1
 subst e
 cases r1
 obtain ⟨its,rv,p,hz⟩:=I1.list hq
 refine wpAny_pyIter_list p.isList ?_
 refine ⟨s1.heap.objs.size,[s1.heap.objs.size],_,_,H1,rfl,I1.kept (t':=s1.toks) fun b o e => Heap.get?_push_of_some _ e,nU a _,⟨_,Heap.get?_push_size _ rfl,rfl,rfl⟩,fun b hb => ?_,q⟩
 have e:b = s1.heap.objs.size:=by simpa using hb
 subst e
 exact I1.fpOk (Nat.le_refl _) (I1.hok.fresh (Nat.le_refl _))
theorem xX {pins:List (Addr × Obj)} {σ:St} {H:Hp} {s:Shared} {R:It -> Hp -> Prop} {E:Value -> Shared -> Prop} {lo hi:Int} {t u v:Tok} {tk:Nat} (I:Inv X pins σ H s) (h1:-(2 ^ 62) ≤ lo) (h2:lo < 2 ^ 62) (h3:-(2 ^ 62) ≤ hi) (h4:hi < 2 ^ 62)
  (q:R (Ir lo (hi - lo).toNat) H):wpAny (model X.prog X.w) X.A (pyIter (.ref s.heap.objs.size)) (JD X pins σ tg R) E { s with heap:=s.heap.push { cls:=.type "range",data:=.fields #[.int lo t,.int hi u,.int 1 v] },toks:=tk }:= by
 refine wpAny_pyIter_range (IsRange.new ..) (small_one h1 h2 h3 h4) ?_
 have I1:Inv X pins σ H { s with heap:=s.heap.push { cls:=.type "range",data:=.fields #[.int lo t,.int hi u,.int 1 v] },toks:=tk }:=I.kept fun b o e => Heap.get?_push_of_some _ e
 refine ⟨(s.heap.push { cls:=.type "range",data:=.fields #[.int lo t,.int hi u,.int 1 v] }).objs.size,[(s.heap.push { cls:=.type "range",data:=.fields #[.int lo t,.int hi u,.int 1 v] }).objs.size],_,_,H,rfl,
  I1.kept (t':=tk) fun b o e => Heap.get?_push_of_some _ e,t_ _ lo (hi - lo).toNat,?_,fun b hb => ?_,q⟩
 ·have e1:lo + ((0:Nat):Int) * 1 = lo:=by simp
  have e2:(((hi - lo).toNat:Nat):Int) - ((0:Nat):Int) = Builtin.Range.rangeSize lo hi 1:=by rw [rangeSize_one]; split <;> omega
  show IsRangeIter _ _ (lo + ((0:Nat):Int) * 1) ((((hi - lo).toNat:Nat):Int) - ((0:Nat):Int)) 1
  rw [e1,e2]
  exact Heap.get?_push_size _ rfl
 ·have e:b = (s.heap.push { cls:=.type "range",data:=.fields #[.int lo t,.int hi u,.int 1 v] }).objs.size:=by simpa using hb
  subst e
  exact I1.fpOk (Nat.le_refl _) (I1.hok.fresh (Nat.le_refl _))
def Gm (ta:TA):TI:=fun σ H R => ta σ H fun vs H1 => ∃ j:Int,vs = [.int j] ∧ -(2 ^ 62) ≤ j ∧ j < 2 ^ 62 ∧ R (Ir 0 j.toNat) H1
theorem vC {a:Expr} {ta:TA} {p pos:Pos} (hg:Gl X "range") (hm:X.mg "range" = none) (ha:PA X [a] ta) (hs:starEach [a] X.env = [(false,eval a X.env)]:=by rfl):PI X tg (.Call (.Name "range" p) [a] [] pos) (Gm ta):= by
 intro pins s σ H R I h
 refine Call_ (gq I hg hm boot_range (PyProof.Rows.callWith_type1 (cT (ha pos pins s σ H _ I h) fun us s1 ⟨vs,H1,I1,r1,q1⟩ => ?_) hs rfl))
 obtain ⟨j,e,q1,q2,q⟩:=q1
 subst e
 cases r1 with
 | cons r rr =>
  cases rr
  obtain ⟨t,rfl⟩:=r
  exact call_range_1 (xX I1 (by omega) (by omega) q1 q2 (by simpa using q))
def IU (wi:TI) (g:TG) (tb:TS):TS:=fun D σ H => wi σ H fun J H1 => ∃ W:Nat -> Nat -> St -> Hp -> Prop,(∃ m,W 0 m σ H1) ∧ ∀ i m σ H,W i m σ H ->
 (J.stop i H ∧ D.nx σ H) ∨ (J.go i H ∧ ∃ N:St -> Hp -> Prop,(∀ σ' H',N σ' H' -> ∃ m',m' < m ∧ W (i + 1) m' σ' H') ∧ ∀ x H',J.yld i H x H' -> g x σ H' fun σ2 H2 => tb { D with nx:=N,ct:=N,bk:=D.nx } σ2 H2)
def mj (fp:List Addr) (h:Heap):List (Addr × Obj):=fp.filterMap fun b => (h.get? b).map fun o => (b,o)
theorem f7 {fp:List Addr} {h:Heap} {b:Addr} {o:Obj} (hb:b ∈ fp) (e:h.get? b = some o):(b,o) ∈ mj fp h:=List.mem_filterMap.mpr ⟨b,hb,by rw [e]; rfl⟩
theorem vF {fp:List Addr} {h:Heap} {p:Addr × Obj} (hp:p ∈ mj fp h):p.1 ∈ fp ∧ h.get? p.1 = some p.2:= by
 obtain ⟨b,hb,e⟩:=List.mem_filterMap.mp hp
 cases q:h.get? b with
 | none => rw [q] at e; cases e
 | some o =>
  rw [q] at e
  have e':(b,o) = p:=Option.some.inj e
  subst e'
  exact ⟨hb,q⟩
theorem Inv.pinned {pins:List (Addr × Obj)} {σ:St} {H:Hp} {s:Shared} {fp:List Addr} (I:Inv X pins σ H s) (hf:∀ b ∈ fp,jd X pins H b) (ho:∀ b ∈ fp,∃ o,s.heap.get? b = some o ∧ ∀ v,o.data ≠ .cell v):Inv X (pins ++ mj fp s.heap) σ H s :=
 I.pins_of fun p hp => (List.mem_append.mp hp).elim (fun z => I.pin p (List.mem_append_right _ z)) fun z => by
  obtain ⟨hb,e⟩:=vF z
  obtain ⟨f0,f1,f2,_⟩:=hf p.1 hb
  obtain ⟨o,e',d⟩:=ho p.1 hb
  rw [e] at e'; cases e'
  exact ⟨e,f0,f1,f2,d⟩
theorem Inv.unpinned {pins pl:List (Addr × Obj)} {σ:St} {H:Hp} {s:Shared} (I:Inv X (pins ++ pl) σ H s):Inv X pins σ H s:=I.pins_of fun p hp => I.pin p (List.mem_append_right _ (List.mem_append_left _ hp))
theorem Fp {iter:Expr} {body:List Stmt} {wi:TI} {g:TG} {tb:TS} {pos:Pos} (hp:PassesOwn (model X.prog X.w) X.A X.env X.xe) (hc:X.calm = true) (hi:PI X tg iter wi) (hg:PG X tg g) (hb:rY X body tb)
  (hs:∀ x,foldedSetIterable iter X.env x = pure x:=by intro _; rfl):PS X (.For tg iter body [] pos) (IU wi g tb):= by
 intro pins s σ H D I h
 refine wpAny_For (cT (hi pins s σ H _ I h) fun v s1 h1 => cT h1 fun itv s2 h2 => ?_) hs
 obtain ⟨it,fp,tn,J,H2,e,I2,T,st2,f2,W,⟨m0,w0⟩,turn⟩:=h2
 subst e
 have stat:∀ {H':Hp},(∀ b ∈ fp,H' b = none) -> ∀ b ∈ fp,jd X pins H' b:=fun hn b hb => ⟨hn b hb,(f2 b hb).2⟩
 refine codeAny_forLoop_any (fun n s' => ∃ i σ' H',Inv X pins σ' H' s' ∧ tn i s'.heap ∧ (∀ b ∈ fp,H' b = none) ∧ W i n σ' H') ?_ m0 ⟨0,σ,H2,I2,st2,fun b hb => (f2 b hb).1,w0⟩
 rintro n s3 ⟨i,σ3,H3,I3,st3,fr3,w3⟩
 rcases turn i n σ3 H3 w3 with ⟨stop,qn⟩ | ⟨go,N,hN,step⟩
 ·refine wpAny_passesOwn hp (cT (T.done X rfl rfl rfl hc i pins s3 σ3 H3 X.xe I3 (stat fr3) st3 stop) fun r s4 ⟨hr,I4⟩ => ?_)
  subst hr
  exact wpAny_execs_nil ⟨σ3,H3,I4,qn⟩
 ·refine wpAny_passesOwn hp (cT (T.item X rfl rfl rfl hc i pins s3 σ3 H3 X.xe I3 (stat fr3) st3 go) fun r s4 ⟨u,hr,h4⟩ => ?_)
  subst hr
  refine wpAny_passesOwn hp (cT h4 fun _ s5 ⟨x,H5,I5,r5,y5,st5,fr5⟩ => ?_)
  have I5':=I5.pinned (stat fr5) (T.obj _ _ st5)
  refine wpAny_passesOwn hp (cT (hg _ s5 σ3 H5 x u _ I5' r5 (step x H5 y5)) fun _ s6 ⟨σ6,H6,I6,q6⟩ => ?_)
  refine wpAny_passesOwn hp (cT (hb _ s6 σ6 H6 _ I6 q6) fun f s7 q7 => ?_)
  have again:∀ {σ7:St} {H7:Hp},Inv X (pins ++ mj fp s5.heap) σ7 H7 s7 -> N σ7 H7 -> ∃ m,m < n ∧ ∃ i σ' H',Inv X pins σ' H' s7 ∧ tn i s7.heap ∧ (∀ b ∈ fp,H' b = none) ∧ W i m σ' H':=fun {σ7 H7} I7 n7 => by
   obtain ⟨m',hm,w7⟩:=hN σ7 H7 n7
   refine ⟨m',hm,i + 1,σ7,H7,I7.unpinned,T.keep _ _ _ st5 fun b hb o e => (I7.pin (b,o) (List.mem_append_right _ (List.mem_append_right _ (f7 hb e)))).1,fun b hb => ?_,w7⟩
   obtain ⟨o,e,d⟩:=T.obj _ _ st5 b hb
   exact (I7.pin (b,o) (List.mem_append_right _ (List.mem_append_right _ (f7 hb e)))).2.1
  cases f with
  | next => obtain ⟨σ7,H7,I7,n7⟩:=q7; exact again I7 n7
  | cont => obtain ⟨σ7,H7,I7,n7⟩:=q7; exact again I7 n7
  | brk => obtain ⟨σ7,H7,I7,q7⟩:=q7; exact ⟨σ7,H7,I7.unpinned,q7⟩
  | ret v => obtain ⟨x7,σ7,H7,I7,r7,q7⟩:=q7; exact ⟨x7,σ7,H7,I7.unpinned,r7,q7⟩
end
end L2
namespace L2
open PySem PySem.Spec PyProof.Rows
abbrev R2:=V -> V -> Hp -> VK -> Prop
def gK (X:Cx) (f:Value -> Value -> Sem Value) (r:R2):Prop :=
 ∀ (pins:List (Addr × Obj)) (s:Shared) (σ:St) (H:Hp) (x y:V) (v u:Value) (Q:VK),Inv X pins σ H s -> RelV x v -> RelV y u -> r x y H Q ->
  wpAny (model X.prog X.w) X.A (f v u) (EP X pins σ Q) X.xe s
def IC (X:Cx) (f:Value -> Sem Value) (r:V -> Hp -> VK -> Prop):Prop :=
 ∀ (pins:List (Addr × Obj)) (s:Shared) (σ:St) (H:Hp) (x:V) (v:Value) (Q:VK),Inv X pins σ H s -> RelV x v -> r x H Q ->
  wpAny (model X.prog X.w) X.A (f v) (EP X pins σ Q) X.xe s
def dE (X:Cx) (f:Value) (r:List V -> Hp -> VK -> Prop):Prop :=
 ∀ (pins:List (Addr × Obj)) (s:Shared) (σ:St) (H:Hp) (xs:List V) (us:List Value) (Q:VK),Inv X pins σ H s -> Vals xs us -> r xs H Q ->
  wpAny (model X.prog X.w) X.A (call f us) (EP X pins σ Q) X.xe s
def IG (X:Cx) (r:V -> Hp -> (Bool -> Hp -> Prop) -> Prop):Prop :=
 ∀ (pins:List (Addr × Obj)) (s:Shared) (σ:St) (H:Hp) (x:V) (v:Value) (Q:Bool -> Hp -> Prop),Inv X pins σ H s -> RelV x v -> r x H Q ->
  wpAny (model X.prog X.w) X.A (truthy v) (TP X pins σ Q) X.xe s
def CT (r:R2) (ta tb:TE):TE:=fun σ H Q => ta σ H fun x H1 => tb σ H1 fun y H2 => r x y H2 Q
def JU (r:V -> Hp -> VK -> Prop) (ta:TE):TE:=fun σ H Q => ta σ H fun x H1 => r x H1 Q
def rI (C:Int -> Int -> Prop) (g:Int -> Int -> V):R2:=fun x y H Q => ∃ i j,x = .int i ∧ y = .int j ∧ C i j ∧ Q (g i j) H
def uE (g:Int -> Int -> V):R2:=fun x y H Q => ∃ i j,x = .int i ∧ y = .int j ∧ Q (g i j) H
def rU (g:Int -> V):V -> Hp -> VK -> Prop:=fun x H Q => ∃ i,x = .int i ∧ Q (g i) H
section
variable {X:Cx} {a b c:Expr} {ta tb tc:TE} {pos:Pos}
theorem Ft (ha:PE X a ta) (hb:PE X b tb) {pins:List (Addr × Obj)} {s:Shared} {σ:St} {H:Hp} {R:V -> V -> Hp -> Prop} (I:Inv X pins σ H s)
  (h:ta σ H fun x H1 => tb σ H1 fun y H2 => R x y H2) {Q:Value -> Shared -> Prop} {f:Value -> Value -> Sem Value}
  (hf:∀ v u s2 x y H2,Inv X pins σ H2 s2 -> RelV x v -> RelV y u -> R x y H2 -> wpAny (model X.prog X.w) X.A (f v u) Q X.xe s2) :
  wpAny (model X.prog X.w) X.A (eval a X.env) (fun v s₁ => wpAny (model X.prog X.w) X.A (eval b X.env) (fun u s₂ => wpAny (model X.prog X.w) X.A (f v u) Q X.xe s₂) X.xe s₁) X.xe s:= by
 refine cT (ha pins s σ H _ I h) fun v s1 ⟨x,H1,I1,r1,q1⟩ => ?_
 refine cT (hb pins s1 σ H1 _ I1 q1) fun u s2 ⟨y,H2,I2,r2,q2⟩ => ?_
 exact hf v u s2 x y H2 I2 r1 r2 q2
theorem C5 {op:Operator} {r:R2} (ho:gK X (binaryOp op) r) (ha:PE X a ta) (hb:PE X b tb):PE X (.BinOp a op b pos) (CT r ta tb):= by
 intro pins s σ H Q I h
 exact wpAny_BinOp (Ft ha hb I h fun v u s2 x y H2 I2 rx ry q => ho pins s2 σ H2 x y v u Q I2 rx ry q)
theorem C_ {op:UnaryOp} {r:V -> Hp -> VK -> Prop} (ho:IC X (unaryOp op) r) (ha:PE X a ta):PE X (.UnaryOp op a pos) (JU r ta):= by
 intro pins s σ H Q I h
 exact UnaryOp_ (cT (ha pins s σ H _ I h) fun v s1 ⟨x,H1,I1,r1,q1⟩ => ho pins s1 σ H1 x v Q I1 r1 q1)
theorem F6 {f:Value -> Value -> Sem Value} {C:Int -> Int -> Prop} {g:Int -> Int -> Int}
  (rule:∀ (i j:Int) (t u:Tok) (s:Shared) (Q:Value -> Shared -> Prop) (E:Value -> Shared -> Prop),C i j -> Q (.int (g i j) s.toks) { s with toks:=s.toks + 1 } -> wpAny (model X.prog X.w) X.A (f (.int i t) (.int j u)) Q E s) :
  gK X f (rI C fun i j => .int (g i j)):= by
 intro pins s σ H x y v u Q I rx ry h
 obtain ⟨i,j,rfl,rfl,hc,q⟩:=h
 obtain ⟨t,rfl⟩:=rx
 obtain ⟨t',rfl⟩:=ry
 exact rule i j t t' s _ _ hc ⟨.int (g i j),H,I.tok _,⟨_,rfl⟩,q⟩
theorem HG {f:Value -> Value -> Sem Value} {g:Int -> Int -> Int}
  (rule:∀ (i j:Int) (t u:Tok) (s:Shared) (Q:Value -> Shared -> Prop) (E:Value -> Shared -> Prop),Q (.int (g i j) s.toks) { s with toks:=s.toks + 1 } -> wpAny (model X.prog X.w) X.A (f (.int i t) (.int j u)) Q E s) :
  gK X f (uE fun i j => .int (g i j)):= by
 intro pins s σ H x y v u Q I rx ry h
 obtain ⟨i,j,rfl,rfl,q⟩:=h
 obtain ⟨t,rfl⟩:=rx
 obtain ⟨t',rfl⟩:=ry
 exact rule i j t t' s _ _ ⟨.int (g i j),H,I.tok _,⟨_,rfl⟩,q⟩
theorem D8 {f:Value -> Value -> Sem Value} {g:Int -> Int -> Bool}
  (rule:∀ (i j:Int) (t u:Tok) (s:Shared) (Q:Value -> Shared -> Prop) (E:Value -> Shared -> Prop),Q (.bool (g i j)) s -> wpAny (model X.prog X.w) X.A (f (.int i t) (.int j u)) Q E s) :
  gK X f (uE fun i j => .bl (g i j)):= by
 intro pins s σ H x y v u Q I rx ry h
 obtain ⟨i,j,rfl,rfl,q⟩:=h
 obtain ⟨t,rfl⟩:=rx
 obtain ⟨t',rfl⟩:=ry
 exact rule i j t t' s _ _ ⟨.bl (g i j),H,I,rfl,q⟩
def D7 (i j:Int):Prop:=0 < j ∧ j < 1073741824
def Ja (i j:Int):Prop:=0 ≤ j ∧ j ≤ 1000000 ∧ i.natAbs < 2 ^ 64
def Ew (i j:Int):Prop:=(-(2 ^ 64) < i ∧ i < 2 ^ 64) ∨ (-(2 ^ 64) < j ∧ j < 2 ^ 64)
theorem Ew.ok {i j:Int} (h:Ew i j):IntMulOk i j:= by
 rcases h with ⟨h1,h2⟩ | ⟨h1,h2⟩
 ·exact .of_left (intBits_le_64 h1 h2)
 ·exact .of_right (intBits_le_64 h1 h2)
theorem EB:gK X (binaryOp .Add) (uE fun i j => .int (i + j)):=HG fun _ _ _ _ _ _ _ q => add_int q
theorem Fz:gK X (binaryOp .Sub) (uE fun i j => .int (i - j)):=HG fun _ _ _ _ _ _ _ q => sub_int q
theorem Ep:gK X (binaryOp .Mult) (rI Ew fun i j => .int (i * j)):=F6 fun _ _ _ _ _ _ _ hc q => mul_int q hc.ok
theorem B3:gK X (binaryOp .FloorDiv) (rI D7 fun i j => .int (i / j)):=F6 fun i j _ _ _ _ _ hc q => by
 have h1:(0:Int) < j:=hc.1
 have h2:j < 1073741824:=hc.2
 exact floordiv_int (by omega) (by rw [Int.fdiv_eq_ediv_of_nonneg i (by omega)]; exact q) (.inl (PyProof.noPylong_small (by omega)))
theorem D9:gK X (binaryOp .Mod) (rI (fun _ j => 0 < j) fun i j => .int (i % j)):=F6 fun i j _ _ _ _ _ hc q => by
 have h1:(0:Int) < j:=hc
 exact mod_int' (by omega) (by rw [Int.fmod_eq_emod_of_nonneg i (by omega)]; exact q)
theorem EI:gK X (binaryOp .Pow) (rI Ja fun i j => .int (i ^ j.toNat)):=F6 fun _ _ _ _ _ _ _ hc q => pow_int_small hc.1 hc.2.1 hc.2.2 q
theorem JX {f:Value -> Sem Value} {g:Int -> Int}
  (rule:∀ (i:Int) (t:Tok) (s:Shared) (Q:Value -> Shared -> Prop) (E:Value -> Shared -> Prop),Q (.int (g i) s.toks) { s with toks:=s.toks + 1 } -> wpAny (model X.prog X.w) X.A (f (.int i t)) Q E s) :
  IC X f (rU fun i => .int (g i)):= by
 intro pins s σ H x v Q I rx h
 obtain ⟨i,rfl,q⟩:=h
 obtain ⟨t,rfl⟩:=rx
 exact rule i t s _ _ ⟨.int (g i),H,I.tok _,⟨_,rfl⟩,q⟩
theorem yA:IC X (unaryOp .USub) (rU fun i => .int (-i)):=JX fun _ _ _ _ _ q => neg_int q
end
def qZ:V -> V -> Bool
 | .non,.non => true | .non,.int _ => true | .int _,.non => true | .non,.bl _ => true | .bl _,.non => true | .non,.str _ => true | .str _,.non => true
 | .int _,.int _ => true | .bl _,.bl _ => true | .str _,.str _ => true | .byt _,.byt _ => true
 | .int _,.str _ => true | .str _,.int _ => true | .bl _,.str _ => true | .str _,.bl _ => true
 | _,_ => false
def Ju:R2:=fun x y H Q => qZ x y = true ∧ Q (.bl (decide (x = y))) H
def Jz:R2:=fun x y H Q => qZ x y = true ∧ Q (.bl (!decide (x = y))) H
theorem uz {i j:Int}:decide (V.int i = V.int j) = (i == j):= by
 rw [Bool.eq_iff_iff]
 simp
theorem xB {i j:Bool}:decide (V.bl i = V.bl j) = (i == j):= by
 rw [Bool.eq_iff_iff]
 simp
theorem uJ {i j:Str}:decide (V.str i = V.str j) = (i == j):= by
 rw [Bool.eq_iff_iff]
 simp
theorem uZ {i j:Array UInt8}:decide (V.byt i = V.byt j) = (i.toList == j.toList):= by
 rw [Bool.eq_iff_iff]
 cases i
 cases j
 simp
section
variable {X:Cx} {a b c:Expr} {ta tb tc:TE} {pos:Pos}
theorem bA {pins:List (Addr × Obj)} {σ:St} {H:Hp} {s:Shared} {Q:VK} {k k':Bool} (I:Inv X pins σ H s) (q:Q (.bl k) H) (e:k = k'):EP X pins σ Q (.bool k') s:= by
 subst e
 exact ⟨.bl k,H,I,rfl,q⟩
theorem wy:gK X (compareOp .Eq) Ju:= by
 intro pins s σ H x y v u Q I rx ry h
 obtain ⟨hs,q⟩:=h
 cases x with
 | non =>
  cases rx
  cases y with
  | non => cases ry; exact PySem.EqNone.eq_none_none (bA I q (by simp))
  | bl j => cases ry; exact PySem.EqNone.eq_none_bool (bA I q (by simp))
  | int j => obtain ⟨t',rfl⟩:=ry; exact PySem.EqNone.eq_none_int (bA I q (by simp))
  | str j => obtain ⟨t',rfl⟩:=ry; exact PySem.EqNone.eq_none_str (bA I q (by simp))
  | _ => exact absurd (show false = true from hs) Bool.false_ne_true
 | bl i =>
  cases rx
  cases y with
  | non => cases ry; exact PySem.EqNone.eq_bool_none (bA I q (by simp))
  | bl j => cases ry; exact eq_bool (bA I q xB)
  | str j => obtain ⟨t',rfl⟩:=ry; exact PySem.EqMixed.eq_bool_str (bA I q (by simp))
  | _ => exact absurd (show false = true from hs) Bool.false_ne_true
 | int i =>
  obtain ⟨t,rfl⟩:=rx
  cases y with
  | non => cases ry; exact PySem.EqNone.eq_int_none (bA I q (by simp))
  | int j => obtain ⟨t',rfl⟩:=ry; exact eq_int (bA I q uz)
  | str j => obtain ⟨t',rfl⟩:=ry; exact PySem.EqMixed.eq_int_str (bA I q (by simp))
  | _ => exact absurd (show false = true from hs) Bool.false_ne_true
 | str i =>
  obtain ⟨t,rfl⟩:=rx
  cases y with
  | non => cases ry; exact PySem.EqNone.eq_str_none (bA I q (by simp))
  | bl j => cases ry; exact PySem.EqMixed.eq_str_bool (bA I q (by simp))
  | int j => obtain ⟨t',rfl⟩:=ry; exact PySem.EqMixed.eq_str_int (bA I q (by simp))
  | str j => obtain ⟨t',rfl⟩:=ry; exact eq_str (bA I q uJ)
  | _ => exact absurd (show false = true from hs) Bool.false_ne_true
 | byt i =>
  obtain ⟨t,rfl⟩:=rx
  cases y with
  | byt j => obtain ⟨t',rfl⟩:=ry; exact PySem.W.eq_bytes (bA I q uZ)
  | _ => exact absurd (show false = true from hs) Bool.false_ne_true
 | _ => cases y <;> exact absurd (show false = true from hs) Bool.false_ne_true
theorem C9:gK X (compareOp .NotEq) Jz:= by
 intro pins s σ H x y v u Q I rx ry h
 obtain ⟨hs,q⟩:=h
 cases x with
 | non =>
  cases rx
  cases y with
  | non => cases ry; exact PySem.EqNone.ne_none_none (bA I q (by simp))
  | bl j => cases ry; exact PySem.EqNone.ne_none_bool (bA I q (by simp))
  | int j => obtain ⟨t',rfl⟩:=ry; exact PySem.EqNone.ne_none_int (bA I q (by simp))
  | str j => obtain ⟨t',rfl⟩:=ry; exact PySem.EqNone.ne_none_str (bA I q (by simp))
  | _ => exact absurd (show false = true from hs) Bool.false_ne_true
 | bl i =>
  cases rx
  cases y with
  | non => cases ry; exact PySem.EqNone.ne_bool_none (bA I q (by simp))
  | bl j => cases ry; exact ne_bool (bA I q (congrArg not xB))
  | str j => obtain ⟨t',rfl⟩:=ry; exact PySem.EqMixed.ne_bool_str (bA I q (by simp))
  | _ => exact absurd (show false = true from hs) Bool.false_ne_true
 | int i =>
  obtain ⟨t,rfl⟩:=rx
  cases y with
  | non => cases ry; exact PySem.EqNone.ne_int_none (bA I q (by simp))
  | int j => obtain ⟨t',rfl⟩:=ry; exact ne_int (bA I q (congrArg not uz))
  | str j => obtain ⟨t',rfl⟩:=ry; exact PySem.EqMixed.ne_int_str (bA I q (by simp))
  | _ => exact absurd (show false = true from hs) Bool.false_ne_true
 | str i =>
  obtain ⟨t,rfl⟩:=rx
  cases y with
  | non => cases ry; exact PySem.EqNone.ne_str_none (bA I q (by simp))
  | bl j => cases ry; exact PySem.EqMixed.ne_str_bool (bA I q (by simp))
  | int j => obtain ⟨t',rfl⟩:=ry; exact PySem.EqMixed.ne_str_int (bA I q (by simp))
  | str j => obtain ⟨t',rfl⟩:=ry; exact ne_str (bA I q (congrArg not uJ))
  | _ => exact absurd (show false = true from hs) Bool.false_ne_true
 | byt i =>
  obtain ⟨t,rfl⟩:=rx
  cases y with
  | byt j => obtain ⟨t',rfl⟩:=ry; exact PySem.W.ne_bytes (bA I q (congrArg not uZ))
  | _ => exact absurd (show false = true from hs) Bool.false_ne_true
 | _ => cases y <;> exact absurd (show false = true from hs) Bool.false_ne_true
theorem xM:gK X (compareOp .Lt) (uE fun i j => .bl (decide (i < j))):=D8 fun _ _ _ _ _ _ _ q => lt_int q
theorem De:gK X (compareOp .LtE) (uE fun i j => .bl (decide (i ≤ j))):=D8 fun _ _ _ _ _ _ _ q => le_int q
theorem C6:gK X (compareOp .Gt) (uE fun i j => .bl (decide (j < i))):=D8 fun _ _ _ _ _ _ _ q => gt_int q
theorem Ef:gK X (compareOp .Is) (fun x y H Q => y = .non ∧ Q (.bl (decide (x = .non))) H):= by
 intro pins s σ H x y v u Q I rx ry h
 obtain ⟨rfl,q⟩:=h
 cases ry
 refine is_none_gen (bA I q ?_)
 cases x <;> first
  | (cases rx; rfl)
  | (obtain ⟨t,rfl⟩:=rx; rfl)
theorem CC:gK X (compareOp .IsNot) (fun x y H Q => y = .non ∧ Q (.bl (!decide (x = .non))) H):= by
 intro pins s σ H x y v u Q I rx ry h
 obtain ⟨rfl,q⟩:=h
 cases ry
 refine isnot_none_gen (bA I q ?_)
 cases x <;> first
  | (cases rx; rfl)
  | (obtain ⟨t,rfl⟩:=rx; rfl)
theorem jW (b:Expr) {op:CmpOp} (h:op ≠ .In:=by decide) (h2:op ≠ .NotIn:=by decide):behindInMarks op b = false:= by
 have e1:(op == CmpOp.In) = false:=by cases op <;> first | rfl | exact absurd rfl h
 have e2:(op == CmpOp.NotIn) = false:=by cases op <;> first | rfl | exact absurd rfl h2
 cases b <;> simp [behindInMarks,e1,e2]
theorem lh {op:CmpOp} {r:R2} (ho:gK X (compareOp op) r) (ha:PE X a ta) (hb:PE X b tb) (hm:behindInMarks op b = false):PE X (.Compare a [op] [b] pos) (CT r ta tb):= by
 intro pins s σ H Q I h
 exact wpAny_Compare1 (Ft ha hb I h fun v u s2 x y H2 I2 rx ry q => ho pins s2 σ H2 x y v u Q I2 rx ry q) hm
def xg (t:TE):TT:=fun σ H Q => t σ H fun x H' => ∃ k,x = .bl k ∧ Q k H'
theorem k9 {op:CmpOp} {r:R2} (ho:gK X (compareOp op) r) (ha:PE X a ta) (hb:PE X b tb) (hm:behindInMarks op b = false):PT X (.Compare a [op] [b] pos) (xg (CT r ta tb)):= by
 intro pins s σ H Q I h
 refine wpAny_isTrue_Compare1 (cT (ha pins s σ H _ I h) fun v s1 ⟨x,H1,I1,r1,q1⟩ => cT (hb pins s1 σ H1 _ I1 q1) fun u s2 ⟨y,H2,I2,r2,q2⟩ =>
  cT (ho pins s2 σ H2 x y v u _ I2 r1 r2 q2) fun c s3 ⟨z,H3,I3,r3,k,e,q3⟩ => ?_) hm
 subst e
 cases r3
 exact wpAny_truthy_bool ⟨H3,I3,q3⟩
def tH (r r':R2) (ta tb tc:TE):TE:=fun σ H Q => ta σ H fun x H1 => tb σ H1 fun y H2 => r x y H2 fun z H3 => ∃ k,z = .bl k ∧
 (if k = true then tc σ H3 fun w' H4 => r' y w' H4 Q else Q (.bl false) H3)
theorem yy {op op':CmpOp} {r r':R2} (ho:gK X (compareOp op) r) (ho':gK X (compareOp op') r') (ha:PE X a ta) (hb:PE X b tb) (hc:PE X c tc)
  (hm:lastMarks [op,op'] [b,c] = false:=by with_unfolding_all rfl):PE X (.Compare a [op,op'] [b,c] pos) (tH r r' ta tb tc):= by
 intro pins s σ H Q I h
 refine Compare_chain (cT (ha pins s σ H _ I h) fun v s1 ⟨x,H1,I1,r1,q1⟩ => chain_link (cT (hb pins s1 σ H1 _ I1 q1) fun u s2 ⟨y,H2,I2,r2,q2⟩ =>
  cT (ho pins s2 σ H2 x y v u _ I2 r1 r2 q2) fun d s3 ⟨z,H3,I3,r3,k,e,q3⟩ => ?_)) hm
 subst e
 cases r3
 refine wpAny_truthy_bool ?_
 cases k with
 | false => exact ite_ff ⟨.bl false,H3,I3,rfl,q3⟩
 | true => exact ite_tt (chain_last (cT (hc pins s3 σ H3 _ I3 q3) fun w' s4 ⟨z',H4,I4,r4,q4⟩ => ho' pins s4 σ H4 y z' u w' Q I4 r2 r4 q4))
theorem xI {op op':CmpOp} {r r':R2} (ho:gK X (compareOp op) r) (ho':gK X (compareOp op') r') (ha:PE X a ta) (hb:PE X b tb) (hc:PE X c tc)
  (hm:lastMarks [op,op'] [b,c] = false:=by with_unfolding_all rfl):PT X (.Compare a [op,op'] [b,c] pos) (xg (tH r r' ta tb tc)):= by
 intro pins s σ H Q I h
 refine isTrue_chain (cT (ha pins s σ H _ I h) fun v s1 ⟨x,H1,I1,r1,q1⟩ => test_link (cT (hb pins s1 σ H1 _ I1 q1) fun u s2 ⟨y,H2,I2,r2,q2⟩ =>
  cT (ho pins s2 σ H2 x y v u _ I2 r1 r2 q2) fun d s3 ⟨z,H3,I3,r3,k,e,q3⟩ => ?_)) hm
 subst e
 cases r3
 refine wpAny_truthy_bool ?_
 cases k with
 | false =>
  obtain ⟨k',e',q'⟩:=q3
  cases e'
  exact ite_ff ⟨H3,I3,q'⟩
 | true =>
  refine ite_tt (test_last (cT (hc pins s3 σ H3 _ I3 q3) fun w' s4 ⟨z',H4,I4,r4,q4⟩ => cT (ho' pins s4 σ H4 y z' u w' _ I4 r2 r4 q4) fun d' s5 ⟨z2,H5,I5,r5,k2,e2,q5⟩ => ?_))
  subst e2
  cases r5
  exact wpAny_truthy_bool ⟨H5,I5,q5⟩
def E9 (K:PySem.W.Frag) (x:V) (H:Hp) (k:Bool):Prop :=
 match x with
 | .non => k = false
 | .bl b => k = b
 | .int i => k = (i != 0)
 | .str y => y.length ≤ sizeLine ∧ k = ((y.length:Int) != 0)
 | .byt y => y.size ≤ sizeLine ∧ k = ((y.size:Int) != 0)
 | .ref p => (∃ xs,ip K H p xs ∧ k = !xs.isEmpty) ∨ (∃ xs,iP K H p xs ∧ k = !xs.isEmpty) ∨ ∃ kvs,H p = some (.dK kvs) ∧ k = !kvs.isEmpty
 | _ => False
theorem tS {κ:Type} {kvs:List (κ × V)} {vs:List (κ × Value)} (r:KV kvs vs):(!vs.isEmpty) = !kvs.isEmpty:= by
 cases r <;> rfl
theorem m9 {xs:List V} {its:List Value} (r:Vals xs its):(!its.toArray.isEmpty) = !xs.isEmpty:= by
 cases r <;> simp
theorem ki:(sizeLine:Nat) < 2 ^ 63:=by rw [sizeLine_eq]; decide
theorem yN:IG X (fun x H Q => ∃ k,E9 X.K x H k ∧ Q k H):= by
 intro pins s σ H x v Q I rx h
 obtain ⟨k,e,q⟩:=h
 have hl:=ki
 have hs:sizeLine = 16777216:=sizeLine_eq
 cases x with
 | non =>
  cases rx
  have e':k = false:=e
  subst e'
  exact truthy_none ⟨H,I,q⟩
 | bl b =>
  cases rx
  have e':k = b:=e
  subst e'
  exact wpAny_truthy_bool ⟨H,I,q⟩
 | int i =>
  obtain ⟨t,rfl⟩:=rx
  have e':k = (i != 0):=e
  subst e'
  exact PySem.P.truthy_int ⟨H,I,q⟩
 | str y =>
  obtain ⟨t,rfl⟩:=rx
  obtain ⟨hy,e'⟩:y.length ≤ sizeLine ∧ k = ((y.length:Int) != 0):=e
  subst e'
  exact PySem.P.truthy_str (by omega) ⟨H,I.tok _,q⟩
 | byt y =>
  obtain ⟨t,rfl⟩:=rx
  obtain ⟨hy,e'⟩:y.size ≤ sizeLine ∧ k = ((y.size:Int) != 0):=e
  subst e'
  exact PySem.W.truthy_bytes (by omega) ⟨H,I.tok _,q⟩
 | ref p =>
  cases rx
  have e':(∃ xs,ip X.K H p xs ∧ k = !xs.isEmpty) ∨ (∃ xs,iP X.K H p xs ∧ k = !xs.isEmpty) ∨ ∃ kvs,H p = some (.dK kvs) ∧ k = !kvs.isEmpty:=e
  rcases e' with ⟨xs,hx,e'⟩ | ⟨xs,hx,e'⟩ | ⟨kvs,hx,e'⟩
  ·subst e'
   obtain ⟨its,r,pl,hz⟩:=I.list hx
   have hlen:=r.length
   exact wpAny_truthy_list pl.isList (by simp only [List.size_toArray]; omega) ⟨H,I.tok _,by rw [m9 r]; exact q⟩
  ·subst e'
   obtain ⟨its,r,pl,hz⟩:=I.tuple hx
   have hlen:=r.length
   exact truthy_tuple pl (by simp only [List.size_toArray]; omega) ⟨H,I.tok _,by rw [m9 r]; exact q⟩
  ·subst e'
   obtain ⟨hz,hS,vs,r,m⟩:kvs.length ≤ sizeLine ∧ (p == sysModules) = false ∧ ∃ vs,KV kvs vs ∧ s.heap.DictOf (pK X.prog X.w) p vs:=I.hok p _ hx
   have hlen:kvs.length = vs.length:=Paired.length r
   exact wpAny_truthy_dict hS m (by omega) ⟨H,I.tok _,by rw [tS r]; exact q⟩
 | _ => exact (show False from e).elim
theorem xV (ha:PE X a ta) (he:∀ whole,isTrue a X.env whole = (do let v <- whole; standAt a.pos; holding [v] (truthy v))) :
  PT X a (fun σ H Q => ta σ H fun x H' => ∃ k,E9 X.K x H' k ∧ Q k H'):= by
 intro pins s σ H Q I h
 exact isTrue_plain (cT (ha pins s σ H _ I h) fun v s1 ⟨x,H1,I1,r1,q1⟩ => yN pins s1 σ H1 x v Q I1 r1 q1) (he _)
theorem vals1 {x:V} {us:List Value} (r:Vals [x] us):∃ u,us = [u] ∧ RelV x u:= by
 cases r with
 | cons r1 r2 => cases r2; exact ⟨_,rfl,r1⟩
theorem vals2 {x y:V} {us:List Value} (r:Vals [x,y] us):∃ u w',us = [u,w'] ∧ RelV x u ∧ RelV y w':= by
 cases r with
 | cons r1 r2 =>
  cases r2 with
  | cons r3 r4 => cases r4; exact ⟨_,_,rfl,r1,r3⟩
theorem vP (hc:X.calm = true):dE X (.builtin "max") (fun xs H Q => ∃ i j,xs = [.int i,.int j] ∧ Q (.int (if j > i then j else i)) H):= by
 intro pins s σ H xs us Q I r h
 obtain ⟨i,j,rfl,q⟩:=h
 obtain ⟨u,w',rfl,⟨t,rfl⟩,⟨t',rfl⟩⟩:=vals2 r
 refine max_two_ints (I.ok.hd hc) fun h' tk k => ⟨_,H,I.kept k,?_,q⟩
 by_cases hj:j > i
 ·rw [if_pos hj,if_pos hj]; exact ⟨_,rfl⟩
 ·rw [if_neg hj,if_neg hj]; exact ⟨_,rfl⟩
theorem wc (hc:X.calm = true):dE X (.builtin "min") (fun xs H Q => ∃ i j,xs = [.int i,.int j] ∧ Q (.int (if j < i then j else i)) H):= by
 intro pins s σ H xs us Q I r h
 obtain ⟨i,j,rfl,q⟩:=h
 obtain ⟨u,w',rfl,⟨t,rfl⟩,⟨t',rfl⟩⟩:=vals2 r
 refine min_two_ints (I.ok.hd hc) fun h' tk k => ⟨_,H,I.kept k,?_,q⟩
 by_cases hj:j < i
 ·rw [if_pos hj,if_pos hj]; exact ⟨_,rfl⟩
 ·rw [if_neg hj,if_neg hj]; exact ⟨_,rfl⟩
theorem vW:dE X (.type "int") (fun xs H Q => (∃ i,xs = [.int i] ∧ Q (.int i) H) ∨ ∃ k,xs = [.bl k] ∧ Q (.int (if k then 1 else 0)) H):= by
 intro pins s σ H xs us Q I r h
 rcases h with ⟨i,rfl,q⟩ | ⟨k,rfl,q⟩
 ·obtain ⟨u,rfl,t,rfl⟩:=vals1 r
  exact call_int_int ⟨.int i,H,I,⟨_,rfl⟩,q⟩
 ·obtain ⟨u,rfl,r1⟩:=vals1 r
  cases r1
  exact call_int_bool ⟨.int (if k then 1 else 0),H,I.tok _,⟨_,rfl⟩,q⟩
theorem qt:dE X (.builtin "divmod") (fun xs H Q => ∃ i j,xs = [.int i,.int j] ∧ D7 i j ∧ ∀ p,H p = none -> Q (.ref p) (upd H p (.tup [.int (i / j),.int (i % j)]))):= by
 intro pins s σ H xs us Q I r h
 obtain ⟨i,j,rfl,⟨h1,h2⟩,q⟩:=h
 obtain ⟨u,w',rfl,⟨t,rfl⟩,⟨t',rfl⟩⟩:=vals2 r
 refine divmod_int (by omega) ?_ (.inl (PyProof.noPylong_small (by omega)))
 rw [Int.fdiv_eq_ediv_of_nonneg i (by omega),Int.fmod_eq_emod_of_nonneg i (by omega)]
 have hn:H s.heap.objs.size = none:=I.hok.fresh (Nat.le_refl _)
 refine ⟨.ref s.heap.objs.size,_,?_,rfl,q _ hn⟩
 refine I.laid (fun b o e => Heap.get?_push_of_some _ e) (Nat.le_refl _) ⟨by simp only [List.length_cons,List.length_nil]; rw [sizeLine_eq]; decide,[.int (i / j) s.toks,.int (i % j) (s.toks + 1)],.cons ⟨_,rfl⟩ (.cons ⟨_,rfl⟩ .nil),?_⟩
 exact ⟨⟨_,Heap.get?_push_size s.heap rfl,rfl,0,rfl⟩,_,Heap.get?_push_size s.heap rfl,rfl⟩
end
end L2
namespace L2
open PySem PySem.Spec PyProof.Rows
section
variable {prog:Program} {w:World} {A:Around} {E:Value -> Shared -> Prop} {s:Shared} {K:PySem.W.Frag} {x dx C f:Addr} {mA:Str -> Option Value} {name:Str} {v:Value}
end
section
variable {P:Program} {w:World} {H H':Hp} {h h':Heap} {a C dx:Addr} {fs fs':List (Str × V)}
end
section
variable {X:Cx} {pins:List (Addr × Obj)} {σ:St} {H:Hp} {s:Shared} {a C dx:Addr} {fs:List (Str × V)} {f:Str} {v:V} {A:Around} {E:Value -> Shared -> Prop}
end
section
variable {X:Cx} {o e value:Expr} {f:Str} {pos pos' tpos:Pos} {ta tv:TE}
end
section
variable {X:Cx} {pins:List (Addr × Obj)} {σ:St} {H:Hp} {s:Shared} {A:Around} {E:Value -> Shared -> Prop} {Q:Value -> Shared -> Prop} {c:Value} {b:Bool}
end
end L2
namespace L2
open PySem PySem.Spec PyProof.Rows
structure cX (k:Nat) (A:Around):Prop where
 hd:A.handled = none
 dp:A.depth + 3 * k + 5 < recursionLimit
 un:A.units + 16 * k + 200 < cLine
 gd:A.guards = some []
theorem cX.mono {j k:Nat} {A:Around} (r:cX k A) (h:j ≤ k):cX j A:=⟨r.hd,by have:=r.dp; omega,by have:=r.un; omega,r.gd⟩
theorem cX.deeper {k:Nat} {A:Around} (r:cX (k + 1) A) (env:Env):cX k (A.deeper env) :=
 ⟨r.hd,by have:=r.dp; show A.depth + 1 + 3 * k + 5 < _; omega,by have:=r.un; show A.units + 3 + 16 * k + 200 < _; omega,r.gd⟩
theorem cX.depth {k:Nat} {A:Around} (r:cX k A):A.depth < recursionLimit:=by have:=r.dp; omega
def IL:TA:=fun _ H Q => Q [] H
def Gv (ta:TE) (tr:TA):TA:=fun σ H Q => ta σ H fun x H1 => tr σ H1 fun xs H2 => Q (x :: xs) H2
section
variable {X:Cx} {e:Expr} {es:List Expr} {te:TE} {t:TA} {pos:Pos}
theorem g8:PA X [] IL:=fun _ _ _ _ H Q I h => Calls.spliced_nil ⟨[],H,I,.nil,h⟩
theorem dY (ha:PE X e te) (hr:PA X es t) (hs:starEach (e :: es) X.env = (false,eval e X.env) :: starEach es X.env:=by rfl):PA X (e :: es) (Gv te t):= by
 intro pos pins s σ H Q I h
 rw [hs]
 show wpAny _ _ (spliced ((false,eval e X.env) :: backTo pos (starEach es X.env))) _ _ s
 refine Calls.spliced_cons (cT (ha pins s σ H _ I h) fun u s1 ⟨x,H1,I1,r1,q1⟩ => ?_)
 exact cT (hr pos pins s1 σ H1 _ I1 q1) fun us s2 ⟨xs,H2,I2,r2,q2⟩ => ⟨x :: xs,H2,I2,.cons r1 r2,q2⟩
def Jh (t:TA):TE:=fun σ H Q => t σ H fun xs H1 => xs.length ≤ sizeLine ∧ ∀ p,H1 p = none -> Q (.ref p) (upd H1 p (.tup xs))
def Jv (t:TA):TE:=fun σ H Q => t σ H fun xs H1 => xs.length ≤ sizeLine ∧ ∀ p,H1 p = none -> Q (.ref p) (upd H1 p (.lst xs))
theorem FL {x1} (h:PA X es t):PE X (.Tuple es x1 pos) (Jh t):= by
 intro pins s σ H Q I hq
 refine wpAny_Tuple_spliced (cT (h pos pins s σ H _ I hq) fun us s1 ⟨xs,H1,I1,r,z,q⟩ => ⟨by rw [<- r.length]; exact z,?_⟩)
 have hf:H1 s1.heap.objs.size = none:=I1.hok.fresh (Nat.le_refl _)
 refine ⟨.ref s1.heap.objs.size,upd H1 s1.heap.objs.size (.tup xs),I1.laid (t':=s1.toks) (fun b u e => Heap.get?_push_of_some _ e) (Nat.le_refl _) ?_,rfl,q _ hf⟩
 exact ⟨z,us,r,⟨_,Heap.get?_push_size _ rfl,rfl,_,rfl⟩,_,Heap.get?_push_size _ rfl,rfl⟩
theorem EL (h:PA X es t):PE X (.List es pos) (Jv t):= by
 intro pins s σ H Q I hq
 refine wpAny_List_spliced (cT (h pos pins s σ H _ I hq) fun us s1 ⟨xs,H1,I1,r,z,q⟩ => ⟨by rw [<- r.length]; exact z,?_⟩)
 have hf:H1 s1.heap.objs.size = none:=I1.hok.fresh (Nat.le_refl _)
 refine ⟨.ref s1.heap.objs.size,upd H1 s1.heap.objs.size (.lst xs),I1.laid (t':=s1.toks) (fun b u e => Heap.get?_push_of_some _ e) (Nat.le_refl _) ?_,rfl,q _ hf⟩
 exact ⟨z,us,0,r,Heap.get?_push_size _ rfl⟩
end
abbrev Sp:=List V -> Hp -> VK -> XK -> Prop
abbrev r0:=List Env -> Hp -> Shared -> XK -> Value -> Shared -> Prop
structure A8 (P:Program) (w:World) (K:PySem.W.Frag) (mg:Str -> Option Value) (base:Heap) (A:Around) (outer:List Env) (s:Shared) (H:Hp):Prop where
 frames:A.frames = some outer
 mod:Mod K mg base
 bs:∀ b o,base.get? b = some o -> s.heap.get? b = some o ∧ H b = none
 bsz:base.objs.size ≤ s.heap.objs.size
 funs:s.heap.FunFrames base outer
 frf:∀ b ∈ wk outer,H b = none
 hok:mE P w H s.heap
 bare:AllBare s.gens
def CE (outer:List Env) (P:Program) (w:World) (H:Hp) (s:Shared) (Q:VK) (u:Value) (s':Shared):Prop :=
 ∃ v H',s'.os = s.os ∧ AllBare s'.gens ∧ Un (wk outer) [] H H' s.heap s'.heap ∧ mE P w H' s'.heap ∧ RelV v u ∧ Q v H'
def CR (CX:r0) (outer:List Env) (P:Program) (w:World) (H:Hp) (s:Shared) (Q:VK) (E:XK) (r:Result) (s':Shared):Prop :=
 match r with
 | .ok (.ret u) => CE outer P w H s Q u s'
 | .ok _ => False
 | .error e => CX outer H s E e s'
structure dW (P:Program) (w:World) (K:PySem.W.Frag) (mg:Str -> Option Value) (base:Heap) (CX:r0) (k:Nat) (f:Addr) (fd:FuncData) (ps:List Str) (sp:Sp):Prop where
 len:∀ vs H Q E,sp vs H Q E -> vs.length = ps.length
 run:∀ (A:Around) (outer:List Env) (s:Shared) (H:Hp) (args:Args) (us:List Value) (vs:List V) (Q:VK) (E:XK),cX k A -> A8 P w K mg base A outer s H -> BindsTo s fd args (ps.zip us) -> Vals vs us -> sp vs H Q E ->
  codeAny (model P w) A (.call (.ref f) args) (CR CX outer P w H s Q E) s
theorem dW.mono {P:Program} {w:World} {K:PySem.W.Frag} {mg:Str -> Option Value} {base:Heap} {CX:r0} {j k:Nat} {f:Addr} {fd:FuncData} {ps:List Str} {sp:Sp} (F:dW P w K mg base CX j f fd ps sp) (h:j ≤ k) :
  dW P w K mg base CX k f fd ps sp:=⟨F.len,fun A outer s H args us vs Q E hr => F.run A outer s H args us vs Q E (hr.mono h)⟩
theorem dW.imp {P:Program} {w:World} {K:PySem.W.Frag} {mg:Str -> Option Value} {base:Heap} {CX:r0} {k:Nat} {f:Addr} {fd:FuncData} {ps:List Str} {sp sp':Sp} (F:dW P w K mg base CX k f fd ps sp)
  (h:∀ vs H Q E,sp' vs H Q E -> sp vs H Q E):dW P w K mg base CX k f fd ps sp' :=
 ⟨fun vs H Q E q => F.len vs H Q E (h _ _ _ _ q),fun A outer s H args us vs Q E hr he hb hv hs => F.run A outer s H args us vs Q E hr he hb hv (h _ _ _ _ hs)⟩
section
variable {X:Cx} {pins:List (Addr × Obj)} {σ:St} {H:Hp} {s s':Shared}
theorem Inv.env0 (I:Inv X pins σ H s):A8 X.prog X.w X.K X.mg X.base X.A X.stack s H :=
 ⟨I.ok.frames,I.ok.mod,I.bs,Nat.le_trans I.ok.bsz I.sz,I.stack,I.stkFree,I.hok,I.bare⟩
theorem Inv.after {Q:VK} {u:Value} (I:Inv X pins σ H s) (h:CE X.stack X.prog X.w H s Q u s'):EP X pins σ Q u s':= by
 obtain ⟨v,H',os,bare,un,hok,r,q⟩:=h
 obtain ⟨hh,g,d,t,os'⟩:=s'
 obtain rfl:os' = s.os:=os
 exact ⟨v,H',I.call (h':=hh) (g':=g) (d':=d) (t':=t) (ch:=[]) un hok bare (fun b z => absurd z (by simp)),r,q⟩
end
def F5 (sp:Sp) (dvs:List V) (E:XK) (t:TA):TE:=fun σ H Q => t σ H fun vs H1 => sp (vs ++ dvs) H1 Q E
def Binds (K:PySem.W.Frag) (fd:FuncData) (ps:List Str) (ds:List Value):Prop :=
 ∀ (s:Shared) (us:List Value),K.In s.heap -> (us ++ ds).length = ps.length -> BindsTo s fd ⟨us,[]⟩ (ps.zip (us ++ ds))
theorem Binds.all {K:PySem.W.Frag} {fd:FuncData} {ps:List Str} (h:∀ us:List Value,us.length = ps.length -> bindArgs fd ⟨us,[]⟩ = pure (ps.zip us)):Binds K fd ps []:=fun s us _ hl => by
 rw [List.append_nil] at hl ⊢
 exact .of_eq (h us hl)
def Passes (CX:r0) (X:Cx) (E:XK):Prop:=∀ (pins:List (Addr × Obj)) (σ:St) (H:Hp) (s:Shared) (e:Value) (s':Shared),Inv X pins σ H s -> CX X.stack H s E e s' -> X.xe e s'
section
variable {X:Cx} {CX:r0} {k:Nat} {f C:Addr} {fd:FuncData} {ps:List Str} {sp:Sp} {dvs:List V} {ds:List Value} {E:XK} {x m:Str} {p pos apos:Pos} {e o:Expr} {es:List Expr} {ta:TE} {t:TA}
theorem EW {pins:List (Addr × Obj)} {σ:St} {H:Hp} {s:Shared} {Q:VK} {us:List Value} {vs:List V} (F:dW X.prog X.w X.K X.mg X.base CX k f fd ps sp) (hr:cX k X.A) (hb:Binds X.K fd ps ds) (hd:Vals dvs ds) (hx:Passes CX X E)
  (I:Inv X pins σ H s) (r:Vals vs us) (h:sp (vs ++ dvs) H Q E):wpAny (model X.prog X.w) X.A (call (.ref f) us) (EP X pins σ Q) X.xe s:= by
 have r2:Vals (vs ++ dvs) (us ++ ds):=r.append hd
 have hl:(us ++ ds).length = ps.length:=by rw [<- r2.length]; exact F.len _ _ _ _ h
 refine wpAny_call (codeAny_mono (F.run X.A X.stack s H ⟨us,[]⟩ (us ++ ds) (vs ++ dvs) Q E hr I.env0 (hb s us I.kIn hl) r2 h) fun r s' hq => ?_)
 cases r with
 | error e => exact hx pins σ H s e s' I hq
 | ok fl =>
  cases fl with
  | ret u => exact I.after hq
  | next => exact False.elim hq
  | brk => exact False.elim hq
  | cont => exact False.elim hq
theorem pF (F:dW X.prog X.w X.K X.mg X.base CX k f fd ps sp) (hr:cX k X.A) (hg:Gl X x) (hm:X.mg x = some (.ref f)) (hk:PySem.W.keepIn X.K (.ref f) = true) (hb:Binds X.K fd ps ds) (hd:Vals dvs ds) (hx:Passes CX X E)
  (ha:PA X (e :: es) t) (hdb:(x == ("__debug__":Str)) = false:=by decide) (he:starEach (e :: es) X.env = (false,eval e X.env) :: starEach es X.env:=by rfl) (hpl:(backTo pos (starEach es X.env)).any (·.1) = false:=by rfl) :
  PE X (.Call (.Name x p) (e :: es) [] pos) (F5 sp dvs E t):= by
 intro pins s σ H Q I h
 refine wpAny_Call_Name_kw (uG I hg hm ?_ hdb)
 refine PySem.W.callWith_K (h₀:=X.base) I.ok.mod.kin hk (cT (ha pos pins s σ H _ I h) fun us s1 ⟨vs,H1,I1,r,q⟩ => ⟨I1.kIn,?_⟩) he hpl
 exact EW F hr hb hd hx I1 r q
structure Mk (K:PySem.W.Frag) (C f:Addr):Prop where
 makes:PySem.W.makesIn K C = true
 init:PySem.W.findIn K (.ref C) "__init__" = some (some (.ref f))
 fn:PySem.W.isFn K (.ref f) = true
 kp:PySem.W.keepIn K (.ref C) = true
end
section
variable {X:Cx} {CX:r0} {k:Nat} {f C:Addr} {fd:FuncData} {ps ks:List Str} {sp:Sp} {E:XK} {x m:Str} {p pos apos kpos:Pos} {e o:Expr} {es:List Expr} {kws:List Keyword} {te ta:TE} {t tk:TA} {nm:Option Str}
variable {g:List Value -> List Value -> List Value} {gV:List V -> List V -> List V}
end
structure aG (N P:List Str) (sc:Scope):Prop where
 kind:sc.kind = .function
 co:sc.isCoroutine = false
 gen:sc.isGenerator = false
 nd:N.Nodup
 pre:N.take P.length = P
 par:∀ x ∈ P,sc.names.lookup x = some .local ∨ sc.names.lookup x = some .cell
 nofree:∀ y ∈ sc.names,y.2 ≠ .free
theorem o9 {kindOf:Str -> Option NameKind} {x:Str}:∀ {binds:List (Str × Value)} {m:Str -> Option Value},(∀ v,(x,v) ∉ binds) -> bindL kindOf binds m x = m x
 | [],_,_ => rfl
 | (n,v) :: r,m,h => by
  unfold bindL
  rw [o9 fun w hw => h w (List.mem_cons_of_mem _ hw)]
  split
  ·have:x ≠ n:=by rintro rfl; exact h v List.mem_cons_self
   simp [this]
  ·rfl
theorem oD {kindOf:Str -> Option NameKind} {x:Str}:∀ {binds:List (Str × Value)} {m:Str -> Option Value},(∀ v,(x,v) ∉ binds) -> bindC kindOf binds m x = m x
 | [],_,_ => rfl
 | (n,v) :: r,m,h => by
  unfold bindC
  rw [oD fun w hw => h w (List.mem_cons_of_mem _ hw)]
  split
  ·rfl
  ·have:x ≠ n:=by rintro rfl; exact h v List.mem_cons_self
   simp [this]
theorem nY {kindOf:Str -> Option NameKind} {x:Str} {v:Value}:∀ {P:List Str} {vs:List Value} {i:Nat} {m:Str -> Option Value},P.Nodup -> P[i]? = some x -> vs[i]? = some v -> kindOf x = some .local ->
  bindL kindOf (P.zip vs) m x = some v
 | [],_,_,_,_,h,_,_ => by simp at h
 | _ :: _,[],_,_,_,_,h,_ => by simp at h
 | p :: P,w :: vs,0,m,nd,h1,h2,hk => by
  simp at h1 h2; subst h1; subst h2
  show bindL kindOf ((p,w) :: P.zip vs) m p = _
  unfold bindL
  rw [o9 fun v hv => (List.nodup_cons.mp nd).1 (List.of_mem_zip hv).1,if_pos hk]
  simp
 | p :: P,w :: vs,i + 1,m,nd,h1,h2,hk => by
  show bindL kindOf ((p,w) :: P.zip vs) m x = _
  unfold bindL
  exact nY (i:=i) (List.nodup_cons.mp nd).2 (by simpa using h1) (by simpa using h2) hk
theorem oB {kindOf:Str -> Option NameKind} {x:Str} {v:Value}:∀ {P:List Str} {vs:List Value} {i:Nat} {m:Str -> Option Value},P.Nodup -> P[i]? = some x -> vs[i]? = some v -> kindOf x ≠ some .local ->
  bindC kindOf (P.zip vs) m x = some v
 | [],_,_,_,_,h,_,_ => by simp at h
 | _ :: _,[],_,_,_,_,h,_ => by simp at h
 | p :: P,w :: vs,0,m,nd,h1,h2,hk => by
  simp at h1 h2; subst h1; subst h2
  show bindC kindOf ((p,w) :: P.zip vs) m p = _
  unfold bindC
  rw [oD fun v hv => (List.nodup_cons.mp nd).1 (List.of_mem_zip hv).1,if_neg hk]
  simp
 | p :: P,w :: vs,i + 1,m,nd,h1,h2,hk => by
  show bindC kindOf ((p,w) :: P.zip vs) m x = _
  unfold bindC
  exact oB (i:=i) (List.nodup_cons.mp nd).2 (by simpa using h1) (by simpa using h2) hk
def start (N:List Str) (vs:List V):St:=vs.map some ++ List.replicate (N.length - vs.length) none
def jz (CX:r0) (P:Program) (w:World) (K:PySem.W.Frag) (mg:Str -> Option Value) (base:Heap) (N:List Str) (qual:Str) (scope:Scope) (f:Addr) (cd:Value) (A:Around) (outer:List Env) (s:Shared) (H:Hp) (E:XK):Cx where
 prog:=P
 w:=w
 K:=K
 mg:=mg
 base:=base
 A:=A.deeper (envOfC qual scope s.heap.objs.size f cd)
 N:=N
 s₀:=s
 H₀:=H
 env:=envOfC qual scope s.heap.objs.size f cd
 outer:=outer
 stack:=envOfC qual scope s.heap.objs.size f cd :: outer
 ex:=[]
 calm:=true
 fn:=fun _ => true
 pn:=[]
 xe:=fun e s' => wpAny (model P w) (A.deeper (envOfC qual scope s.heap.objs.size f cd)) (leaving (envOfC qual scope s.heap.objs.size f cd) e) (fun _ s'' => CX outer H s E e s'') (fun e' s'' => CX outer H s E e' s'') s'
theorem rp {sc:Scope} {n:Nat} {x:Str} (h:sc.names.lookup x = some .cell):∃ c,(cellsFrom n sc.names []).lookup x = some c:= by
 have q:=PySem.W.cellsFrom_some sc.names n [] (.inl h)
 exact Option.isSome_iff_exists.mp q
theorem vx {CX:r0} {P:Program} {w:World} {K:PySem.W.Frag} {mg:Str -> Option Value} {base:Heap} {N ps:List Str} {qual:Str} {scope:Scope} {f:Addr} {cd:Value} {A:Around} {outer:List Env} {s s1:Shared} {H:Hp} {E:XK} {us:List Value} {vs:List V}
  (S:aG N ps scope) (hd:A.handled = none) (e0:A8 P w K mg base A outer s H) (hl:vs.length = ps.length) (r:Vals vs us)
  (x:InCallC s s.heap.objs.size (bindL (envOfC qual scope s.heap.objs.size f cd).kindOf (ps.zip us) fun _ => none) (cellsFrom (s.heap.objs.size + 1) scope.names []) (bindC (envOfC qual scope s.heap.objs.size f cd).kindOf (ps.zip us) fun _ => none) s1) :
  Inv (jz CX P w K mg base N qual scope f cd A outer s H E) [] (start N vs) H s1:= by
 have hpl:ps.length ≤ N.length:=by have:=congrArg List.length S.pre; rw [List.length_take] at this; omega
 obtain ⟨h1,tk,rfl,hk⟩:=x.done
 have noA:∀ b:Addr,b ∉ (jz CX P w K mg base N qual scope f cd A outer s H E).ex:=fun b z => absurd (show b ∈ ([]:List Addr) from z) (by simp)
 refine ⟨⟨e0.mod,S.kind,rfl,rfl,Nat.le_refl _,fun y z c h1 h2 => ?_,fun y hy => ?_,fun y c _ h => ?_,fun _ => hd,Around.frames_deeper e0.frames,.inr ⟨rfl,rfl⟩,fun b z => absurd z (noA b),e0.bs,e0.bsz,fun b _ _ => noA b,fun b z => absurd z (noA b),e0.funs,e0.frf⟩,
  rfl,e0.bare,Un.kept hk,⟨_,x.toInCall.ns,fun i y v h1 h2 h3 => ?_⟩,fun y c h => ⟨_,x.cell y c h⟩,e0.hok.fresh (Nat.le_refl _),fun y c h => ?_,fun p hp => absurd (show p ∈ ([]:List (Addr × Obj)) from hp) (by simp),e0.hok.kept hk,?_⟩
 ·exact name_of_addr x.apart (PySem.mem_of_lookup h1) (PySem.mem_of_lookup h2)
 ·have hy:scope.names.lookup y = some .cell ∨ scope.names.lookup y = some .free:=hy
  rcases hy with hy | hy
  ·exact rp hy
  ·exact absurd rfl (S.nofree _ (PySem.mem_of_lookup hy))
 ·exact Nat.le_of_lt (x.above y c (PySem.mem_of_lookup h))
 ·have hi:i < vs.length:= by
   unfold start at h2
   by_cases hi:i < vs.length
   ·exact hi
   ·rw [List.getElem?_append_right (by simpa using hi)] at h2
    rw [List.getElem?_replicate] at h2
    split at h2 <;> cases h2
  have ha:vs[i]? = some v:= by
   unfold start at h2
   rw [List.getElem?_append_left (by simpa using hi),List.getElem?_map] at h2
   cases e:vs[i]? with
   | none => rw [e] at h2; cases h2
   | some a => rw [e] at h2; cases h2; rfl
  obtain ⟨u,hu,rv⟩:=r.get ha
  have hp:ps[i]? = some y:= by
   rw [<- S.pre,List.getElem?_take_of_lt (by omega)]; exact h1
  have ndP:ps.Nodup:=by rw [<- S.pre]; exact S.nd.sublist (List.take_sublist _ _)
  refine ⟨u,rv,?_⟩
  rcases S.par y (List.mem_of_getElem? hp) with k | k
  ·exact .inl ⟨k,nY ndP hp hu k⟩
  ·obtain ⟨c,e⟩:=rp (n:=s.heap.objs.size + 1) k
   refine .inr ⟨.inl k,c,e,?_⟩
   have q:=x.cell y c e
   rw [oB ndP hp hu (by show scope.names.lookup y ≠ _; rw [k]; decide)] at q
   exact q
 ·exact e0.hok.fresh (Nat.le_of_lt (x.above y c (PySem.mem_of_lookup h)))
 ·unfold start
  show _ = N.length
  rw [List.length_append,List.length_map,List.length_replicate]
  omega
theorem Gs {CX:r0} {P:Program} {w:World} {K:PySem.W.Frag} {mg:Str -> Option Value} {base:Heap} {k:Nat} {f:Addr} {name qual:Str} {params:Arguments} {body:List Stmt} {scope:Scope} {dV kV doc pm cdv ct oc:Value} {an od:Option Addr}
  {osl:Array (Option Value)} {N ps:List Str} {sp:Sp} (lk:K.lookup f = some ⟨oc,od,.func (PySem.W.fnOf name qual params body scope dV kV doc pm an cdv ct),osl⟩) (hcd:PySem.W.codeIn K cdv qual = true) (S:aG N ps scope)
  (len:∀ vs H Q E,sp vs H Q E -> vs.length = ps.length)
  (hbody:∀ (A:Around) (outer:List Env) (s:Shared) (H:Hp) (vs:List V) (Q:VK) (E:XK),cX k (A.deeper (envOfC qual scope s.heap.objs.size f cdv)) -> sp vs H Q E ->
   ∃ t,rY (jz CX P w K mg base N qual scope f cdv A outer s H E) body t ∧ t { nx:=fun _ H' => Q .non H',rt:=Q } (start N vs) H) :
  dW P w K mg base CX (k + 1) f (PySem.W.fnOf name qual params body scope dV kV doc pm an cdv ct) ps sp:= by
 refine ⟨len,fun A outer s H args us vs Q E hr e0 hb r hsp => ?_⟩
 have hl:=len _ _ _ _ hsp
 have KX:K.In s.heap:=e0.mod.kin.keeps fun b o e => (e0.bs b o e).1
 have lim:s.heap.NoLimit:=e0.mod.nolimit.keeps fun b o e => (e0.bs b o e).1
 have hkind:∀ y ∈ ps.zip us,scope.names.lookup y.1 = some .local ∨ (scope.names.lookup y.1 = some .cell ∧ ((cellsFrom (s.heap.objs.size + 1) scope.names []).lookup y.1).isSome = true):=fun ⟨n,v⟩ hy => by
  rcases S.par n (List.of_mem_zip hy).1 with q | q
  ·exact .inl q
  ·exact .inr ⟨q,PySem.W.cellsFrom_some _ _ _ (.inl q)⟩
 refine codeAny_call_function hr.depth (KX _ _ lk) rfl S.co S.gen rfl (PySem.W.codeRec_of KX hcd) (hb _ _ _ _ ?_)
 refine wpAny_newFunctionEnv_cells S.kind hkind fun env he s1 x => ?_
 subst he
 refine ⟨lim.keeps x.toInCall.keep,codeAny_func ?_⟩
 obtain ⟨t,ht,hq⟩:=hbody A outer s H vs Q E (hr.deeper _) hsp
 have I:Inv (jz CX P w K mg base N qual scope f cdv A outer s H E) [] (start N vs) H s1:=vx S hr.hd e0 hl r x
 refine wpAny_mono (ht [] s1 (start N vs) H _ I hq) (fun fl s' hs => ?_) fun e s' hs => hs
 have fin:∀ {σ':St} {H':Hp} {v:V} {u:Value},Inv (jz CX P w K mg base N qual scope f cdv A outer s H E) [] σ' H' s' -> RelV v u -> Q v H' -> CE outer P w H s Q u s' :=
  fun {σ' H' v u} J rv q => ⟨v,H',J.os,J.bare,J.base,J.hok,rv,q⟩
 cases fl with
 | ret u =>
  obtain ⟨v,σ',H',J,rv,q⟩:=hs
  exact fin J rv q
 | next =>
  obtain ⟨σ',H',J,q⟩:=hs
  exact fin (v:=V.non) (u:=Value.none) J rfl q
 | brk =>
  obtain ⟨_,_,_,q⟩:=hs
  exact False.elim q
 | cont =>
  obtain ⟨_,_,_,q⟩:=hs
  exact False.elim q
end L2
namespace L2
open PySem PySem.Spec PyProof.Rows
section
variable {X:Cx} {x:Str} {p pos:Pos} {e:Expr} {es:List Expr} {t:TA} {id T:String} {r:List V -> Hp -> VK -> Prop}
def Ic (r:List V -> Hp -> VK -> Prop) (t:TA):TE:=fun σ H Q => t σ H fun vs H1 => r vs H1 Q
theorem h9 (hc:dE X (.builtin id) r) (hg:Gl X x) (hm:X.mg x = none) (hv:bootBuiltins x = some (.builtin id)) (ha:PA X (e :: es) t) (hn:x ≠ "__name__":=by decide) (hdb:(x == ("__debug__":Str)) = false:=by decide)
  (he:starEach (e :: es) X.env = (false,eval e X.env) :: starEach es X.env:=by rfl) (hpl:(backTo pos (starEach es X.env)).any (·.1) = false:=by rfl):PE X (.Call (.Name x p) (e :: es) [] pos) (Ic r t):= by
 intro pins s σ H Q I h
 refine wpAny_Call_Name_kw (gq I hg hm hv ?_ hn hdb)
 exact PyProof.Rows.callWith_builtin1 (cT (ha pos pins s σ H _ I h) fun us s1 ⟨vs,H1,I1,r1,q1⟩ => hc pins s1 σ H1 vs us Q I1 r1 q1) he hpl
theorem fT (hc:dE X (.type T) r) (hg:Gl X x) (hm:X.mg x = none) (hv:bootBuiltins x = some (.type T)) (ha:PA X (e :: es) t) (hn:x ≠ "__name__":=by decide) (hdb:(x == ("__debug__":Str)) = false:=by decide)
  (he:starEach (e :: es) X.env = (false,eval e X.env) :: starEach es X.env:=by rfl) (hpl:(backTo pos (starEach es X.env)).any (·.1) = false:=by rfl):PE X (.Call (.Name x p) (e :: es) [] pos) (Ic r t):= by
 intro pins s σ H Q I h
 refine wpAny_Call_Name_kw (gq I hg hm hv ?_ hn hdb)
 exact PyProof.Rows.callWith_type1 (cT (ha pos pins s σ H _ I h) fun us s1 ⟨vs,H1,I1,r1,q1⟩ => hc pins s1 σ H1 vs us Q I1 r1 q1) he hpl
end
end L2
namespace HT
open PySem PyProof.Rows
section
open PySem.SeqAt
open PySem.AutoSeq1 (wpAny_loadPart')
open PySem.MeetsSeq PySem.MeetsSeq2 PySem.MeetsSeq3
end
section
variable {prog:Program} {w:World} {A:Around} {E:Value -> Shared -> Prop} {s:Shared}
theorem cat_tup {t b:Addr} {vs ws:List Value} {Q:Value -> Shared -> Prop} (ht:IsTup s.heap t vs.toArray) (hb:IsTup s.heap b ws.toArray) (hv:vs ≠ [])
  (h1:ws = [] -> Q (.ref t) s) (h2:ws ≠ [] -> Q (.ref s.heap.objs.size) { s with heap:=s.heap.push { cls:=.type "tuple",data:=.seq (vs ++ ws).toArray } })
  (hsz:vs.length + ws.length ≤ sizeLine):wpAny (model prog w) A (binaryOp .Add (.ref t) (.ref b)) Q E s:= by
 obtain ⟨⟨cls,dd,data,sl⟩,ho,hc,n,hd⟩:=id ht
 obtain ⟨⟨cls2,dd2,data2,sl2⟩,ho2,hc2,n2,hd2⟩:=id hb
 simp only at hc hd hc2 hd2
 subst hc hd hc2 hd2
 have e:vs.toArray ++ ws.toArray = (vs ++ ws).toArray:=by simp
 by_cases hw:ws = []
 ·exact concat_meets ⟨_,ho,rfl⟩ ⟨_,ho2,rfl⟩ noFill_tuple_add seq_tuple_add PySem.F.slot_tuple_add PySem.F.entry_tuple_add (PySem.F.args_tuple_add_2 _ _)
   (tuple_addW1 t b vs.toArray ws.toArray n n2 dd dd2 sl sl2 (by simpa using hv) (by simp [hw])) ⟨ho,ho2,h1 hw⟩
 ·refine concat_meets ⟨_,ho,rfl⟩ ⟨_,ho2,rfl⟩ noFill_tuple_add seq_tuple_add PySem.F.slot_tuple_add PySem.F.entry_tuple_add (PySem.F.args_tuple_add_2 _ _)
   (tuple_addW2 t b vs.toArray ws.toArray n n2 dd dd2 sl sl2 (by simpa using hv) (by simpa using hw) (by rw [List.size_toArray,List.size_toArray]; exact hsz)) ⟨ho,ho2,?_⟩
  rw [e]
  exact h2 hw
def sIx (n d:Nat):Option Int -> Nat
 | none => d
 | some v => if v < 0 then (v + (n:Int)).toNat else min v.toNat n
theorem sIx_none (n d:Nat):sIx n d none = d:=rfl
theorem sIx_nat (n d k:Nat):sIx n d (some (k:Int)) = min k n:= by
 show (if (k:Int) < 0 then ((k:Int) + (n:Int)).toNat else min (k:Int).toNat n) = min k n
 rw [if_neg (by omega),Int.toNat_natCast]
theorem FA (n d:Nat) (hd:d ≤ n) (o:Option Int):sIx n d o ≤ n:= by
 cases o with
 | none => exact hd
 | some v =>
  show (if v < 0 then (v + (n:Int)).toNat else min v.toNat n) ≤ n
  by_cases hv:v < 0
  ·rw [if_pos hv]; omega
  ·rw [if_neg hv]; exact Nat.min_le_right _ _
theorem u4 (v:Int) (n d:Nat):(if v < 0 then max (v + (n:Int)) 0 else min v (n:Int)) = ((sIx n d (some v):Nat):Int):= by
 show (if v < 0 then max (v + (n:Int)) 0 else min v (n:Int)) = (((if v < 0 then (v + (n:Int)).toNat else min v.toNat n):Nat):Int)
 by_cases hv:v < 0
 ·simp only [if_pos hv]; omega
 ·simp only [if_neg hv]; omega
theorem tL (lo hi:Option Int) (n:Nat):Builtin.Slice.sliceAdjust lo hi 1 (n:Int) = (((sIx n 0 lo:Nat):Int),((sIx n n hi:Nat):Int)):= by
 have h1:¬ ((1:Int) < 0):=by omega
 unfold Builtin.Slice.sliceAdjust
 simp only [h1,if_false]
 refine Prod.ext ?_ ?_
 ·cases lo with
  | none => rfl
  | some v => exact u4 v n 0
 ·cases hi with
  | none => rfl
  | some v => exact u4 v n n
theorem sR (i j:Nat):Builtin.Slice.slicePlaces (i:Int) (j:Int) 1 = j - i:= by
 unfold Builtin.Slice.slicePlaces
 have h1:(1:Int) > 0:=by omega
 simp only [h1,if_true,Int.ediv_one]
 split <;> omega
theorem slicePart_ {v:Value} {o:Option Int} {Q:Option Int -> Shared -> Prop} (p:IsPart v o) (h:Q o s):wpAny (model prog w) A (Builtin.Slice.slicePartIndex v) Q E s:= by
 cases p with
 | none => exact slicePart_none h
 | int i t => exact slicePart_int h
theorem sliceApplied_gen {sl:Addr} {vl vu:Value} {lo hi:Option Int} {n:Nat} {Q:Int × Int × Nat -> Shared -> Prop} (hs:s.heap.IsSliceOf sl vl vu .none) (pl:IsPart vl lo) (pu:IsPart vu hi)
  (h:Q (((sIx n 0 lo:Nat):Int),1,sIx n n hi - sIx n 0 lo) s):wpAny (model prog w) A (Builtin.Slice.sliceApplied (.ref sl) (pure (n:Int))) Q E s:= by
 obtain ⟨os,hos,hcs,hds⟩:=id hs
 unfold Builtin.Slice.sliceApplied Builtin.Slice.sliceFields
 refine wpAny_bind (wpAny_bind (wpAny_field hos hds (x:=vl) rfl (wpAny_bind (wpAny_field hos hds (x:=vu) rfl (wpAny_bind (wpAny_field hos hds (x:=.none) rfl (wpAny_pure ?_)))))))
 refine wpAny_bind (slicePart_none ?_)
 show wpAny _ _ (if ((1:Int) == 0) = true then _ else _) _ _ s
 rw [if_neg (by decide)]
 refine wpAny_bind (slicePart_ pl (wpAny_bind (slicePart_ pu (wpAny_bind (wpAny_pure ?_)))))
 show wpAny _ _ (match Builtin.Slice.sliceAdjust lo hi 1 (n:Int) with | (lo,hi) => pure (lo,(1:Int),Builtin.Slice.slicePlaces lo hi 1)) _ _ s
 rw [tL lo hi n]
 show wpAny _ _ (pure (((sIx n 0 lo:Nat):Int),(1:Int),Builtin.Slice.slicePlaces ((sIx n 0 lo:Nat):Int) ((sIx n n hi:Nat):Int) 1)) _ _ s
 rw [sR]
 exact wpAny_pure h
theorem xY (xs:Array Value) (i k:Nat):((List.range k).filterMap fun (m:Nat) => xs[((i:Int) + (m:Int) * 1).toNat]?).toArray = ((xs.toList.drop i).take k).toArray:= by
 have e:(fun (m:Nat) => xs[((i:Int) + (m:Int) * 1).toNat]?) = fun m => xs[i + m]?:= by
  funext m
  have:((i:Int) + (m:Int) * 1).toNat = i + m:=by omega
  rw [this]
 rw [e]
 have:=pick_run xs i k
 rw [List.filterMap_map] at this
 have e2:((fun x => xs[x]?) ∘ fun x => i + x) = fun m => xs[i + m]?:=rfl
 rw [e2] at this
 rw [this]
theorem getItem_tuple_cut {t sl:Addr} {items:Array Value} {vl vu:Value} {lo hi:Option Int} {Q:Value -> Shared -> Prop} (ht:IsTup s.heap t items) (hs:s.heap.IsSliceOf sl vl vu .none) (pl:IsPart vl lo) (pu:IsPart vu hi)
  (hw:¬ (sIx items.size 0 lo = 0 ∧ sIx items.size items.size hi = items.size))
  (h:Q (.ref s.heap.objs.size) { s with heap:=s.heap.push { cls:=.type "tuple",data:=.seq ((items.toList.drop (sIx items.size 0 lo)).take (sIx items.size items.size hi - sIx items.size 0 lo)).toArray } })
  (hsz:items.size ≤ sizeLine):wpAny (model prog w) A (getItem (.ref t) (.ref sl)) Q E s:= by
 have htake:sizeOk (.seq ((items.toList.drop (sIx items.size 0 lo)).take (sIx items.size items.size hi - sIx items.size 0 lo)).toArray):= by
  show ((items.toList.drop (sIx items.size 0 lo)).take (sIx items.size items.size hi - sIx items.size 0 lo)).toArray.size ≤ sizeLine
  rw [List.size_toArray,List.length_take,List.length_drop,Array.length_toList]
  omega
 have hj:sIx items.size items.size hi ≤ items.size:=FA _ _ (Nat.le_refl _) hi
 obtain ⟨os,hos,hcs,hds⟩:=id hs
 have hTs:s.TypeIs (.ref sl) "slice":=⟨os,hos,hcs⟩
 unfold getItem
 try with_reducible refine wpAny_holding ?_
 first | refine wpAny_bind (wpAny_pure ?_) | skip
 refine wpAny_bind (wpAny_sequenceKey ht.typeIs (by decide) ?_)
 refine wpAny_bind (wpAny_callSpecial?_slot (name:=Str.ofString "__getitem__") ht.typeIs PyProof.Rows.slot_tuple_getitem
  (wpAny_call_entry PyProof.Rows.slot_tuple_getitem ht.typeIs entry_tuple_getitem ?_ (args_tuple_getitem _ _)))
 show wpAny _ _ (Builtin.Tuple.tupleItemsOf (.ref t) >>= _) _ _ s
 refine wpAny_bind (tupleItemsOf_ ht ?_)
 refine wpAny_bind (wpAny_typeOf hTs ?_)
 rw [if_pos (by decide)]
 refine wpAny_bind (sliceApplied_gen hs pl pu ?_)
 have hno:¬ ((((sIx items.size 0 lo:Nat):Int) == 0 && (1:Int) == 1 && (sIx items.size items.size hi - sIx items.size 0 lo) == items.size) = true):= by
  intro q
  rw [Bool.and_eq_true,Bool.and_eq_true] at q
  have q1:((sIx items.size 0 lo:Nat):Int) = 0:=eq_of_beq q.1.1
  have q2:sIx items.size items.size hi - sIx items.size 0 lo = items.size:=eq_of_beq q.2
  exact hw ⟨by omega,by omega⟩
 show wpAny _ _ (if (((sIx items.size 0 lo:Nat):Int) == 0 && (1:Int) == 1 && (sIx items.size items.size hi - sIx items.size 0 lo) == items.size) = true then _ else _) _ _ s
 rw [if_neg hno,xY]
 first
  | exact wpAny_bind (m:=Builtin.Tuple.tupleExact _) (wpAny_newObj_type (wpAny_pure ⟨_,rfl,wpAny_pure h⟩) htake)
  | exact wpAny_bind (m:=Builtin.Tuple.tupleExact _) (wpAny_newObj_type (wpAny_bind (wpAny_pure (wpAny_pure ⟨_,rfl,wpAny_pure h⟩))) htake)
  | exact wpAny_bind (wpAny_bind (m:=Builtin.Tuple.tupleExact _) (wpAny_newObj_type (wpAny_pure (wpAny_pure ⟨_,rfl,wpAny_pure h⟩)) htake))
  | exact wpAny_bind (wpAny_bind (m:=Builtin.Tuple.tupleExact _) (wpAny_newObj_type (wpAny_pure ⟨_,rfl,wpAny_pure h⟩) htake))
end
end HT
namespace L2
open PySem PySem.Spec PyProof.Rows
abbrev TO:=St -> Hp -> (Option Int -> Hp -> Prop) -> Prop
def PO (X:Cx) (e:Option Expr) (t:TO):Prop :=
 ∀ (pins:List (Addr × Obj)) (s:Shared) (σ:St) (H:Hp) (Q:Option Int -> Hp -> Prop),Inv X pins σ H s -> t σ H Q ->
  wpAny (model X.prog X.w) X.A (evalPart e X.env) (fun u s' => ∃ o H',Inv X pins σ H' s' ∧ IsPart u o ∧ Q o H') X.xe s
def BG:TO:=fun _ H Q => Q none H
def Hg (t:TE):TO:=fun σ H Q => t σ H fun x H1 => ∃ i,x = .int i ∧ Q (some i) H1
theorem intsAre_of {ns:List Int}:∀ {us:List Value},Vals (ns.map V.int) us -> IntsAre us ns:= by
 induction ns with
 | nil => intro us r; rw [List.map_nil] at r; cases r; exact .nil
 | cons n ns ih =>
  intro us r
  rw [List.map_cons] at r
  cases r with
  | cons r1 r2 =>
   obtain ⟨t,e⟩:=r1
   subst e
   exact .cons n t (ih r2)
section
variable {X:Cx} {e:Expr} {te:TE} {lo hi:Option Expr} {tl th:TO} {pos p2:Pos}
theorem A9:PO X none BG:= by
 intro pins s σ H Q I h
 rw [evalPart_none]
 exact wpAny_pure ⟨none,H,I,.none,h⟩
theorem AH (h:PE X e te):PO X (some e) (Hg te):= by
 intro pins s σ H Q I hw
 rw [evalPart_some]
 refine cT (h pins s σ H _ I hw) fun u s1 ⟨x,H1,I1,r1,q1⟩ => ?_
 obtain ⟨i,rfl,q⟩:=q1
 obtain ⟨t,rfl⟩:=r1
 exact ⟨some i,H1,I1,.int i t,q⟩
def C0 (X:Cx) (r:V -> Option Int -> Option Int -> Hp -> VK -> Prop):Prop :=
 ∀ (pins:List (Addr × Obj)) (s:Shared) (σ:St) (H:Hp) (x:V) (v vl vu:Value) (lo hi:Option Int) (sl:Addr) (Q:VK),Inv X pins σ H s -> RelV x v -> s.heap.IsSliceOf sl vl vu .none -> IsPart vl lo -> IsPart vu hi -> r x lo hi H Q ->
  ∃ T id,typeLookup (.type T) "__getitem__" = pure (some (.builtin id)) ∧ s.TypeIs v T ∧ wpAny (model X.prog X.w) X.A (getItem v (.ref sl)) (EP X pins σ Q) X.xe s
theorem C0.or {r r':V -> Option Int -> Option Int -> Hp -> VK -> Prop} (h:C0 X r) (h':C0 X r'):C0 X (fun x lo hi H Q => r x lo hi H Q ∨ r' x lo hi H Q):= by
 intro pins s σ H x v vl vu lo hi sl Q I rx hs pl pu q
 rcases q with q | q
 ·exact h pins s σ H x v vl vu lo hi sl Q I rx hs pl pu q
 ·exact h' pins s σ H x v vl vu lo hi sl Q I rx hs pl pu q
def JT (r:V -> Option Int -> Option Int -> Hp -> VK -> Prop) (te:TE) (tl th:TO):TE:=fun σ H Q => te σ H fun x H1 => tl σ H1 fun l H2 => th σ H2 fun u H3 => r x l u H3 Q
theorem yD {r:V -> Option Int -> Option Int -> Hp -> VK -> Prop} (hr:C0 X r) (he:PE X e te) (hl:PO X lo tl) (hu:PO X hi th):PE X (.Subscript e (.Slice lo hi none p2) pos) (JT r te tl th):= by
 intro pins s σ H Q I h
 refine Subscript_ (cT (he pins s σ H _ I h) fun v s1 ⟨x,H1,I1,r1,q1⟩ => ?_)
 refine wpAny_Slice (cT (hl pins s1 σ H1 _ I1 q1) fun vl s2 ⟨l,H2,I2,pl,q2⟩ => cT (hu pins s2 σ H2 _ I2 q2) fun vu s3 ⟨u,H3,I3,pu,q3⟩ => ?_)
 rw [evalPart_none]
 refine wpAny_pure ?_
 have I4:Inv X pins σ H3 { s3 with heap:=s3.heap.push { cls:=.type "slice",data:=.fields #[vl,vu,.none] } }:=I3.kept (t':=s3.toks) fun b ob q => Heap.get?_push_of_some _ q
 obtain ⟨T,id,hT,ht,hg⟩:=hr pins { s3 with heap:=s3.heap.push { cls:=.type "slice",data:=.fields #[vl,vu,.none] } } σ H3 x v vl vu l u s3.heap.objs.size Q I4 r1 (Heap.IsSliceOf.new ..) pl pu q3
 show wpAny (model X.prog X.w) X.A (subscriptTail e (.Slice lo hi none p2) v (.ref s3.heap.objs.size)) (EP X pins σ Q) X.xe { s3 with heap:=s3.heap.push { cls:=.type "slice",data:=.fields #[vl,vu,.none] } }
 exact tail_any (ops:=[.ref s3.heap.objs.size,v]) ht hT hg (by with_unfolding_all rfl)
def pN (xs:List V) (lo hi:Option Int):List V:=(xs.drop (HT.sIx xs.length 0 lo)).take (HT.sIx xs.length xs.length hi - HT.sIx xs.length 0 lo)
theorem kF (xs:List V) (lo hi:Option Int):(pN xs lo hi).length ≤ xs.length:= by
 unfold pN
 rw [List.length_take,List.length_drop]
 omega
def IB (K:PySem.W.Frag):V -> Option Int -> Option Int -> Hp -> VK -> Prop:=fun x lo hi H Q => ∃ a xs,x = .ref a ∧ iP K H a xs ∧
 ¬ (HT.sIx xs.length 0 lo = 0 ∧ HT.sIx xs.length xs.length hi = xs.length) ∧ ∀ p,H p = none -> Q (.ref p) (upd H p (.tup (pN xs lo hi)))
theorem Ek:C0 X (IB X.K):= by
 intro pins s σ H x v vl vu lo hi sl Q I rx hs pl pu h
 obtain ⟨a,xs,rfl,hx,hw,q⟩:=h
 cases rx
 obtain ⟨its,r,ht,hz⟩:=I.tuple hx
 have hlen:its.toArray.size = xs.length:=by rw [List.size_toArray]; exact r.length.symm
 refine ⟨"tuple",_,PyProof.Rows.slot_tuple_getitem.lookup,ht.typeIs,?_⟩
 refine HT.getItem_tuple_cut ht hs pl pu (by rw [hlen]; exact hw) ?_ (by rw [hlen]; exact hz)
 rw [hlen]
 refine ⟨.ref s.heap.objs.size,_,I.laid (t':=s.toks) (o:=.tup (pN xs lo hi)) (fun b ob q => Heap.get?_push_of_some _ q) (Nat.le_refl _) ?_,rfl,q _ (I.hok.fresh (Nat.le_refl _))⟩
 exact ⟨Nat.le_trans (kF xs lo hi) hz,_,(r.drop (HT.sIx xs.length 0 lo)).take (HT.sIx xs.length xs.length hi - HT.sIx xs.length 0 lo),tP.new _ _⟩
def xf (K:PySem.W.Frag):R2:=fun x y H Q => ∃ a b xs ys,x = .ref a ∧ y = .ref b ∧ iP K H a xs ∧ iP K H b ys ∧ xs ≠ [] ∧ xs.length + ys.length ≤ sizeLine ∧
 (ys = [] -> Q (.ref a) H) ∧ (ys ≠ [] -> ∀ p,H p = none -> Q (.ref p) (upd H p (.tup (xs ++ ys))))
theorem Vals.nil_iff {xs:List V} {us:List Value} (r:Vals xs us):us = [] ↔ xs = []:= by
 cases r with
 | nil => simp
 | cons _ _ => simp
theorem Bo:gK X (binaryOp .Add) (xf X.K):= by
 intro pins s σ H x y v u Q I rx ry h
 obtain ⟨a,b,xs,ys,rfl,rfl,ha,hb,hx,hz,q1,q2⟩:=h
 cases rx
 cases ry
 obtain ⟨its,r1,p1,_⟩:=I.tuple ha
 obtain ⟨its2,r2,p2,_⟩:=I.tuple hb
 refine HT.cat_tup p1 p2 (fun z => hx (r1.nil_iff.mp z)) (fun z => ⟨.ref a,H,I,rfl,q1 (r2.nil_iff.mp z)⟩) (fun z => ?_) (by rw [<- r1.length,<- r2.length]; exact hz)
 refine ⟨.ref s.heap.objs.size,_,I.laid (t':=s.toks) (o:=.tup (xs ++ ys)) (fun b ob q => Heap.get?_push_of_some _ q) (Nat.le_refl _) ?_,rfl,q2 (fun w => z (r2.nil_iff.mpr w)) _ (I.hok.fresh (Nat.le_refl _))⟩
 exact ⟨by rw [List.length_append]; exact hz,_,r1.append r2,tP.new _ _⟩
end
end L2
namespace L2
open PySem PySem.Spec PyProof.Rows
def sY (n:Nat) (i:Int):Option Nat:=if 0 ≤ i then (if i < n then some i.toNat else none) else if -(n:Int) ≤ i then some (i + n).toNat else none
def ji {α:Type} (xs:List α) (i:Int):Option α:=(sY xs.length i).bind fun j => xs[j]?
theorem u9 {n:Nat} {i:Int} {j:Nat} (h:sY n i = some j):seqIndex? i n = some j ∧ j < n ∧ -(n:Int) ≤ i ∧ i < n:= by
 unfold sY at h
 by_cases h0:0 ≤ i
 ·rw [if_pos h0] at h
  by_cases h1:i < n
  ·rw [if_pos h1] at h
   have e:i.toNat = j:=Option.some.inj h
   exact ⟨by rw [seqIndex_of h0 h1,e],by omega,by omega,h1⟩
  ·rw [if_neg h1] at h; cases h
 ·rw [if_neg h0] at h
  by_cases h1:-(n:Int) ≤ i
  ·rw [if_pos h1] at h
   have e:(i + n).toNat = j:=Option.some.inj h
   exact ⟨by rw [seqIndex_neg (by omega) h1,e],by omega,h1,by omega⟩
  ·rw [if_neg h1] at h; cases h
theorem p6 {α:Type} {xs:List α} {i:Int} {v:α} (h:ji xs i = some v):∃ j,seqIndex? i xs.length = some j ∧ xs[j]? = some v ∧ j < xs.length ∧ -(xs.length:Int) ≤ i ∧ i < xs.length:= by
 unfold ji at h
 cases e:sY xs.length i with
 | none => rw [e] at h; cases h
 | some j =>
  rw [e] at h
  obtain ⟨h1,h2,h3,h4⟩:=u9 e
  exact ⟨j,h1,h,h2,h3,h4⟩
theorem er {α:Type} {xs:List α} {j:Nat} {v:α} (h:xs[j]? = some v):ji xs (j:Int) = some v:= by
 have hj:j < xs.length:=(List.getElem?_eq_some_iff.mp h).1
 have e:sY xs.length (j:Int) = some j:= by
  unfold sY
  rw [if_pos (by omega),if_pos (by omega)]; simp
 unfold ji; rw [e]; exact h
def lg (b:Expr):Prop:=∀ o i,subscripted b false o i = operate [o,i] (getItem o i)
def Aa (X:Cx) (r:R2):Prop :=
 ∀ (value slice:Expr) (pins:List (Addr × Obj)) (s:Shared) (σ:St) (H:Hp) (x y:V) (v u:Value) (Q:VK),Inv X pins σ H s -> RelV x v -> RelV y u -> r x y H Q ->
  subscripted slice false v u = operate [v,u] (getItem v u) -> wpAny (model X.prog X.w) X.A (subscriptTail value slice v u) (EP X pins σ Q) X.xe s
def JN (X:Cx) (id:String) (r:V -> List V -> Hp -> VK -> Prop):Prop :=
 ∀ (pins:List (Addr × Obj)) (s:Shared) (σ:St) (H:Hp) (x:V) (xs:List V) (v:Value) (us:List Value) (Q:VK),Inv X pins σ H s -> RelV x v -> Vals xs us -> r x xs H Q ->
  wpAny (model X.prog X.w) X.A (call (.builtin id) (v :: us)) (EP X pins σ Q) X.xe s
section
variable {X:Cx} {a b:Expr} {ta tb:TE} {pos:Pos}
theorem Aa.or {r r':R2} (h:Aa X r) (h':Aa X r'):Aa X (fun x y H Q => r x y H Q ∨ r' x y H Q):= by
 intro value slice pins s σ H x y v u Q I rx ry q hs
 rcases q with q | q
 ·exact h value slice pins s σ H x y v u Q I rx ry q hs
 ·exact h' value slice pins s σ H x y v u Q I rx ry q hs
theorem CM {r:R2} (hr:Aa X r) (ha:PE X a ta) (hb:PE X b tb) (hs:lg b):PE X (.Subscript a b pos) (CT r ta tb):= by
 intro pins s σ H Q I h
 exact Subscript_ (Ft ha hb I h fun v u s2 x y H2 I2 rx ry q => hr a b pins s2 σ H2 x y v u Q I2 rx ry q (hs _ _))
def HB (K:PySem.W.Frag):R2:=fun x y H Q => ∃ p xs i v,x = .ref p ∧ y = .int i ∧ ip K H p xs ∧ ji xs i = some v ∧ Q v H
def GY (K:PySem.W.Frag):R2:=fun x y H Q => ∃ p xs i v,x = .ref p ∧ y = .int i ∧ iP K H p xs ∧ ji xs i = some v ∧ Q v H
def HL:R2:=fun x y H Q => ∃ z i c,x = .str z ∧ y = .int i ∧ z.length ≤ sizeLine ∧ ji z.cps.toList i = some c ∧ Q (.str ⟨#[c]⟩) H
theorem uQ:Aa X (HB X.K):= by
 intro value slice pins s σ H x y v u Q I rx ry h hs
 obtain ⟨p,xs,i,z,rfl,rfl,hq,he,q⟩:=h
 cases rx
 obtain ⟨t,rfl⟩:=ry
 obtain ⟨its,r,pl,hz⟩:=I.list hq
 obtain ⟨j,h1,h2,h3,h4,h5⟩:=p6 he
 obtain ⟨w,ew,rw'⟩:=r.get h2
 have hl:=r.length
 have hn:=ki
 have fin:EP X pins σ Q w s:=⟨z,H,I,rw',q⟩
 by_cases h0:0 ≤ i
 ·have hj:i.toNat = j:= by
   rw [seqIndex_of h0 h5] at h1
   exact Option.some.inj h1
  exact item_listR pl.isList h0 (by omega) (by rw [hj]; simpa using ew) fin hs
 ·have hj:(i + (its.toArray.size:Int)).toNat = j:= by
   rw [seqIndex_neg (by omega) h4] at h1
   rw [List.size_toArray,<- hl]
   exact Option.some.inj h1
  exact subscriptTail_builtinR (x:=w) pl.isList.typeIs slot_list_getitem.lookup
   (wpAny_getItem_list_neg (Q:=fun r s' => r = w ∧ EP X pins σ Q r s') pl.isList (by omega) (by rw [List.size_toArray] <;> omega) (by omega) (by rw [hj]; simpa using ew) ⟨rfl,fin⟩) hs
theorem EJ:Aa X (GY X.K):= by
 intro value slice pins s σ H x y v u Q I rx ry h hs
 obtain ⟨p,xs,i,z,rfl,rfl,hq,he,q⟩:=h
 cases rx
 obtain ⟨t,rfl⟩:=ry
 obtain ⟨its,r,pl,hz⟩:=I.tuple hq
 obtain ⟨j,h1,h2,h3,h4,h5⟩:=p6 he
 obtain ⟨w,ew,rw'⟩:=r.get h2
 have hl:=r.length
 have hn:=ki
 have fin:EP X pins σ Q w s:=⟨z,H,I,rw',q⟩
 exact subscriptTail_builtinR (x:=w) pl.typeIs slot_tuple_getitem.lookup
  (getItem_tuple (j:=j) (Q:=fun r s' => r = w ∧ EP X pins σ Q r s') pl (by omega) (by omega) (by rw [List.size_toArray,<- hl]; exact h1) (by simpa using ew) ⟨rfl,fin⟩) hs
theorem Ez:Aa X HL:= by
 intro value slice pins s σ H x y v u Q I rx ry h hs
 obtain ⟨z,i,c,rfl,rfl,hz,he,q⟩:=h
 obtain ⟨t,rfl⟩:=rx
 obtain ⟨t',rfl⟩:=ry
 obtain ⟨j,h1,h2,h3,h4,h5⟩:=p6 he
 have hl:z.cps.toList.length = z.length:=by simp [Str.length]
 rw [hl] at h1 h4 h5
 have hn:=ki
 exact tail_any (typeIs_str s z t) slot_str_getitem.lookup (getItem_str (c:=c) (by
  have e1:decide (i < -(2 ^ 63:Int)) = false:=decide_eq_false (by omega)
  have e2:decide (i ≥ 2 ^ 63) = false:=decide_eq_false (by omega)
  rw [e1,e2,Bool.or_false]) (by rw [h1]; simpa using h2) ⟨.str ⟨#[c]⟩,H,I.tok _,⟨_,rfl⟩,q⟩) hs
def JE (K:PySem.W.Frag):R2:=fun x y H Q => HB K x y H Q ∨ GY K x y H Q ∨ HL x y H Q
theorem D0:Aa X (JE X.K):=uQ.or (EJ.or Ez)
theorem sD (its:List Value) (n j:Nat) (u:Value):Obj.mapSeq (·.setIfInBounds j u) { cls:=.type "list",data:=.seq its.toArray n } = { cls:=.type "list",data:=.seq (its.set j u).toArray n }:= by
 simp [Obj.mapSeq]
theorem Inv.lst {pins:List (Addr × Obj)} {σ:St} {H:Hp} {s:Shared} {p:Addr} {xs:List V} (I:Inv X pins σ H s) (h:H p = some (.lst xs)) :
  ∃ (its:List Value) (n:Nat),Vals xs its ∧ s.heap.get? p = some { cls:=.type "list",data:=.seq its.toArray n } ∧ xs.length ≤ sizeLine:= by
 obtain ⟨z,its,n,r,e⟩:=I.hok p _ h
 exact ⟨its,n,r,e,z⟩
theorem Inv.lstUpd {pins:List (Addr × Obj)} {σ:St} {H:Hp} {s:Shared} {p:Addr} {xs ys:List V} {its its':List Value} {n n':Nat} {f:Obj -> Obj} (I:Inv X pins σ H s) (h:H p = some (.lst xs))
  (ho:s.heap.get? p = some { cls:=.type "list",data:=.seq its.toArray n }) (hf:f { cls:=.type "list",data:=.seq its.toArray n } = { cls:=.type "list",data:=.seq its'.toArray n' }) (r:Vals ys its') (hz:ys.length ≤ sizeLine) (t:Nat) :
  Inv X pins σ (upd H p (.lst ys)) { s with heap:=s.heap.update p f,toks:=t }:= by
 have e:(s.heap.update p f).get? p = some { cls:=.type "list",data:=.seq its'.toArray n' }:= by
  rw [Heap.get?_update_self f ho (by rw [hf] <;> rfl),hf]
 refine I.write (x:=p) (e:=p) (by rw [h]; trivial) (.inl rfl) (fun b u hb q => (Heap.get?_update_other _ _ (Ne.symm hb)).trans q) ⟨_,e⟩ ?_
 exact ⟨hz,its',n',r,e⟩
def Hr:V -> V -> V -> Hp -> (Hp -> Prop) -> Prop:=fun o i v H Q => ∃ p xs k j,o = .ref p ∧ i = .int k ∧ H p = some (.lst xs) ∧ sY xs.length k = some j ∧ Q (upd H p (.lst (xs.set j v)))
theorem set_list:GH X Hr:= by
 intro pins s σ H o i v ov iv u Q I ro ri rv h
 obtain ⟨p,xs,k,j,rfl,rfl,hp,hj,q⟩:=h
 cases ro
 obtain ⟨t,rfl⟩:=ri
 obtain ⟨its,n,r,ho,hz⟩:=I.lst hp
 obtain ⟨h1,h2,h3,h4⟩:=u9 hj
 have hl:=r.length
 have hn:=ki
 have I':Inv X pins σ (upd H p (.lst (xs.set j v))) { s with heap:=s.heap.update p (Obj.mapSeq (·.setIfInBounds j u)) } :=
  I.lstUpd hp ho (sD its n j u) (r.set rv j) (by rw [List.length_set]; exact hz) s.toks
 by_cases h0:0 ≤ k
 ·have hk:k.toNat = j:= by
   rw [seqIndex_of h0 h4] at h1
   exact Option.some.inj h1
  exact PySem.W.ki_setAt ho h0 (by omega) (by rw [List.size_toArray,<- hl]; exact h4) (by rw [hk]; exact ⟨_,I',q⟩)
 ·have hk:(k + (its.toArray.size:Int)).toNat = j:= by
   rw [seqIndex_neg (by omega) h3] at h1
   rw [List.size_toArray,<- hl]
   exact Option.some.inj h1
  exact PySem.W.ki_setBack ho (by omega) (by rw [List.size_toArray,<- hl]; exact h3) (by omega) (by rw [hk]; exact ⟨_,I',q⟩)
theorem pW (lo hi:Option Int) (n:Nat):(sliceBounds lo hi none n).1 = ((HT.sIx n 0 lo:Nat):Int) ∧ (sliceBounds lo hi none n).2.1 = ((HT.sIx n n hi:Nat):Int) ∧ (sliceBounds lo hi none n).2.2 = 1:= by
 refine ⟨?_,?_,rfl⟩
 ·cases lo with
  | none => simp [sliceBounds,HT.sIx]
  | some i =>
   simp only [sliceBounds,HT.sIx,Option.getD_none,show (1:Int) > 0 by decide,if_true]
   by_cases h:i < 0
   ·simp only [h,if_true] <;> omega
   ·simp only [h,if_false] <;> omega
 ·cases hi with
  | none => simp [sliceBounds,HT.sIx]
  | some i =>
   simp only [sliceBounds,HT.sIx,Option.getD_none,show (1:Int) > 0 by decide,if_true]
   by_cases h:i < 0
   ·simp only [h,if_true] <;> omega
   ·simp only [h,if_false] <;> omega
theorem nt (its:List Value) (lo hi:Option Int):slicePick its.toArray lo hi none = ((its.drop (HT.sIx its.length 0 lo)).take (HT.sIx its.length its.length hi - HT.sIx its.length 0 lo)).toArray:= by
 obtain ⟨h1,h2,h3⟩:=pW lo hi its.toArray.size
 unfold slicePick
 rw [h1,h2,h3]
 simp only [sliceRange_one,pick_run,List.size_toArray] <;> rfl
def Je (K:PySem.W.Frag):V -> Option Int -> Option Int -> Hp -> VK -> Prop:=fun x lo hi H Q => ∃ a xs,x = .ref a ∧ ip K H a xs ∧ ∀ p,H p = none -> Q (.ref p) (upd H p (.lst (pN xs lo hi)))
theorem CF:C0 X (Je X.K):= by
 intro pins s σ H x v vl vu lo hi sl Q I rx hs pl pu h
 obtain ⟨a,xs,rfl,hx,q⟩:=h
 cases rx
 obtain ⟨its,r,ht,hz⟩:=I.list hx
 have hlen:=r.length
 refine ⟨"list",_,slot_list_getitem.lookup,ht.isList.typeIs,?_⟩
 refine wpAny_getItem_list_slice ht.isList hs pl pu .none (by simp) ?_ (by rw [List.size_toArray] <;> omega)
 rw [nt,<- hlen]
 refine ⟨.ref s.heap.objs.size,_,I.laid (t':=s.toks) (o:=.lst (pN xs lo hi)) (fun b ob q => Heap.get?_push_of_some _ q) (Nat.le_refl _) ?_,rfl,q _ (I.hok.fresh (Nat.le_refl _))⟩
 exact ⟨Nat.le_trans (kF xs lo hi) hz,_,0,(r.drop (HT.sIx xs.length 0 lo)).take (HT.sIx xs.length xs.length hi - HT.sIx xs.length 0 lo),Heap.get?_push_size _ rfl⟩
def il:V -> Bool
 | .non => true
 | .bl _ => true
 | .int _ => true
 | .str _ => true
 | _ => false
def wj:V -> V -> Bool
 | .non,.non => true
 | .bl a,.bl b => a == b
 | .bl a,.int b => (if a then 1 else 0) == b
 | .int a,.bl b => a == (if b then 1 else 0)
 | .int a,.int b => a == b
 | .str a,.str b => a == b
 | _,_ => false
theorem yM {A:Around} {s:Shared} {y x:V} {u v:Value} (ry:RelV y u) (rx:RelV x v) (fy:il y = true) (fx:il x = true):SeqAt.EqAt A s u v (wj y x):= by
 cases y with
 | non =>
  cases ry
  cases x with
  | non => cases rx; exact SeqAt.EqAt.same _
  | bl b => cases rx; exact SeqAt.EqAt.none_bool b
  | int b => obtain ⟨t,rfl⟩:=rx; exact SeqAt.EqAt.none_int b t
  | str b => obtain ⟨t,rfl⟩:=rx; exact SeqAt.EqAt.none_str b t
  | _ => exact absurd (show false = true from fx) Bool.false_ne_true
 | bl a =>
  cases ry
  cases x with
  | non => cases rx; exact SeqAt.EqAt.bool_none a
  | bl b => cases rx; exact SeqAt.EqAt.bool_bool a b
  | int b => obtain ⟨t,rfl⟩:=rx; exact SeqAt.EqAt.bool_int a b t
  | str b => obtain ⟨t,rfl⟩:=rx; exact SeqAt.EqAt.bool_str a b t
  | _ => exact absurd (show false = true from fx) Bool.false_ne_true
 | int a =>
  obtain ⟨t',rfl⟩:=ry
  cases x with
  | non => cases rx; exact SeqAt.EqAt.int_none a t'
  | bl b => cases rx; exact SeqAt.EqAt.int_bool a t' b
  | int b => obtain ⟨t,rfl⟩:=rx; exact SeqAt.EqAt.int_int a t' b t
  | str b => obtain ⟨t,rfl⟩:=rx; exact SeqAt.EqAt.int_str a t' b t
  | _ => exact absurd (show false = true from fx) Bool.false_ne_true
 | str a =>
  obtain ⟨t',rfl⟩:=ry
  cases x with
  | non => cases rx; exact SeqAt.EqAt.str_none a t'
  | bl b => cases rx; exact SeqAt.EqAt.str_bool a t' b
  | int b => obtain ⟨t,rfl⟩:=rx; exact SeqAt.EqAt.str_int a t' b t
  | str b => obtain ⟨t,rfl⟩:=rx; exact SeqAt.EqAt.str_str a t' b t
  | _ => exact absurd (show false = true from fx) Bool.false_ne_true
 | _ => exact absurd (show false = true from fy) Bool.false_ne_true
def sA (x:V) (u:Value):Bool:=match u with
 | .none => wj .non x
 | .bool b => wj (.bl b) x
 | .int i _ => wj (.int i) x
 | .str z _ => wj (.str z) x
 | _ => false
theorem yr {x y:V} {u:Value} (r:RelV y u) (f:il y = true):sA x u = wj y x:= by
 cases y with
 | non => cases r; rfl
 | bl b => cases r; rfl
 | int i => obtain ⟨t,rfl⟩:=r; rfl
 | str z => obtain ⟨t,rfl⟩:=r; rfl
 | _ => exact absurd (show false = true from f) Bool.false_ne_true
theorem jn {x:V}:∀ {xs:List V} {us:List Value},Vals xs us -> xs.all il = true -> us.any (sA x) = xs.any fun y => wj y x
 | _,_,.nil,_ => rfl
 | y :: xs,u :: us,.cons r t,f => by
  rw [List.all_cons,Bool.and_eq_true] at f
  rw [List.any_cons,List.any_cons,yr r f.1,jn t f.2]
theorem iB {A:Around} {s:Shared} {x:V} {v:Value} (rx:RelV x v) (fx:il x = true):∀ {xs:List V} {us:List Value},Vals xs us -> xs.all il = true -> ∀ u ∈ us,SeqAt.EqAt A s u v (sA x u)
 | _,_,.nil,_ => fun u hu => by cases hu
 | y :: xs,u :: us,.cons r t,f => fun u' hu => by
  rw [List.all_cons,Bool.and_eq_true] at f
  rcases List.mem_cons.mp hu with rfl | hu
  ·rw [yr r f.1]; exact yM r rx f.1 fx
  ·exact iB rx fx t f.2 u' hu
def FY (x:V) (xs:List V):Bool:=xs.any fun y => wj y x
def HY (K:PySem.W.Frag) (neg:Bool):R2:=fun x y H Q => ∃ p xs,y = .ref p ∧ (ip K H p xs ∨ iP K H p xs) ∧ il x = true ∧ xs.all il = true ∧ Q (.bl (if neg then !FY x xs else FY x xs)) H
theorem oa:gK X (compareOp .In) (HY X.K false):= by
 intro pins s σ H x y v u Q I rx ry h
 obtain ⟨p,xs,rfl,hq,fx,fs,q⟩:=h
 cases ry
 rcases hq with hq | hq
 ·obtain ⟨its,r,pl,hz⟩:=I.list hq
  refine SeqAt.in_listAt (sA x) pl.isList (fun w hw => iB rx fx r fs w (by simpa using hw)) ⟨.bl _,H,I,rfl,?_⟩
  rw [show its.toArray.any (sA x) = its.any (sA x) by simp,jn r fs]
  exact q
 ·obtain ⟨its,r,pl,hz⟩:=I.tuple hq
  refine SeqAt.in_tupleAt (sA x) pl (fun w hw => iB rx fx r fs w (by simpa using hw)) ⟨.bl _,H,I,rfl,?_⟩
  rw [show its.toArray.any (sA x) = its.any (sA x) by simp,jn r fs]
  exact q
theorem gg:gK X (compareOp .NotIn) (HY X.K true):= by
 intro pins s σ H x y v u Q I rx ry h
 obtain ⟨p,xs,rfl,hq,fx,fs,q⟩:=h
 cases ry
 rcases hq with hq | hq
 ·obtain ⟨its,r,pl,hz⟩:=I.list hq
  refine SeqAt.notIn_listAt (sA x) pl.isList (fun w hw => iB rx fx r fs w (by simpa using hw)) ⟨.bl _,H,I,rfl,?_⟩
  rw [show its.toArray.any (sA x) = its.any (sA x) by simp,jn r fs]
  exact q
 ·obtain ⟨its,r,pl,hz⟩:=I.tuple hq
  refine SeqAt.notIn_tupleAt (sA x) pl (fun w hw => iB rx fx r fs w (by simpa using hw)) ⟨.bl _,H,I,rfl,?_⟩
  rw [show its.toArray.any (sA x) = its.any (sA x) by simp,jn r fs]
  exact q
theorem jB:dE X (.builtin "len") (fun xs H Q => ∃ p ys,xs = [.ref p] ∧ (ip X.K H p ys ∨ iP X.K H p ys) ∧ Q (.int ys.length) H):= by
 intro pins s σ H xs us Q I r h
 obtain ⟨p,ys,rfl,hq,q⟩:=h
 obtain ⟨u,rfl,rx⟩:=vals1 r
 cases rx
 have hn:=ki
 rcases hq with hq | hq
 ·obtain ⟨its,r',pl,hz⟩:=I.list hq
  have hlen:=r'.length
  exact Calls.call_len_list pl.isList (by simp only [List.size_toArray] <;> omega) ⟨.int ys.length,H,I.tok _,⟨s.toks + 1,by rw [List.size_toArray,hlen]⟩,q⟩
 ·obtain ⟨its,r',pl,hz⟩:=I.tuple hq
  have hlen:=r'.length
  exact len_tuple pl (by simp only [List.size_toArray] <;> omega) ⟨.int ys.length,H,I.tok _,⟨s.toks + 1,by rw [List.size_toArray,hlen]⟩,q⟩
theorem qd:dE X (.type "list") (fun xs H Q => ∃ p ys,xs = [.ref p] ∧ (ip X.K H p ys ∨ iP X.K H p ys) ∧ ∀ l,H l = none -> Q (.ref l) (upd H l (.lst ys))):= by
 intro pins s σ H xs us Q I r h
 obtain ⟨p,ys,rfl,hq,q⟩:=h
 obtain ⟨u,rfl,rx⟩:=vals1 r
 cases rx
 have fin:∀ (its:List Value),Vals ys its -> ys.length ≤ sizeLine -> ∀ (h':Heap) (c':Nat),(∀ b o',s.heap.get? b = some o' -> h'.get? b = some o') ->
   h'.get? s.heap.objs.size = some { cls:=.type "list",dict:=none,data:=.seq its.toArray c',slots:=#[] } -> EP X pins σ Q (.ref s.heap.objs.size) { s with heap:=h' }:=fun its r' hz h' c' kp e =>
  ⟨.ref s.heap.objs.size,_,I.laid (t':=s.toks) kp (Nat.le_refl _) (show dM X.prog X.w _ h' _ (.lst ys) from ⟨hz,its,c',r',e⟩),rfl,q _ (I.hok.fresh (Nat.le_refl _))⟩
 rcases hq with hq | hq
 ·obtain ⟨its,r',pl,hz⟩:=I.list hq
  have hlen:=r'.length
  obtain ⟨o,ho,hc,n,hd⟩:=pl.isList
  exact call_list_seq p (.inl rfl) ho hc hd (fun h' c' kp e => fin its r' hz h' c' kp e) (by simp only [List.size_toArray] <;> omega)
 ·obtain ⟨its,r',pl,hz⟩:=I.tuple hq
  have hlen:=r'.length
  obtain ⟨o,ho,hc,n,hd⟩:=pl
  exact call_list_seq p (.inr rfl) ho hc hd (fun h' c' kp e => fin its r' hz h' c' kp e) (by simp only [List.size_toArray] <;> omega)
theorem i6:dE X (.type "tuple") (fun xs H Q => ∃ p ys,xs = [.ref p] ∧ ((ip X.K H p ys ∧ ∀ l,H l = none -> Q (.ref l) (upd H l (.tup ys))) ∨ (iP X.K H p ys ∧ Q (.ref p) H))):= by
 intro pins s σ H xs us Q I r h
 obtain ⟨p,ys,rfl,h⟩:=h
 obtain ⟨u,rfl,rx⟩:=vals1 r
 cases rx
 rcases h with ⟨hq,q⟩ | ⟨hq,q⟩
 ·obtain ⟨its,r',pl,hz⟩:=I.list hq
  have hlen:=r'.length
  refine call_tuple_list pl.isList (fun h' kp => ?_) (by simp only [List.size_toArray] <;> omega)
  have I1:Inv X pins σ H { s with heap:=h' }:=I.kept (t':=s.toks) kp
  have I2:Inv X pins σ (upd H h'.objs.size (.tup ys)) { s with heap:=h'.push { cls:=.type "tuple",data:=.seq its.toArray } } :=
   I1.laid (t':=s.toks) (fun b o e => Heap.get?_push_of_some _ e) (Nat.le_refl _) (show dM X.prog X.w _ _ _ (.tup ys) from ⟨hz,its,r',tP.new _ _⟩)
  exact ⟨.ref h'.objs.size,_,I2,rfl,q _ (I1.hok.fresh (Nat.le_refl _))⟩
 ·obtain ⟨its,r',pl,hz⟩:=I.tuple hq
  exact call_tuple_same pl ⟨.ref p,H,I,rfl,q⟩
def JK (K:PySem.W.Frag) (T:String) (x:V) (H:Hp):Prop:=match x with
 | .str _ => T = "str"
 | .int _ => T = "int"
 | .ref p => (T = "list" ∧ ∃ xs,ip K H p xs) ∨ (T = "tuple" ∧ ∃ o,K.lookup p = some o ∧ o.cls = .type "tuple" ∧ o.dict = none) ∨
   (T = "dict" ∧ ((∃ kvs,H p = some (.dK kvs)) ∨ ∃ kvs,H p = some (.dT kvs))) ∨ (T = "set" ∧ ∃ S n,H p = some (.set S n))
 | _ => False
theorem DP {pins:List (Addr × Obj)} {σ:St} {H:Hp} {s:Shared} {T:String} {x:V} {v:Value} (I:Inv X pins σ H s) (r:RelV x v) (ty:JK X.K T x H) :
  s.TypeIs v T ∧ ∀ a,v = .ref a -> ∃ ob,s.heap.get? a = some ob ∧ ob.dict = none:= by
 cases x with
 | str z =>
  obtain ⟨t,rfl⟩:=r
  cases (show T = "str" from ty)
  exact ⟨typeIs_str s z t,fun _ e => nomatch e⟩
 | int i =>
  obtain ⟨t,rfl⟩:=r
  cases (show T = "int" from ty)
  exact ⟨typeIs_int s i t,fun _ e => nomatch e⟩
 | ref p =>
  cases r
  rcases ty with ⟨rfl,xs,hq⟩ | ⟨rfl,o,hk,hc,hd⟩ | ⟨rfl,hk⟩ | ⟨rfl,S,n,hk⟩
  ·obtain ⟨its,_,pl,_⟩:=I.list hq
   refine ⟨pl.isList.typeIs,fun a e => ?_⟩
   cases e
   obtain ⟨o,n,e,c,hd,_⟩:=pl
   exact ⟨o,e,hd⟩
  ·refine ⟨⟨o,I.kIn p o hk,hc⟩,fun a e => ?_⟩
   cases e
   exact ⟨o,I.kIn _ o hk,hd⟩
  ·have z:∃ o,s.heap.get? p = some o ∧ o.ExactDict:= by
    rcases hk with ⟨kvs,hk⟩ | ⟨kvs,hk⟩
    ·obtain ⟨_,_,_,_,o,_,_,e,ex,_⟩:=I.hok p _ hk
     exact ⟨o,e,ex⟩
    ·obtain ⟨_,_,_,_,o,_,_,e,ex,_⟩:=I.hok p _ hk
     exact ⟨o,e,ex⟩
   obtain ⟨o,e,ex⟩:=z
   refine ⟨⟨o,e,ex.1⟩,fun a e2 => ?_⟩
   cases e2
   exact ⟨o,e,ex.2.1⟩
  ·obtain ⟨o,_,_,_,e,ex,_⟩:=I.hok p _ hk
   refine ⟨⟨o,e,ex.1⟩,fun a e2 => ?_⟩
   cases e2
   exact ⟨o,e,ex.2.1⟩
 | _ => exact False.elim ty
def JY (K:PySem.W.Frag) (T:String) (r:V -> List V -> Hp -> VK -> Prop) (to:TE) (t:TA):TE:=fun σ H Q => to σ H fun x H1 => JK K T x H1 ∧ t σ H1 fun xs H2 => r x xs H2 Q
variable {o e:Expr} {es:List Expr} {to:TE} {t:TA} {name:Str} {apos cpos:Pos} {T id:String} {r:V -> List V -> Hp -> VK -> Prop}
theorem Dc (pa:PlainAttrs T) (slot:Slot T name id) (hty:typeOf (.builtin id) = pure (.type "method_descriptor")) (hm:JN X id r) (ho:PE X o to) (ha:PA X (e :: es) t)
  (hbase:attributeBase o name X.env (eval o X.env) = eval o X.env:=by rfl)
  (hfew:((backTo cpos (starEach (e :: es) X.env)).all (fun x => !x.1) && (backToKw cpos (keywordEach [] X.env)).all (fun x => x.1.isSome)
   && decide ((e :: es).length + ([]:List Keyword).length + (if ([]:List Keyword).isEmpty then 0 else 1) < 30)) = true:=by rfl)
  (hline:(apos.endLine == cpos.line) = true:=by rfl) (hs:starEach (e :: es) X.env = (false,eval e X.env) :: starEach es X.env:=by rfl) (hplain:(backTo cpos (starEach es X.env)).any (·.1) = false:=by rfl) :
  PE X (.Call (.Attribute o name apos) (e :: es) [] cpos) (JY X.K T r to t):= by
 intro pins s σ H Q I h
 refine wpAny_Call_method_late hbase hfew hline rfl (cT (ho pins s σ H _ I h) fun v s1 ⟨x,H1,I1,r1,ty,q1⟩ => ?_)
 obtain ⟨h1,h2⟩:=DP I1 r1 ty
 refine ⟨T,id,pa,slot,hty,h1,h2,?_⟩
 have hA:=ha cpos pins s1 σ H1 _ I1 q1
 rw [hs] at hA ⊢
 refine Calls.callWith_builtin (by show (false || (backTo cpos (starEach es X.env)).any (·.1)) = false; rw [hplain] <;> rfl) (Calls.evalArgs_plain ?_)
 exact cT hA fun us s2 ⟨vs,H2,I2,r2,q2⟩ => hm pins s2 σ H2 x vs v us Q I2 r1 r2 q2
end
end L2
namespace L2
open PySem PySem.Spec PyProof.Rows
def Iu (X:Cx) (id:String) (r:V -> List V -> Hp -> VK -> Prop):Prop :=
 ∀ (pins:List (Addr × Obj)) (s:Shared) (σ:St) (H:Hp) (x:V) (xs:List V) (v:Value) (us:List Value) (Q:VK),Inv X pins σ H s -> RelV x v -> Vals xs us -> r x xs H Q ->
  wpAny (model X.prog X.w) X.A (call (.builtin id) (v :: us)) (EP X pins σ Q) X.xe s
theorem Vals.one:∀ {x:V} {us:List Value},Vals [x] us -> ∃ u,us = [u] ∧ RelV x u
 | _,_,.cons r .nil => ⟨_,rfl,r⟩
theorem Vals.two:∀ {x y:V} {us:List Value},Vals [x,y] us -> ∃ u v,us = [u,v] ∧ RelV x u ∧ RelV y v
 | _,_,_,.cons r (.cons q .nil) => ⟨_,_,rfl,r,q⟩
theorem Vals.eraseIdx:∀ {xs:List V} {us:List Value} (i:Nat),Vals xs us -> Vals (xs.eraseIdx i) (us.eraseIdx i)
 | _,_,_,.nil => .nil
 | _,_,0,.cons _ t => t
 | _,_,i + 1,.cons r t => .cons r (Vals.eraseIdx i t)
theorem og {α:Type}:∀ (l:List α) (i:Nat),(l.eraseIdx i).length ≤ l.length
 | [],_ => Nat.le_refl _
 | _ :: _,0 => Nat.le_succ _
 | _ :: r,i + 1 => Nat.succ_le_succ (og r i)
section
variable {X:Cx} {pins:List (Addr × Obj)} {σ:St} {H:Hp} {s:Shared} {l b:Addr} {xs ys zs:List V}
theorem Inv.lset {its its':List Value} {n:Nat} {f:Array Value -> Array Value} {t':Nat} (I:Inv X pins σ H s) (hH:H l = some (.lst xs))
  (e:s.heap.get? l = some { cls:=.type "list",data:=.seq its.toArray n }) (hf:f its.toArray = its'.toArray) (hv:Vals ys its') (hz:ys.length ≤ sizeLine) :
  Inv X pins σ (upd H l (.lst ys)) { s with heap:=s.heap.update l (Obj.mapSeq f),toks:=t' }:= by
 have q:=PySem.IsL.update e f
 rw [hf] at q
 refine I.write (x:=l) (e:=l) (by rw [hH]; exact trivial) (.inl rfl) (fun b' u hb hu => (Heap.get?_update_other s.heap (Obj.mapSeq f) (Ne.symm hb)).trans hu) ⟨_,q⟩ ?_
 exact ⟨hz,its',_,hv,q⟩
theorem Inv.lnew {its:List Value} {t':Nat} (I:Inv X pins σ H s) (hv:Vals ys its) (hz:ys.length ≤ sizeLine) :
  Inv X pins σ (upd H s.heap.objs.size (.lst ys)) { s with heap:=s.heap.push { cls:=.type "list",data:=.seq its.toArray },toks:=t' } :=
 I.laid (fun _ _ q => Heap.get?_push_of_some _ q) (Nat.le_refl _) ⟨hz,its,0,hv,Heap.get?_push_size _ rfl⟩
theorem Inv.fresh (I:Inv X pins σ H s):H s.heap.objs.size = none:=I.hok.fresh (Nat.le_refl _)
theorem Inv.lstM (I:Inv X pins σ H s) (hH:H l = some (.lst xs)):xs.length ≤ sizeLine ∧ ∃ (its:List Value) (n:Nat),Vals xs its ∧ xs.length = its.length ∧ s.heap.get? l = some { cls:=.type "list",data:=.seq its.toArray n }:= by
 obtain ⟨z,its,n,r,e⟩:=I.hok l _ hH
 exact ⟨z,its,n,r,r.length,e⟩
end
section
variable {X:Cx}
def Cq:V -> List V -> Hp -> VK -> Prop:=fun x vs H Q => ∃ l xs y,x = .ref l ∧ vs = [y] ∧ H l = some (.lst xs) ∧ xs.length < sizeLine ∧ Q .non (upd H l (.lst (xs ++ [y])))
theorem ox:Iu X "list.append" Cq:= by
 intro pins s σ H x vs v us Q I rx rv h
 obtain ⟨l,xs,y,rfl,rfl,hH,hz,q⟩:=h
 cases rx
 obtain ⟨u,rfl,ru⟩:=rv.one
 obtain ⟨z,its,n,r,hl,e⟩:=I.lstM hH
 refine call_meets F.slot_list_append ⟨_,e,rfl⟩ F.entry_list_append (F.args_list_append_2 _ _) (PySem.list_append l its.toArray n u (by rw [List.size_toArray]; omega)) ⟨e,?_⟩
 refine ⟨.non,_,I.lset (its':=its ++ [u]) hH e (by simp) (r.append (.cons ru .nil)) ?_,rfl,q⟩
 rw [List.length_append,List.length_singleton]
 omega
def DR:V -> List V -> Hp -> VK -> Prop:=fun x vs H Q => ∃ l xs i k y,x = .ref l ∧ vs = [.int i] ∧ H l = some (.lst xs) ∧ -(2 ^ 63) ≤ i ∧ i < 2 ^ 63 ∧ seqIndex? i xs.length = some k ∧ xs[k]? = some y ∧ Q y (upd H l (.lst (xs.eraseIdx k)))
theorem y9:Iu X "list.pop" DR:= by
 intro pins s σ H x vs v us Q I rx rv h
 obtain ⟨l,xs,i,k,y,rfl,rfl,hH,h1,h2,hk,hy,q⟩:=h
 cases rx
 obtain ⟨u,rfl,ru⟩:=rv.one
 obtain ⟨t,rfl⟩:=ru
 obtain ⟨z,its,n,r,hl,e⟩:=I.lstM hH
 obtain ⟨w,hw,rw'⟩:=r.get hy
 refine call_meets F.slot_list_pop ⟨_,e,rfl⟩ F.entry_list_pop (F.args_list_pop_2 _ _)
  (MeetsSeq.list_pop_at l its.toArray n i t k w (fitsIndex_both h1 h2) (by rw [List.size_toArray,<- hl]; exact hk) (by rw [<- Array.getElem?_toList]; exact hw) (by rw [List.size_toArray]; omega)) ⟨e,?_⟩
 refine ⟨y,_,I.lset (its':=its.eraseIdx k) hH e ?_ (r.eraseIdx k) ?_,rw',q⟩
 ·show its.toArray.eraseIdxIfInBounds k = (its.eraseIdx k).toArray
  rw [List.eraseIdxIfInBounds_toArray]
 ·have:=og xs k
  omega
end
section
variable {prog:Program} {w:World} {A:Around} {E:Value -> Shared -> Prop} {s:Shared}
set_option maxRecDepth 100000 in
end
section
variable {X:Cx}
end
end L2
namespace Att
open PySem PySem.W PySem.Calls PyProof.Rows
theorem kU {P:Params} {h:Heap}:∀ (ns:List Int) (vs:List Value),WellAll P h vs (ns.map WData.int) -> IntsAre vs ns:= by
 intro ns
 induction ns with
 | nil =>
  intro vs w
  rw [List.map_nil] at w
  cases w
  exact .nil
 | cons n ns ih =>
  intro vs w
  rw [List.map_cons] at w
  cases w with
  | cons a b =>
   cases a
   exact .cons _ _ (ih _ b)
theorem script_of {l:OpenLaw} {n:Nat} (hn:l.most = some n) {P:Params} {h:Heap} {args:List WData} {vals:List Value}
  (hpre:l.row.toRowW.claim.pre args = true) (hwl:WellAll P h vals args) :
  ∃ a vs ns,vals = [Value.ref a] ∧ args = [WData.list (ns.map WData.int)] ∧ h.get? a = some { cls:=.type "list",data:=.seq vs.toArray } ∧ IntsAre vs ns ∧ ns.length ≤ n:= by
 have hsh:WShape.hasAll [] args [.list .int] = true:=(pre_splitW hpre).1
 have hc:l.pre.holds [] { args:=args } = true:=(pre_splitW hpre).2
 obtain ⟨d,r,rfl,h1,h2⟩:=hasAllW_cons hsh
 obtain rfl:=hasAllW_nil h2
 obtain ⟨xs,rfl,h3⟩:=hasW_list h1
 obtain ⟨ns,rfl⟩:=items_int h3
 have hlen:ns.length ≤ n:= by
  unfold OpenLaw.pre at hc
  have h4:(WTm.not (.lt (.lit (.int (n:Int))) (.len (.arg 0)))).holds [] { args:=[.list (ns.map .int)] } = true:= by
   have h4:=(holds_andW hc).1
   rw [hn] at h4
   exact h4
  have h5:=condW_of h4 (w_not (w_lt w_lit (w_len_list (w_arg rfl))))
  rw [List.length_map] at h5
  refine Nat.le_of_not_lt fun q => ?_
  have q':(n:Int) < ((ns.length:Nat):Int):=by omega
  first
   | (rw [decide_eq_true q'] at h5; exact absurd h5 (by decide))
   | (simp at h5; omega)
 cases hwl with
 | cons w1 w2 =>
  cases w2
  cases w1 with
  | list ho hall => exact ⟨_,_,ns,rfl,rfl,ho,kU ns _ hall,hlen⟩
theorem post_true (l:OpenLaw) (args:List WData):l.row.toRowW.claim.post args (.bool true) args = true :=
 postW_of (r:=l.row.toRowW) (X:=(true == true))
  (show WShape.has [] (.bool true) .bool = true by first | rfl | decide | simp [WShape.has,WShape.arms,WShape.armsAll])
  (show (WTm.eq .res (.lit (.bool true))).value [] { args:=args,res:=some (.bool true),after:=args } = some (.bool (true == true)) from w_eq_bool (w_res rfl) w_lit) rfl
theorem attach_call {l:OpenLaw} {n:Nat} {q:Program} {loose:List Str} {XP:(Str -> Option Value) -> Heap -> Prop} {YP:World -> Heap -> Prop} {d:DefRec}
  (hn:l.most = some n) (hdf:d.params.defaults = [])
  (call:∀ (w:World) (s₀ s₁:Shared) (mg mb:Str -> Option Value) (fa:Addr) (o:Obj) (pm cd doc:Value) (a:Addr) (vs:List Value) (ns:List Int),
   Ground q loose [] XP w s₀ mg mb s₁.heap -> YP w s₁.heap ->
   s₁.heap.get? fa = some o -> o.data = .func (docDef d.name d.params d.body d.scope pm cd doc) -> s₁.heap.CodeRec cd d.name -> mg d.name = some (.ref fa) ->
   s₁.heap.get? a = some { cls:=.type "list",data:=.seq vs.toArray } -> IntsAre vs ns -> ns.length ≤ n -> s₁.gens = #[] ->
   codeAny (model l.prog w) callerA (.call (.ref fa) ⟨[.ref a],[]⟩) (fun r s' => r = .ok (.ret (.bool true)) ∧ OldK s₁.heap s'.heap ∧ s'.os = s₁.os ∧ AllBare s'.gens) s₁) :
  WalkO q loose XP YP l.row.toRowW d [] (fun f vs => PySem.call f vs):= by
 intro w s₀ s₁ mg mb G Y fa o pm cd doc dV kV ho hd hcd hD hmg hg args vals as hpre hlay hrd hwl hlo
 obtain rfl:dV = .none:=Dflts.none hD hdf
 obtain rfl:kV = .none:=Dflts.noKw hD
 obtain ⟨a,vs,ns,rfl,rfl,hobj,hints,hlen⟩:=script_of hn hpre hwl
 refine enter_call (codeAny_mono (call w s₀ s₁ mg mb fa o pm cd doc a vs ns G Y ho (fd_plain hd) hcd hmg hobj hints hlen hg) fun r s' hq => ?_)
 obtain ⟨rfl,h2,h3,h4⟩:=hq
 exact ⟨.inl ⟨.bool true,.bool true,[],rfl,fun _ => rfl,.bool true,post_true l _,fun _ => ⟨List.Pairwise.nil,fun _ hm => (nomatch hm)⟩⟩,h2,h3,h4⟩
section
variable {prog:Program} {w:World} {A:Around} {E:Value -> Shared -> Prop} {s:Shared} {K:Frag}
end
end Att
namespace L2
open PySem PySem.Spec PyProof.Rows
theorem iK:∀ {vs:List Value} {ns:List Int},IntsAre vs ns -> Vals (ns.map V.int) vs
 | _,_,.nil => .nil
 | _,_,.cons n t h => .cons ⟨t,rfl⟩ (iK h)
def EO (H:Hp):Prop:=∀ b,H b = none ∨ ∃ o xs,H b = some (.frz o (.lst xs))
theorem rh {P:Program} {w:World} {K:PySem.W.Frag} {mg mb:Str -> Option Value} {CX:r0} {k:Nat} {fa a:Addr} {fd:FuncData} {x:Str} {sp:Sp} {s₁:Shared} {vs:List Value} {ns:List Int}
  (KX:K.In s₁.heap) (hns:s₁.heap.Ns mainGlobals mg) (hb:s₁.heap.Ns builtinsNs mb) (hbb:∀ x:Str,x ≠ "__name__" -> mb x = bootBuiltins x) (hlim:s₁.heap.NoLimit) (hg:s₁.gens = #[])
  (ha:s₁.heap.get? a = some { cls:=.type "list",data:=.seq vs.toArray }) (hi:IntsAre vs ns) (hl:ns.length ≤ sizeLine) (hr:cX k callerA)
  (F:∀ base:Heap,K.In base -> base.Ns mainGlobals mg -> dW P w K mg base CX k fa fd [x] sp) (hbind:∀ (s:Shared) (u:Value),BindsTo s fd ⟨[u],[]⟩ [(x,u)])
  (hsp:∀ H:Hp,EO H -> ip K H a (ns.map V.int) -> sp [.ref a] H (fun v _ => v = .bl true) fun _ _ _ => False)
  (hCX:∀ H e s',CX [] H s₁ (fun _ _ _ => False) e s' -> False) :
  codeAny (model P w) callerA (.call (.ref fa) ⟨[.ref a],[]⟩) (fun r s' => r = .ok (.ret (.bool true)) ∧ OldK s₁.heap s'.heap ∧ s'.os = s₁.os ∧ AllBare s'.gens) s₁:= by
 have rv:=iK hi
 have lenV:=hi.length
 have core:∀ H:Hp,EO H -> ip K H a (ns.map V.int) -> mE P w H s₁.heap -> (∀ b,H b ≠ none -> b = a) -> (H a ≠ none -> K.lookup a = none) ->
   codeAny (model P w) callerA (.call (.ref fa) ⟨[.ref a],[]⟩) (fun r s' => r = .ok (.ret (.bool true)) ∧ OldK s₁.heap s'.heap ∧ s'.os = s₁.os ∧ AllBare s'.gens) s₁:= by
  intro H hO hS hok hA hK
  have base_of:∀ {b:Addr} {o:Obj},s₁.heap.get? b = some o -> H b = none -> (qi s₁.heap H).get? b = some o:=fun e n => yU e n
  have noA:∀ {b:Addr} {o:Obj} {es:Array DictEntry} {ep:Nat},s₁.heap.get? b = some o -> o.data = .dict es ep -> H b = none:=fun {b o es ep} e d => by
   cases q:H b with
   | none => rfl
   | some u =>
    have e':b = a:=hA b (by rw [q]; simp)
    subst e'
    rw [ha] at e; cases e
    have d':Data.seq vs.toArray _ = Data.dict es ep:=d
    cases d'
  have nsK:∀ {b:Addr} {m:Str -> Option Value},s₁.heap.Ns b m -> (qi s₁.heap H).Ns b m:=fun {b m} ⟨o,es,ep,e,d,r⟩ => ⟨o,es,ep,base_of e (noA e d),d,r⟩
  have hKb:K.In (qi s₁.heap H):=fun b o e => base_of (KX b o e) (by
   cases q:H b with
   | none => rfl
   | some u =>
    have e':b = a:=hA b (by rw [q]; simp)
    subst e'
    rw [hK (by rw [q]; simp)] at e; cases e)
  have hM:Mod K mg (qi s₁.heap H):=⟨hKb,nsK hns,⟨mb,nsK hb,hbb⟩,let ⟨mc,h1,h2⟩:=hlim; ⟨mc,nsK h1,h2⟩⟩
  have e0:A8 P w K mg (qi s₁.heap H) callerA [] s₁ H:=⟨rfl,hM,fun b o e => AK e,Nat.le_of_eq (vA _ _),trivial,fun b hb => absurd (show b ∈ ([]:List Addr) from hb) (by simp),hok,.of_eq hg⟩
  refine codeAny_mono ((F _ hKb (nsK hns)).run callerA [] s₁ H ⟨[.ref a],[]⟩ [.ref a] [.ref a] _ _ hr e0 (hbind s₁ (.ref a)) (.cons rfl .nil) (hsp H hO hS)) fun r s' h => ?_
  cases r with
  | error e => exact (hCX H e s' h).elim
  | ok fl =>
   cases fl with
   | next => exact False.elim h
   | brk => exact False.elim h
   | cont => exact False.elim h
   | ret u =>
    obtain ⟨v,H',os,bare,un,hok',r',q⟩:=h
    have q':v = .bl true:=q
    subst q'
    obtain rfl:u = Value.bool true:=r'
    refine ⟨rfl,OldK.of_keep fun b o e => ?_,os,bare⟩
    cases q:H b with
    | none => exact un.keep b o e q (by intro z; exact absurd (show b ∈ ([]:List Addr) from z) (by simp)) (by simp)
    | some u =>
     rcases hO b with z | ⟨ob,xs,z⟩
     ·rw [q] at z; cases z
     ·have z2:=un.frzs b ob _ z
      obtain ⟨e1,_⟩:=hok b _ z
      obtain ⟨e2,_⟩:=hok' b _ z2
      rw [e] at e1; cases e1
      exact e2
 cases hk:K.lookup a with
 | some o =>
  have e:=KX a o hk
  rw [ha] at e
  cases e
  refine core (fun _ => none) (fun _ => .inl rfl) (.inr ⟨_,vs.toArray,_,hk,rfl,rfl,rfl,by rw [List.size_toArray,lenV]; exact hl,by simpa using rv⟩) (fun b u z => by have z':(none:Option HO) = some u:=z; cases z') (fun b z => absurd rfl z) fun z => absurd rfl z
 | none =>
  refine core (fun b => if b = a then some (.frz { cls:=.type "list",data:=.seq vs.toArray } (.lst (ns.map V.int))) else none) (fun b => ?_) (.inl (.inr ⟨{ cls:=.type "list",data:=.seq vs.toArray },if_pos rfl⟩)) (fun b u z => ?_) (fun b z => ?_) fun _ => hk
  ·by_cases hb:b = a
   ·exact .inr ⟨_,_,if_pos hb⟩
   ·exact .inl (if_neg hb)
  ·by_cases hb:b = a
   ·have z':=(if_pos hb).symm.trans z
    cases z'
    subst hb
    exact ⟨ha,by rw [List.length_map]; exact hl,vs,_,rv,ha⟩
   ·have z':=(if_neg hb).symm.trans z
    cases z'
  ·by_cases hb:b = a
   ·exact hb
   ·exact absurd (if_neg hb) z
end L2
namespace L2
open PySem PySem.Spec PyProof.Rows
abbrev J0 {K:PySem.W.Frag} {h:Heap} (_:K.In h):PySem.W.Frag:=K
theorem Ik {l:PySem.W.OpenLaw} {n k:Nat} {q:Program} {loose:List Str} {XP:(Str -> Option Value) -> Heap -> Prop} {YP:World -> Heap -> Prop} {d:DefRec} {K:Params -> PySem.W.Frag} {CX:World -> r0} {sp:World -> Sp} {x:Str}
  (hn:l.most = some n) (hn2:n ≤ sizeLine) (hdf:d.params.defaults = []) (hr:cX k callerA)
  (hY:∀ (w:World) (h:Heap),YP w h -> (K w.params).In h)
  (F:∀ (w:World) (mg:Str -> Option Value) (fa:Addr) (h:Heap),(K w.params).In h -> h.Ns mainGlobals mg -> mg d.name = some (.ref fa) ->
   ∃ fd:FuncData,(∀ (s:Shared) (u:Value),BindsTo s fd ⟨[u],[]⟩ [(x,u)]) ∧
    ∀ base:Heap,(K w.params).In base -> base.Ns mainGlobals mg -> dW l.prog w (K w.params) mg base (CX w) k fa fd [x] (sp w))
  (hsp:∀ (w:World) (H:Hp) (a:Addr) (ns:List Int),ns.length ≤ n -> EO H -> ip (K w.params) H a (ns.map V.int) -> sp w [.ref a] H (fun v _ => v = .bl true) fun _ _ _ => False)
  (hCX:∀ (w:World) (H:Hp) (s:Shared) (e:Value) (s':Shared),CX w [] H s (fun _ _ _ => False) e s' -> False) :
  PySem.W.WalkO q loose XP YP l.row.toRowW d [] (fun f vs => PySem.call f vs):= by
 refine Att.attach_call hn hdf fun w s₀ s₁ mg mb fa o pm cd doc a vs ns G Y ho hd hcd hmg hobj hints hlen hg => ?_
 have KX:=hY w _ Y
 obtain ⟨fd,hb,hF⟩:=F w mg fa _ KX G.T.g hmg
 exact rh KX G.T.g G.T.b G.T.builtins G.T.nolimit hg hobj hints (Nat.le_trans hlen hn2) hr hF hb (fun H hO hS => hsp w H a ns hlen hO hS) fun H e s' => hCX w H s₁ e s'
end L2
namespace L2
open PySem PySem.Spec PyProof.Rows
def fk (s:Stmt):Arguments:=match s with
 | .FunctionDef _ a _ _ _ _ _ _ _ _ => a
 | _ => { posonlyargs:=[],args:=[],vararg:=none,kwonlyargs:=[],kw_defaults:=[],kwarg:=none,defaults:=[] }
def cz (s:Stmt):List Stmt:=match s with
 | .FunctionDef _ _ b _ _ _ _ _ _ _ => b
 | _ => []
def ak (s:Stmt):Scope:=match s with
 | .FunctionDef _ _ _ _ _ _ sc _ _ _ => sc
 | _ => { kind:=.function,names:=[],isGenerator:=false,isCoroutine:=false }
abbrev dg:r0:=fun _ _ _ _ _ _ => False
abbrev E0:XK:=fun _ _ _ => False
theorem yJ {X:Cx}:Passes dg X E0:=fun _ _ _ _ _ _ _ h => h.elim
structure Ba (K:PySem.W.Frag) (x qual:Str) (st:Stmt) (f:Addr) (fd:FuncData):Prop where
 ex:∃ (oc:Value) (od:Option Addr) (kV doc pm:Value) (an:Option Addr) (cdv ct:Value) (osl:Array (Option Value)),
  fd = PySem.W.fnOf x qual (fk st) (cz st) (ak st) .none kV doc pm an cdv ct ∧ K.lookup f = some ⟨oc,od,.func fd,osl⟩ ∧ PySem.W.codeIn K cdv qual = true
 kp:PySem.W.keepIn K (.ref f) = true
section
variable {P:Program} {w:World} {K:PySem.W.Frag} {mg:Str -> Option Value} {base:Heap}
theorem Ba.ok {x qual:Str} {st:Stmt} {f:Addr} {fd:FuncData} {N ps:List Str} {k:Nat} {sp:Sp} (F:Ba K x qual st f fd) (S:aG N ps (ak st)) (len:∀ vs H Q E,sp vs H Q E -> vs.length = ps.length)
  (hbody:∀ (cdv:Value) (A:Around) (outer:List Env) (s:Shared) (H:Hp) (vs:List V) (Q:VK) (E:XK),cX k (A.deeper (envOfC qual (ak st) s.heap.objs.size f cdv)) -> sp vs H Q E ->
   ∃ t,rY (jz dg P w K mg base N qual (ak st) f cdv A outer s H E).nox (cz st) t ∧ t { nx:=fun _ H' => Q .non H',rt:=Q } (start N vs) H):dW P w K mg base dg (k + 1) f fd ps sp:= by
 obtain ⟨oc,od,kV,doc,pm,an,cdv,ct,osl,rfl,lk,hcd⟩:=F.ex
 refine Gs lk hcd S len fun A outer s H vs Q E hr hsp => ?_
 obtain ⟨t,h,q⟩:=hbody cdv A outer s H vs Q E hr hsp
 exact ⟨t,h.nox,q⟩
theorem Ba.binds {x qual:Str} {st:Stmt} {f:Addr} {fd:FuncData} {ps:List Str} (F:Ba K x qual st f fd)
  (h:∀ (kV doc pm:Value) (an:Option Addr) (cdv ct:Value) (us:List Value),us.length = ps.length -> bindArgs (PySem.W.fnOf x qual (fk st) (cz st) (ak st) .none kV doc pm an cdv ct) ⟨us,[]⟩ = pure (ps.zip us)):Binds K fd ps []:= by
 obtain ⟨oc,od,kV,doc,pm,an,cdv,ct,osl,rfl,lk,hcd⟩:=F.ex
 exact .all (h kV doc pm an cdv ct)
theorem xF {x qual:Str} {st:Stmt} {f:Addr} {oc:Value} {od an:Option Addr} {osl:Array (Option Value)} {kV doc pm cdv ct:Value} (l:K.lookup f = some ⟨oc,od,.func (PySem.W.fnOf x qual (fk st) (cz st) (ak st) .none kV doc pm an cdv ct),osl⟩)
  (c:PySem.W.codeIn K cdv qual = true) (k:PySem.W.keepIn K (.ref f) = true):Ba K x qual st f (PySem.W.fnOf x qual (fk st) (cz st) (ak st) .none kV doc pm an cdv ct):=⟨⟨oc,od,kV,doc,pm,an,cdv,ct,osl,rfl,l,c⟩,k⟩
end
section
variable {X:Cx}
end
theorem GZ {A B:Prop} (h:B):if false = true then A else B:= by
 rw [if_neg Bool.false_ne_true]
 exact h
theorem G7 {A B:Prop} (h:A):if true = true then A else B:= by
 rw [if_pos rfl]
 exact h
def xq (H H':Hp):Prop:=∀ b o,H b = some o -> H' b = some o
end L2
namespace L2
open PySem
theorem pX {prog:Program} {w:World} {A:Around} {R:Result -> Shared -> Prop} {s:Shared} {elt target iter:Expr} {ifs:List Expr} {scope:Scope} {pos:Pos} {it acc:Value} {env:Env} (I:Nat -> Shared -> Prop)
  (turn:∀ n s,I n s -> wpAny (model prog w) A (pyNext it) (fun r s1 => match r with
   | none => R (.ok .next) s1
   | some v => wpAny (model prog w) A (letOwnedTupleGo target it v) (fun _ s2 => wpAny (model prog w) A (assign target env v) (fun _ s3 =>
     wpAny (model prog w) A (forIn ifs true fun c r => if r = true then do let ok <- isTrue c env (eval c env); pure (ForInStep.yield ok) else pure (ForInStep.yield r)) (fun ok s4 =>
      if ok = true then wpAny (model prog w) A (eval elt env) (fun x s5 =>
       wpAny (model prog w) A (call (.builtin "list.append") [acc,x]) (fun _ s6 => ∃ m,m < n ∧ I m s6) (fun _ _ => False) s5) (fun _ _ => False) s4
      else ∃ m,m < n ∧ I m s4) (fun _ _ => False) s3) (fun _ _ => False) s2) (fun _ _ => False) s1) (fun _ _ => False) s)
  (n:Nat) (h:I n s) :
  codeAny (model prog w) A (.compLoop (.ListComp elt [⟨target,iter,ifs,0⟩] scope pos) 0 it acc env) R s:= by
 refine codeAny_loop rfl I (fun n s hI => ?_) n h
 show wpAny _ A ((compTurn (.ListComp elt [⟨target,iter,ifs,0⟩] scope pos) 0 it acc env).onRaise (fun x => do noteFrame x env; theTreesLotGoes x)) _ _ s
 refine wpAny_noted ?_
 rw [compTurn_list]
 refine wpAny_bind (wpAny_standAt (wpAny_bind (wpAny_mono (turn n s hI) (fun r s₁ h₁ => ?_) fun _ _ h' => h'.elim)))
 cases r with
 | none => exact wpAny_pure h₁
 | some v =>
  refine wpAny_bind (wpAny_mono h₁ (fun _ s₂ h₂ => ?_) fun _ _ h' => h'.elim)
  refine wpAny_bind (wpAny_mono h₂ (fun _ s₃ h₃ => wpAny_bind (wpAny_mono h₃ (fun ok s₄ h₄ => ?_) fun _ _ h' => h'.elim)) fun _ _ h' => h'.elim)
  cases ok with
  | false => exact wpAny_pure ⟨rfl,h₄⟩
  | true =>
   exact wpAny_bind (wpAny_bind (wpAny_mono h₄ (fun x s₅ h₅ => wpAny_bind (wpAny_mono h₅ (fun _ s₆ h₆ => wpAny_pure (wpAny_pure ⟨rfl,h₆⟩)) fun _ _ h' => h'.elim)) fun _ _ h' => h'.elim))
def jh (cells:List (Str × Addr)):List (Str × NameKind) -> List (Str × Addr) -> List (Str × Addr)
 | [],acc => acc
 | (n,k) :: r,acc => if k == .free then (match cells.lookup n with | some c => jh cells r ((n,c) :: acc) | none => jh cells r acc) else jh cells r acc
theorem nR {scope:Scope} {env:Env} (h:∀ n,(n,NameKind.free) ∈ scope.names -> ∃ c,env.cells.lookup n = some c):closureFor scope env = pure (jh env.cells scope.names []):= by
 have gen:∀ (names:List (Str × NameKind)) (acc:List (Str × Addr)),(∀ n,(n,NameKind.free) ∈ names -> ∃ c,env.cells.lookup n = some c) ->
   (forIn names acc (fun (x:Str × NameKind) (r:List (Str × Addr)) => match x with
    | (name,kind) => if (kind == .free) = true then do let a <- cellOf env name; pure (ForInStep.yield ((name,a) :: r)) else pure (ForInStep.yield r)):Sem (List (Str × Addr))) = pure (jh env.cells names acc):= by
  intro names
  induction names with
  | nil => intro acc _; rfl
  | cons x r ih =>
   intro acc hx
   obtain ⟨n,k⟩:=x
   rw [List.forIn_cons]
   unfold jh
   by_cases hk:(k == NameKind.free) = true
   ·have e:k = .free:=by simpa using hk
    subst e
    obtain ⟨c,hc⟩:=hx n List.mem_cons_self
    dsimp only
    rw [if_pos hk,if_pos hk,hc]
    have:cellOf env n = pure c:=by unfold cellOf; rw [hc]
    rw [this]
    show (pure c >>= fun a => _) >>= _ = _
    rw [pure_bind,pure_bind]
    exact ih _ fun m hm => hx m (List.mem_cons_of_mem _ hm)
   ·dsimp only
    rw [if_neg hk,if_neg hk,pure_bind]
    exact ih _ fun m hm => hx m (List.mem_cons_of_mem _ hm)
 have g0:=gen scope.names [] h
 unfold closureFor
 refine Eq.trans (congrArg (fun z:Sem (List (Str × Addr)) => z >>= fun r => pure r) g0) ?_
 exact pure_bind _ _
theorem jt {cells:List (Str × Addr)}:∀ {names:List (Str × NameKind)} {acc:List (Str × Addr)} {x:Str} {c:Addr},(x,c) ∈ jh cells names acc -> (x,c) ∈ acc ∨ (cells.lookup x = some c ∧ (x,NameKind.free) ∈ names)
 | [],_,_,_,h => .inl h
 | (n,k) :: r,acc,x,c,h => by
  unfold jh at h
  split at h
  ·rename_i hk
   have e:k = NameKind.free:=by simpa using hk
   subst e
   split at h
   ·rename_i d hd
    rcases jt h with h | ⟨h1,h2⟩
    ·rcases List.mem_cons.mp h with e | h
     ·cases e; exact .inr ⟨hd,List.mem_cons_self⟩
     ·exact .inl h
    ·exact .inr ⟨h1,List.mem_cons_of_mem _ h2⟩
   ·rcases jt h with h | ⟨h1,h2⟩
    ·exact .inl h
    ·exact .inr ⟨h1,List.mem_cons_of_mem _ h2⟩
  ·rcases jt h with h | ⟨h1,h2⟩
   ·exact .inl h
   ·exact .inr ⟨h1,List.mem_cons_of_mem _ h2⟩
theorem iG {cells:List (Str × Addr)}:∀ {names:List (Str × NameKind)} {acc:List (Str × Addr)} {x:Str},((x,NameKind.free) ∈ names ∧ (cells.lookup x).isSome = true) ∨ (acc.lookup x).isSome = true -> ((jh cells names acc).lookup x).isSome = true
 | [],_,_,h => h.elim (fun z => nomatch z.1) id
 | (n,k) :: r,acc,x,h => by
  unfold jh
  by_cases hk:(k == NameKind.free) = true
  ·rw [if_pos hk]
   cases hd:cells.lookup n with
   | none =>
    dsimp only
    refine iG ?_
    rcases h with ⟨h1,h2⟩ | h
    ·rcases List.mem_cons.mp h1 with e | h1
     ·cases e; rw [hd] at h2; cases h2
     ·exact .inl ⟨h1,h2⟩
    ·exact .inr h
   | some d =>
    dsimp only
    refine iG ?_
    by_cases hx:(x == n) = true
    ·exact .inr (by rw [List.lookup_cons,hx]; rfl)
    ·have hx':(x == n) = false:=by simpa using hx
     rcases h with ⟨h1,h2⟩ | h
     ·rcases List.mem_cons.mp h1 with e | h1
      ·cases e; simp at hx'
      ·exact .inl ⟨h1,h2⟩
     ·exact .inr (by rw [List.lookup_cons,hx']; exact h)
  ·rw [if_neg hk]
   refine iG ?_
   rcases h with ⟨h1,h2⟩ | h
   ·rcases List.mem_cons.mp h1 with e | h1
    ·cases e; simp at hk
    ·exact .inl ⟨h1,h2⟩
   ·exact .inr h
theorem dq:∀ (names:List (Str × NameKind)) (n:Nat) (acc:List (Str × Addr)),cellsFrom n names acc = cellsFrom n names [] ++ acc
 | [],_,_ => rfl
 | (x,k) :: r,n,acc => by
  unfold cellsFrom
  split
  ·rw [dq r (n + 1) ((x,n) :: acc),dq r (n + 1) [(x,n)],List.append_assoc]; rfl
  ·exact dq r n acc
theorem eU:∀ (names:List (Str × NameKind)) (n:Nat) (x:Str) (c:Addr),(x,c) ∈ cellsFrom n names [] -> (x,NameKind.cell) ∈ names
 | [],_,_,_,h => nomatch h
 | (y,k) :: r,n,x,c,h => by
  unfold cellsFrom at h
  split at h
  ·rename_i hk
   have e:k = NameKind.cell:=by simpa using hk
   subst e
   rw [dq] at h
   rcases List.mem_append.mp h with h | h
   ·exact List.mem_cons_of_mem _ (eU r (n + 1) x c h)
   ·have e:(x,c) = (y,n):=by simpa using h
    cases e; exact List.mem_cons_self
  ·exact List.mem_cons_of_mem _ (eU r n x c h)
theorem qP {M:Model} {A:Around} {E:Value -> Shared -> Prop} {s:Shared} {scope:Scope} {globals:Addr} {cl:List (Str × Addr)} {qual:Str} {outer:Env} {Q:Env -> Shared -> Prop}
  (hQ:Q (newEnv scope s.heap.objs.size globals (cellsFrom (s.heap.objs.size + 1) scope.names cl) qual none .none (some outer) builtinsNs) { s with heap:=pushCells (s.heap.push { cls:=.type "dict",data:=.dict #[] }) scope.names }) :
  wpAny M A (newFunctionEnv scope globals cl [] qual none .none (some outer)) Q E s:= by
 simp only [newFunctionEnv,Option.isSome_some,if_true]
 refine wpAny_bind (wpAny_alloc ?_)
 refine wpAny_bind (wpAny_layCells _ (fun name kind cells => by cases hkc:kind == NameKind.cell <;> simp [hkc]) _ _ _ _ ?_)
 rw [show ({ s with heap:=s.heap.push { cls:=.type "dict",data:=.dict #[] } }:Shared).heap.objs.size = s.heap.objs.size + 1 from Heap.size_push ..]
 exact wpAny_bind (wpAny_pure (wpAny_pure hQ))
end L2
namespace L2
open PySem PySem.Spec PyProof.Rows
def iz (N own:List Str) (sc0 scope:Scope):Bool :=
 scope.names.all (fun x => !(x.2 == .local) || (scope.names.lookup x.1 == some .local)) &&
 (scope.names.all (fun x => !(x.2 == .free) || (sc0.names.lookup x.1 == some .cell || sc0.names.lookup x.1 == some .free)) &&
 (scope.names.all (fun x => !(x.2 == .local || x.2 == .cell) || !(N.contains x.1)) &&
 (own.all (fun x => scope.names.all fun y => !(y.1 == x) || !(y.2 == .free)) &&
 scope.names.all (fun x => !(x.2 == .free) || scope.names.all fun y => !(y.1 == x.1) || (y.2 == .free)))))
structure tu (N own:List Str) (sc0 scope:Scope):Prop where
 loc:∀ x ∈ scope.names,x.2 = .local -> scope.names.lookup x.1 = some .local
 free:∀ n,(n,NameKind.free) ∈ scope.names -> sc0.names.lookup n = some .cell ∨ sc0.names.lookup n = some .free
 out:∀ n k,(n,k) ∈ scope.names -> (k = .local ∨ k = .cell) -> n ∉ N
 own:∀ x ∈ own,(x,NameKind.free) ∉ scope.names
 one:∀ n k,(n,NameKind.free) ∈ scope.names -> (n,k) ∈ scope.names -> k = .free
theorem vY {N own:List Str} {sc0 scope:Scope} (h:iz N own sc0 scope = true):tu N own sc0 scope:= by
 unfold iz at h
 simp only [Bool.and_eq_true,List.all_eq_true,Bool.or_eq_true,Bool.not_eq_true',beq_iff_eq,Bool.or_eq_false_iff] at h
 obtain ⟨h1,h2,h3,h4,h5⟩:=h
 refine ⟨fun x hx e => ?_,fun n hn => ?_,fun n k hn e hN => ?_,fun x hx hn => ?_,fun n k hn hk => ?_⟩
 ·rcases h1 x hx with z | z
  ·rw [e] at z; simp at z
  ·exact z
 ·rcases h2 _ hn with z | z
  ·simp at z
  ·exact z
 ·rcases h3 _ hn with ⟨z1,z2⟩ | z
  ·rcases e with e | e
   ·rw [e] at z1; simp at z1
   ·rw [e] at z2; simp at z2
  ·have:N.contains n = true:=by simpa using hN
   dsimp only at z
   rw [this] at z; cases z
 ·rcases h4 x hx _ hn with z | z
  ·simp at z
  ·simp at z
 ·rcases h5 _ hn with z | z
  ·simp at z
  ·rcases z _ hk with y | y
   ·simp at y
   ·exact y
def hX (N N':List Str) (scope:Scope):Bool:=(N'.length == N.length) && (N'.zip N).all fun p => p.1 == p.2 || (scope.names.lookup p.1).isNone
structure wZ (N N':List Str) (scope:Scope):Prop where
 len:N'.length = N.length
 same:∀ (i:Nat) x,N'[i]? = some x -> N[i]? = some x ∨ scope.names.lookup x = none
theorem vV {N N':List Str} {scope:Scope} (h:hX N N' scope = true):wZ N N' scope:= by
 unfold hX at h
 simp only [Bool.and_eq_true,beq_iff_eq,List.all_eq_true,Bool.or_eq_true,Option.isNone_iff_eq_none] at h
 refine ⟨h.1,fun i x e => ?_⟩
 have hi:i < N'.length:=(List.getElem?_eq_some_iff.mp e).1
 have hi2:i < N.length:=by rw [<- h.1]; exact hi
 have ez:(N'.zip N)[i]? = some (x,N[i]):= by
  rw [List.getElem?_zip_eq_some]
  exact ⟨e,List.getElem?_eq_getElem hi2⟩
 rcases h.2 _ (List.mem_of_getElem? ez) with z | z
 ·left
  rw [List.getElem?_eq_getElem hi2]
  exact congrArg some z.symm
 ·exact .inr z
def blk (X:Cx) (N' own:List Str) (scope:Scope) (s:Shared) (H:Hp) (fp:List Addr) (pins:List (Addr × Obj)):Cx where
 prog:=X.prog
 w:=X.w
 K:=X.K
 mg:=X.mg
 base:=X.base
 A:=X.A
 N:=N' ++ own
 s₀:=s
 H₀:=H
 env:={ newEnv scope s.heap.objs.size X.env.globals (cellsFrom (s.heap.objs.size + 1) scope.names (jh X.env.cells scope.names [])) X.env.qual none .none (some X.env) builtinsNs with scope:=relabel scope X.env }
 outer:=X.stack
 stack:=X.stack
 ex:=fp
 fn:=fun x => own.contains x
 calm:=X.calm
 pn:=X.pn ++ pins
 xe:=fun _ _ => False
theorem gR {env:Env}:∀ {names:List (Str × NameKind)} {x:Str},
  (names.map fun (n,k) => if (k == NameKind.free && env.scope.kind == .function && env.kindOf n == some .cell) then (n,NameKind.cell) else (n,k)).lookup x =
   (names.lookup x).map fun k => if (k == NameKind.free && env.scope.kind == .function && env.kindOf x == some .cell) then NameKind.cell else k
 | [],_ => rfl
 | (n,k) :: r,x => by
  have ih:=@gR env r x
  rw [List.map_cons]
  cases hx:x == n with
  | true =>
   have e:x = n:=by simpa using hx
   subst e
   by_cases hc:(k == NameKind.free && env.scope.kind == .function && env.kindOf x == some .cell) = true
   ·dsimp only; rw [if_pos hc]; simp only [List.lookup_cons,hx,Option.map_some]; rw [if_pos hc]
   ·dsimp only; rw [if_neg hc]; simp only [List.lookup_cons,hx,Option.map_some]; rw [if_neg hc]
  | false =>
   by_cases hc:(k == NameKind.free && env.scope.kind == .function && env.kindOf n == some .cell) = true
   ·dsimp only; rw [if_pos hc]; simp only [List.lookup_cons,hx]; exact ih
   ·dsimp only; rw [if_neg hc]; simp only [List.lookup_cons,hx]; exact ih
theorem df {scope:Scope} {env:Env} {x:Str} {k':NameKind} (h:(relabel scope env).names.lookup x = some k'):∃ k,scope.names.lookup x = some k ∧ (k' = k ∨ (k = .free ∧ k' = .cell)):= by
 have h':(scope.names.map fun (n,k) => if (k == NameKind.free && env.scope.kind == .function && env.kindOf n == some .cell) then (n,NameKind.cell) else (n,k)).lookup x = some k':=h
 rw [gR] at h'
 cases e:scope.names.lookup x with
 | none => rw [e] at h'; cases h'
 | some k =>
  rw [e] at h'
  simp only [Option.map_some,Option.some.injEq] at h'
  refine ⟨k,rfl,?_⟩
  split at h'
  ·rename_i hc
   simp only [Bool.and_eq_true,beq_iff_eq] at hc
   exact .inr ⟨hc.1.1,h'.symm⟩
  ·exact .inl h'.symm
section
variable {X:Cx} {pins:List (Addr × Obj)} {σ:St} {H:Hp} {s:Shared} {N' own:List Str} {scope:Scope} {fp:List Addr}
theorem o4 (I:Inv X pins σ H s) (S:tu N' own X.env.scope scope):∀ x c,(cellsFrom (s.heap.objs.size + 1) scope.names (jh X.env.cells scope.names [])).lookup x = some c ->
  ((x,c) ∈ cellsFrom (s.heap.objs.size + 1) scope.names [] ∧ (pushCells (s.heap.push { cls:=.type "dict",data:=.dict #[] }) scope.names).IsCell c none ∧ s.heap.objs.size + 1 ≤ c ∧ (x,NameKind.cell) ∈ scope.names) ∨
   (X.env.cells.lookup x = some c ∧ (x,NameKind.free) ∈ scope.names ∧ c < s.heap.objs.size):= by
 intro x c h
 have ok:=cellsFrom_ok scope.names (s.heap.push { cls:=.type "dict",data:=.dict #[] }) (s.heap.objs.size + 1) [] ⟨fun _ _ hm => (nomatch hm),List.Pairwise.nil⟩ (by rw [Heap.size_push]; exact Nat.le_refl _)
 rw [Heap.size_push] at ok
 have hm:=mem_of_lookup h
 rw [dq] at hm
 rcases List.mem_append.mp hm with hm | hm
 ·exact .inl ⟨hm,(ok.empty x c hm).1,(ok.empty x c hm).2,eU _ _ _ _ hm⟩
 ·rcases jt hm with z | ⟨z1,z2⟩
  ·exact nomatch z
  ·obtain ⟨v,q⟩:=I.cell x c z1
   exact .inr ⟨z1,z2,q.lt⟩
theorem Inv.blkKeep {s:Shared} {scope:Scope}:∀ (b:Addr) (o:Obj),s.heap.get? b = some o -> (pushCells (s.heap.push { cls:=.type "dict",data:=.dict #[] }) scope.names).get? b = some o:=fun b o e =>
 pushCells_keeps _ _ b o (Heap.get?_push_of_some _ e)
theorem Inv.blk (I:Inv X pins σ H s) (hf:∀ b ∈ fp,jd X pins H b) (ho:∀ b ∈ fp,b < s.heap.objs.size) (hk:scope.kind = .function) (S:tu N' own X.env.scope scope) (Mk:wZ X.N N' scope) :
  Inv (blk X N' own scope s H fp pins) [] (σ ++ List.replicate own.length none) H { s with heap:=pushCells (s.heap.push { cls:=.type "dict",data:=.dict #[] }) scope.names }:= by
 have hcells:=o4 I S
 have keep:=@Inv.blkKeep s scope
 have hasC:∀ x,((relabel scope X.env).names.lookup x = some .cell ∨ (relabel scope X.env).names.lookup x = some .free) -> ∃ c,(cellsFrom (s.heap.objs.size + 1) scope.names (jh X.env.cells scope.names [])).lookup x = some c:= by
  intro x hx
  have:∃ k,scope.names.lookup x = some k ∧ (k = .cell ∨ k = .free):= by
   rcases hx with hx | hx
   ·obtain ⟨k,e,z⟩:=df hx
    rcases z with z | ⟨z,_⟩
    ·exact ⟨k,e,.inl z.symm⟩
    ·exact ⟨k,e,.inr z⟩
   ·obtain ⟨k,e,z⟩:=df hx
    rcases z with z | ⟨z,_⟩
    ·exact ⟨k,e,.inr z.symm⟩
    ·exact ⟨k,e,.inr z⟩
  obtain ⟨k,e,z⟩:=this
  refine Option.isSome_iff_exists.mp (PySem.W.cellsFrom_some scope.names _ _ ?_)
  rcases z with z | z
  ·subst z; exact .inl e
  ·subst z
   have hm:=mem_of_lookup e
   obtain ⟨c,hc⟩:=I.ok.has x (S.free x hm)
   exact .inr (iG (.inl ⟨hm,by rw [hc]; rfl⟩))
 have sub:∀ b,b ∈ wk X.stack -> b ∈ X.env.locals :: X.fs:=I.stkSub
 refine ⟨⟨I.ok.mod,hk,I.ok.glob,I.ok.blt,Nat.le_refl _,fun x y c h1 h2 => ?_,fun x hx => hasC x hx,fun x c hx h => ?_,I.ok.hd,I.ok.frames,.inl rfl,fun b hb => ⟨?_,fun x c h => ?_⟩,fun b o e => I.bs b o e,?_,fun b o e hb => ?_,fun b hb hs => ?_,I.stack,I.stkFree⟩,
  rfl,I.bare,Un.kept keep,⟨_,(Heap.Ns.new s.heap (.type "dict")).keeps (pushCells_keeps _ _),fun i x v h1 h2 h3 => ?_⟩,fun x c h => ?_,I.hok.fresh (Nat.le_refl _),fun x c h => ?_,fun p hp => ?_,I.hok.kept keep,?_⟩
 ·
  have ok:=cellsFrom_ok scope.names (s.heap.push { cls:=.type "dict",data:=.dict #[] }) (s.heap.objs.size + 1) [] ⟨fun _ _ hm => (nomatch hm),List.Pairwise.nil⟩ (by rw [Heap.size_push]; exact Nat.le_refl _)
  rw [Heap.size_push] at ok
  rcases hcells x c h1 with ⟨a1,_,a3,_⟩ | ⟨a1,_,a3⟩ <;> rcases hcells y c h2 with ⟨b1,_,b3,_⟩ | ⟨b1,_,b3⟩
  ·exact name_of_addr ok.apart a1 b1
  ·exact absurd b3 (Nat.not_lt.mpr (Nat.le_of_succ_le a3))
  ·exact absurd a3 (Nat.not_lt.mpr (Nat.le_of_succ_le b3))
  ·exact I.ok.inj x y c a1 b1
 ·rcases hcells x c h with ⟨_,_,a3,_⟩ | ⟨_,a2,_⟩
  ·show s.heap.objs.size ≤ c
   exact Nat.le_of_succ_le a3
  ·have hx':own.contains x = true:=hx
   exact absurd a2 (S.own x (by simpa using hx'))
 ·exact Nat.ne_of_lt (ho b hb)
 ·rcases hcells x c h with ⟨_,_,a3,_⟩ | ⟨a1,_,_⟩
  ·intro z; subst z; exact absurd (ho _ hb) (Nat.not_lt.mpr (Nat.le_of_succ_le a3))
  ·exact (hf b hb).2.2.2.2.1 x c a1
 ·exact Nat.le_trans I.ok.bsz I.sz
 ·rcases (hf b hb).2.2.2.1 with z | z
  ·exact I.ok.noex b o e z
  ·exact absurd (Heap.lt_size e) (Nat.not_lt.mpr (Nat.le_trans I.ok.bsz z))
 ·rcases List.mem_cons.mp (sub b hs) with z | z
  ·exact (hf b hb).2.1 z
  ·exact (hf b hb).2.2.1 z
 ·
  have hi:i < σ.length:= by
   by_cases hi:i < σ.length
   ·exact hi
   ·rw [List.getElem?_append_right (by omega),List.getElem?_replicate] at h2
    split at h2 <;> cases h2
  rw [List.getElem?_append_left hi] at h2
  have hN':N'[i]? = some x:= by
   have:(N' ++ own)[i]? = some x:=h1
   rwa [List.getElem?_append_left (by rw [Mk.len,<- I.len]; exact hi)] at this
  have hmem:x ∈ N':=List.mem_of_getElem? hN'
  have hseen:∃ k,scope.names.lookup x = some k:= by
   rcases h3 with h3 | h3 | h3 <;> (obtain ⟨k,e,_⟩:=df h3; exact ⟨k,e⟩)
  have hN:X.N[i]? = some x:= by
   rcases Mk.same i x hN' with z | z
   ·exact z
   ·obtain ⟨k,e⟩:=hseen
    rw [z] at e; cases e
  have hfree:scope.names.lookup x = some .free ∧ ((relabel scope X.env).names.lookup x = some .cell ∨ (relabel scope X.env).names.lookup x = some .free):= by
   rcases h3 with h3 | h3 | h3
   ·obtain ⟨k,e,z⟩:=df h3
    rcases z with z | ⟨_,z⟩
    ·exact absurd hmem (S.out x k (mem_of_lookup e) (.inl z.symm))
    ·cases z
   ·obtain ⟨k,e,z⟩:=df h3
    rcases z with z | ⟨z,_⟩
    ·exact absurd hmem (S.out x k (mem_of_lookup e) (.inr z.symm))
    ·rw [z] at e; exact ⟨e,.inl h3⟩
   ·obtain ⟨k,e,z⟩:=df h3
    rcases z with z | ⟨z,_⟩
    ·rw [<- z] at e; exact ⟨e,.inr h3⟩
    ·rw [z] at e; exact ⟨e,.inr h3⟩
  have hm:=mem_of_lookup hfree.1
  have hkX:=S.free x hm
  obtain ⟨m,hn,hl⟩:=I.loc
  obtain ⟨u,r,l⟩:=hl i x v hN h2 (.inr hkX)
  refine ⟨u,r,.inr ⟨hfree.2,?_⟩⟩
  rcases l with ⟨k,_⟩ | ⟨_,c,hc,hcell⟩
  ·have k':X.env.scope.names.lookup x = some .local:=k
   rw [k'] at hkX
   rcases hkX with z | z <;> cases z
  ·obtain ⟨c2,hc2⟩:=hasC x hfree.2
   refine ⟨c2,hc2,?_⟩
   rcases hcells x c2 hc2 with ⟨_,_,_,a4⟩ | ⟨a1,_,_⟩
   ·have:=S.one x _ hm a4; cases this
   ·rw [hc] at a1; cases a1
    exact hcell.keeps keep
 ·rcases hcells x c h with ⟨_,a2,_,_⟩ | ⟨a1,_,_⟩
  ·exact ⟨_,a2⟩
  ·obtain ⟨v,q⟩:=I.cell x c a1
   exact ⟨v,q.keeps keep⟩
 ·rcases hcells x c h with ⟨_,_,a3,_⟩ | ⟨a1,_,_⟩
  ·exact I.hok.fresh (by omega)
  ·exact I.freeC x c a1
 ·have hp':p ∈ X.pn ++ pins:= by
   rcases List.mem_append.mp hp with z | z
   ·exact z
   ·exact nomatch z
  obtain ⟨e,n,ne,nf,d⟩:=I.pin p hp'
  refine ⟨keep _ _ e,n,Nat.ne_of_lt (Heap.lt_size e),fun z => ?_,d⟩
  rcases List.mem_cons.mp (sub p.1 z) with z | z
  ·exact ne z
  ·exact nf z
 ·show (σ ++ List.replicate own.length none).length = (N' ++ own).length
  rw [List.length_append,List.length_append,List.length_replicate,I.len,Mk.len]
theorem Inv.unblk (I:Inv X pins σ H s) (hf:∀ b ∈ fp,jd X pins H b) {pins':List (Addr × Obj)} {σ':St} {H':Hp} {s':Shared} (J:Inv (L2.blk X N' own scope s H fp pins) pins' σ' H' s'):Inv X pins σ H' s' :=
 I.call' (ch:=fp) J.os J.base J.hok J.bare fun b hb => ⟨(hf b hb).2.2.2.1,(hf b hb).2.1,(hf b hb).2.2.2.2.1,(hf b hb).2.2.2.2.2⟩
end
def zV (X:Cx) (ifs:List Expr) (t:TT):Prop :=
 ∀ (pins:List (Addr × Obj)) (s:Shared) (σ:St) (H:Hp) (Q:Bool -> Hp -> Prop),Inv X pins σ H s -> t σ H Q ->
  wpAny (model X.prog X.w) X.A (forIn ifs true fun c r => if r = true then do let ok <- isTrue c X.env (eval c X.env); pure (ForInStep.yield ok) else pure (ForInStep.yield r)) (TP X pins σ Q) X.xe s
def Jl:TT:=fun _ H Q => Q true H
theorem B0 {X:Cx}:zV X [] Jl:=fun pins s σ H Q I h => wpAny_tests_nil ⟨H,I,h⟩
theorem Bu {X:Cx} {c:Expr} {t:TT} (h:PT X c t):zV X [c] t:=fun pins s σ H Q I q => wpAny_tests_one (h pins s σ H Q I q)
structure Gq (cal:Cx -> Prop) (P:Program) (w:World) (K:PySem.W.Frag) (tg:Expr) (J:It) (fp:List Addr) (it:Addr) (tn:Nat -> Heap -> Prop):Prop where
 obj:∀ i h,tn i h -> ∀ b ∈ fp,∃ o,h.get? b = some o ∧ ∀ v,o.data ≠ .cell v
 keep:∀ i h h',tn i h -> (∀ b ∈ fp,∀ o,h.get? b = some o -> h'.get? b = some o) -> tn i h'
 item:∀ (X:Cx),X.prog = P -> X.w = w -> X.K = K -> cal X -> ∀ (i:Nat) (pins:List (Addr × Obj)) (s:Shared) (σ:St) (H:Hp) (E:Value -> Shared -> Prop),Inv X pins σ H s -> (∀ b ∈ fp,jd X pins H b) -> tn i s.heap -> J.go i H ->
  wpAny (model P w) X.A (pyNext (.ref it)) (fun r s1 => ∃ u,r = some u ∧
   wpAny (model P w) X.A (letOwnedTupleGo tg (.ref it) u) (fun _ s2 => ∃ x H',Inv X pins σ H' s2 ∧ RelV x u ∧ J.yld i H x H' ∧ tn (i + 1) s2.heap ∧ ∀ b ∈ fp,H' b = none) E s1) E s
 done:∀ (X:Cx),X.prog = P -> X.w = w -> X.K = K -> cal X -> ∀ (i:Nat) (pins:List (Addr × Obj)) (s:Shared) (σ:St) (H:Hp) (E:Value -> Shared -> Prop),Inv X pins σ H s -> (∀ b ∈ fp,jd X pins H b) -> tn i s.heap -> J.stop i H ->
  wpAny (model P w) X.A (pyNext (.ref it)) (fun r s1 => r = none ∧ Inv X pins σ H s1) E s
 self:∀ (A:Around) (i:Nat) (s:Shared) (Q:Value -> Shared -> Prop) (E:Value -> Shared -> Prop),tn i s.heap -> Q (.ref it) s -> wpAny (model P w) A (pyIter (.ref it)) Q E s
def JC (cal:Cx -> Prop) (X:Cx) (tg iter:Expr) (wi:TI):Prop :=
 ∀ (pins:List (Addr × Obj)) (s:Shared) (σ:St) (H:Hp) (R:It -> Hp -> Prop),Inv X pins σ H s -> wi σ H R ->
  wpAny (model X.prog X.w) X.A (eval iter X.env) (fun v s1 => wpAny (model X.prog X.w) X.A (pyIter v) (fun itv s2 => ∃ (it:Addr) (fp:List Addr) (tn:Nat -> Heap -> Prop) (J:It) (H':Hp),itv = .ref it ∧ Inv X pins σ H' s2 ∧ Gq cal X.prog X.w X.K tg J fp it tn ∧ tn 0 s2.heap ∧ (∀ b ∈ fp,jd X pins H' b) ∧ R J H') X.xe s1) X.xe s
theorem PI.g {X:Cx} {tg iter:Expr} {wi:TI} (h:PI X tg iter wi):JC (fun X => X.calm = true) X tg iter wi:=fun pins s σ H R I q =>
 cT (h pins s σ H R I q) fun _ _ h => cT h fun _ _ ⟨it,fp,tn,J,H',e,I',T,r⟩ => ⟨it,fp,tn,J,H',e,I',⟨T.obj,T.keep,T.item,T.done,T.self⟩,r⟩
def u5 (wi:TI) (own:Nat) (g:TG) (tt:TT) (te:TE):TE:=fun σ H Q => wi σ H fun J H1 => ∀ l,H1 l = none -> ∃ W:Nat -> Nat -> List V -> Hp -> Prop,(∃ m,W 0 m [] (upd H1 l (.lst []))) ∧ ∀ i m acc H,W i m acc H ->
 H l = some (.lst acc) ∧ ((J.stop i H ∧ Q (.ref l) H) ∨ (J.go i H ∧ ∀ x H',J.yld i H x H' -> g x (σ ++ List.replicate own none) H' fun σ2 H2 => σ2.take σ.length = σ ∧ tt σ2 H2 fun b H3 =>
  if b = true then te σ2 H3 fun v H4 => H4 l = some (.lst acc) ∧ acc.length < sizeLine ∧ ∃ m',m' < m ∧ W (i + 1) m' (acc ++ [v]) (upd H4 l (.lst (acc ++ [v])))
  else ∃ m',m' < m ∧ W (i + 1) m' acc H3))
section
variable {X:Cx} {elt tg iter:Expr} {ifs:List Expr} {scope:Scope} {pos pos':Pos} {N' own:List Str} {wi:TI} {g:TG} {tt:TT} {te:TE}
theorem vb {cal:Cx -> Prop} (hc:∀ s H fp pins,cal (blk X N' own scope s H fp pins)) (hi:JC cal X tg iter wi) (hk:scope.kind = .function) (hS:iz N' own X.env.scope scope = true) (hM:hX X.N N' scope = true)
  (hg:∀ s H fp pins,PG (blk X N' own scope s H fp pins) tg g) (ht:∀ s H fp pins,zV (blk X N' own scope s H fp pins) ifs tt) (he:∀ s H fp pins,PE (blk X N' own scope s H fp pins) elt te)
  (hs:∀ x,foldedSetIterable iter X.env x = pure x) {use:Option (Value -> Sem Unit)} {Q0:Value -> Shared -> Prop} {pins:List (Addr × Obj)} {s:Shared} {σ:St} {H:Hp} {Q:VK}
  (I:Inv X pins σ H s) (h:u5 wi own.length g tt te σ H Q)
  (fin:∀ (l:Addr) (H':Hp) (s':Shared) (C:Addr) (m:Str -> Option Value),Inv X pins σ H' s' -> Q (.ref l) H' -> s'.heap.Ns C m -> H' C = none -> C ≠ X.env.locals -> X.s₀.heap.objs.size ≤ C -> (∀ x c,X.env.cells.lookup x = some c -> c ≠ C) -> (∀ p ∈ X.pn ++ pins,p.1 ≠ C) ->
   compPost (model X.prog X.w) X.A X.xe use Q0 (.ref l) C (.ok .next) s') :
  wpAny (model X.prog X.w) X.A (comprehension (.ListComp elt [⟨tg,iter,ifs,0⟩] scope pos) scope X.env pos' (newList []) false (eval iter X.env) use) Q0 X.xe s:= by
 have S:=vY hS
 have Mk:=vV hM
 refine wpAny_comprehension_free rfl hs (nR fun n hn => I.ok.has n (S.free n hn)) hk S.loc (cT (hi pins s σ H _ I h) fun xv s1 h1 => cT h1 fun itv s2 h2 => ?_)
 obtain ⟨it,fp,tn,J,H2,e,I2,T,st2,f2,q2⟩:=h2
 subst e
 refine wpAny_newObj_type ?_
 have hl2:H2 s2.heap.objs.size = none:=I2.fresh
 have I3:Inv X pins σ (upd H2 s2.heap.objs.size (.lst [])) { s2 with heap:=s2.heap.push { cls:=.type "list",data:=.seq ([]:List Value).toArray } }:=I2.lnew (its:=[]) (t':=s2.toks) .nil (Nat.zero_le _)
 obtain ⟨W,⟨m0,w0⟩,turn⟩:=q2 s2.heap.objs.size hl2
 generalize hl:s2.heap.objs.size = l at *
 have ob2:∀ b ∈ fp,b < l:=fun b hb => by
  obtain ⟨o,e,_⟩:=T.obj _ _ st2 b hb
  rw [<- hl]; exact Heap.lt_size e
 have st3:tn 0 (s2.heap.push { cls:=.type "list",data:=.seq ([]:List Value).toArray }):=T.keep _ _ _ st2 fun b _ o e => Heap.get?_push_of_some _ e
 have sz3:l < (s2.heap.push { cls:=.type "list",data:=.seq ([]:List Value).toArray }).objs.size:=by rw [Heap.size_push,hl]; exact Nat.lt_succ_self _
 have f3:∀ b ∈ fp,jd X pins (upd H2 l (.lst [])) b:=fun b hb => ⟨by rw [az (Nat.ne_of_lt (ob2 b hb))]; exact (f2 b hb).1,(f2 b hb).2⟩
 generalize hs3:({ s2 with heap:=s2.heap.push { cls:=.type "list",data:=.seq ([]:List Value).toArray } }:Shared) = s3 at I3
 have hh3:s3.heap = s2.heap.push { cls:=.type "list",data:=.seq ([]:List Value).toArray }:=by rw [<- hs3]
 rw [<- hh3] at st3 sz3
 have ob3:∀ b ∈ fp,b < s3.heap.objs.size:=fun b hb => Nat.lt_trans (ob2 b hb) sz3
 generalize upd H2 l (.lst []) = H3 at *
 show wpAny _ _ (newFunctionEnv scope X.env.globals (jh X.env.cells scope.names []) [] X.env.qual none .none (some X.env)) _ _ _
 have goal:wpAny (model X.prog X.w) X.A (newFunctionEnv scope X.env.globals (jh X.env.cells scope.names []) [] X.env.qual none .none (some X.env))
   (fun cenv s₄ => codeAny (model X.prog X.w) X.A (.compStart (.ListComp elt [⟨tg,iter,ifs,0⟩] scope pos) 0 (.ref it) (.ref l) { cenv with scope:=relabel scope X.env }) (compPost (model X.prog X.w) X.A X.xe use Q0 (.ref l) cenv.locals) s₄) X.xe s3:= by
  refine qP ?_
  have IY:=I3.blk f3 ob3 hk S Mk
  have keep:=@Inv.blkKeep s3 scope
  have st4:tn 0 (pushCells (s3.heap.push { cls:=.type "dict",data:=.dict #[] }) scope.names):=T.keep _ _ _ st3 fun b _ o e => keep b o e
  have hcells:=o4 I3 S
  have stat:∀ {H':Hp},(∀ b ∈ fp,H' b = none) -> ∀ b ∈ fp,jd (blk X N' own scope s3 H3 fp pins) [] H' b:=fun hn b hb => by
   refine ⟨hn b hb,Nat.ne_of_lt (ob3 b hb),fun z => ?_,.inl hb,fun x c h => ?_,fun p hp => ?_⟩
   ·rcases List.mem_cons.mp (I3.stkSub b z) with z | z
    ·exact (f3 b hb).2.1 z
    ·exact (f3 b hb).2.2.1 z
   ·rcases hcells x c h with ⟨_,_,a3,_⟩ | ⟨a1,_,_⟩
    ·intro z; subst z; exact absurd (ob3 _ hb) (Nat.not_lt.mpr (Nat.le_of_succ_le a3))
    ·exact (f3 b hb).2.2.2.2.1 x c a1
   ·have hp':p ∈ X.pn ++ pins:= by
     rcases List.mem_append.mp hp with z | z
     ·exact z
     ·exact nomatch z
    exact (f3 b hb).2.2.2.2.2 p hp'
  have loop:codeAny (model X.prog X.w) X.A (.compLoop (.ListComp elt [⟨tg,iter,ifs,0⟩] scope pos) 0 (.ref it) (.ref l) (blk X N' own scope s3 H3 fp pins).env)
    (compPost (model X.prog X.w) X.A X.xe use Q0 (.ref l) s3.heap.objs.size) { s3 with heap:=pushCells (s3.heap.push { cls:=.type "dict",data:=.dict #[] }) scope.names }:= by
   refine pX (fun n s' => ∃ i σ' H' acc,Inv (blk X N' own scope s3 H3 fp pins) [] σ' H' s' ∧ σ'.take σ.length = σ ∧ tn i s'.heap ∧ (∀ b ∈ fp,H' b = none) ∧ W i n acc H') ?_ m0
    ⟨0,_,H3,[],IY,by rw [List.take_left'] <;> rfl,st4,fun b hb => (f3 b hb).1,w0⟩
   rintro n s5 ⟨i,σ5,H5,acc,I5,e5,st5,fr5,w5⟩
   obtain ⟨hacc,cs⟩:=turn i n acc H5 w5
   rcases cs with ⟨stop,q⟩ | ⟨go,step⟩
   ·refine wpAny_mono (T.done (blk X N' own scope s3 H3 fp pins) rfl rfl rfl (hc _ _ _ _) i [] s5 σ5 H5 (fun _ _ => False) I5 (stat fr5) st5 stop) (fun r s6 hr => ?_) fun _ _ z => z
    obtain ⟨rfl,I6⟩:=hr
    obtain ⟨m,hn,_⟩:=id I6.loc
    refine fin l H5 s6 _ m (I3.unblk f3 I6) q hn I6.free (Nat.ne_of_gt I3.lt) I3.sz (fun x c e z => ?_) fun p hp z => ?_
    ·obtain ⟨v,qc⟩:=I3.cell x c e
     exact absurd qc.lt (by rw [z]; exact Nat.lt_irrefl _)
    ·exact absurd (Heap.lt_size (I3.pin p hp).1) (by rw [z]; exact Nat.lt_irrefl _)
   ·have lenσ:σ5.length = (σ ++ List.replicate own.length (none:Option V)).length:= by
     rw [I5.len,List.length_append,List.length_replicate,I.len]
     show (N' ++ own).length = _
     rw [List.length_append,Mk.len]
    have I5':Inv (blk X N' own scope s3 H3 fp pins) [] (σ ++ List.replicate own.length none) H5 s5:=I5.weak lenσ.symm fun j v e => by
     have hj:j < σ.length:= by
      by_cases hj:j < σ.length
      ·exact hj
      ·rw [List.getElem?_append_right (by omega),List.getElem?_replicate] at e
       split at e <;> cases e
     rw [List.getElem?_append_left hj] at e
     rw [<- e5,List.getElem?_take_of_lt hj] at e
     exact e
    refine wpAny_mono (T.item (blk X N' own scope s3 H3 fp pins) rfl rfl rfl (hc _ _ _ _) i [] s5 _ H5 (fun _ _ => False) I5' (stat fr5) st5 go) (fun r s6 hr => ?_) fun _ _ z => z
    obtain ⟨u,rfl,h6⟩:=hr
    refine cT h6 fun _ s7 ⟨x,H7,I7,r7,y7,st7,fr7⟩ => ?_
    have I7':=I7.pinned (stat fr7) (T.obj _ _ st7)
    refine cT (hg s3 H3 fp pins _ s7 _ H7 x u _ I7' r7 (step x H7 y7)) fun _ s8 ⟨σ8,H8,I8,e8,q8⟩ => ?_
    refine cT (ht s3 H3 fp pins _ s8 σ8 H8 _ I8 q8) fun b s9 ⟨H9,I9,q9⟩ => ?_
    have again:∀ {Ha:Hp} {sa:Shared} {acc':List V} {m':Nat},Inv (blk X N' own scope s3 H3 fp pins) ([] ++ mj fp s7.heap) σ8 Ha sa -> m' < n -> W (i + 1) m' acc' Ha ->
      ∃ m,m < n ∧ ∃ i σ' H' acc,Inv (blk X N' own scope s3 H3 fp pins) [] σ' H' sa ∧ σ'.take σ.length = σ ∧ tn i sa.heap ∧ (∀ b ∈ fp,H' b = none) ∧ W i m acc H':=fun {Ha sa acc' m'} Ia hm wa => by
     refine ⟨m',hm,i + 1,σ8,Ha,acc',Ia.unpinned,e8,T.keep _ _ _ st7 fun b hb o e => (Ia.pin (b,o) (List.mem_append_right _ (List.mem_append_right _ (f7 hb e)))).1,fun b hb => ?_,wa⟩
     obtain ⟨o,e,d⟩:=T.obj _ _ st7 b hb
     exact (Ia.pin (b,o) (List.mem_append_right _ (List.mem_append_right _ (f7 hb e)))).2.1
    cases b with
    | false =>
     rw [if_neg Bool.false_ne_true] at q9 ⊢
     obtain ⟨m',hm,wa⟩:=q9
     exact again I9 hm wa
    | true =>
     rw [if_pos rfl] at q9 ⊢
     refine cT (he s3 H3 fp pins _ s9 σ8 H9 _ I9 q9) fun y s10 ⟨v,H10,I10,rv,a10,z10,m',hm,wa⟩ => ?_
     exact cT (ox _ s10 σ8 H10 (.ref l) [v] (.ref l) [y] (fun _ Hb => Hb = upd H10 l (.lst (acc ++ [v]))) I10 rfl (.cons rv .nil) ⟨l,acc,v,rfl,rfl,a10,z10,rfl⟩) fun _ s11 ⟨_,Hb,Ib,_,eb⟩ => by
      subst eb
      exact again Ib hm wa
  exact codeAny_compStart_list loop (T.self _ 0 _ _ _ st4 loop)
 exact goal
theorem A5 (hi:PI X tg iter wi) (hg:∀ s H fp pins,PG (blk X N' own scope s H fp pins) tg g) (ht:∀ s H fp pins,zV (blk X N' own scope s H fp pins) ifs tt) (he:∀ s H fp pins,PE (blk X N' own scope s H fp pins) elt te)
  (hS:iz N' own X.env.scope scope = true:=by rfl) (hM:hX X.N N' scope = true:=by rfl) (hk:scope.kind = .function:=by rfl) (hc:X.calm = true:=by rfl) (hs:∀ x,foldedSetIterable iter X.env x = pure x:=by intro _; rfl) :
  PE X (.ListComp elt [⟨tg,iter,ifs,0⟩] scope pos) (u5 wi own.length g tt te):= by
 intro pins s σ H Q I h
 rw [eval_ListComp]
 refine vb (use:=none) (cal:=fun X => X.calm = true) (fun _ _ _ _ => hc) hi.g hk hS hM hg ht he hs I h fun l H' s' C m I' q hn h1 h2 h3 h4 h5 => ?_
 refine ⟨m,hn,fun h' sb => ⟨.ref l,H',?_,rfl,q⟩⟩
 exact I'.turned (t':=s'.toks) (fun b o hb e => (sb.2 b hb).trans e) h1 h2 (.inr h3) h4 h5
theorem ue {i:Nat} {x:Str} {pos'' pos1:Pos} (hN:X.N.Nodup) (hx0:X.N[i]? = some x) (hx:X.env.scope.names.lookup x = some .local)
  (hi:PI X tg iter wi) (hg:∀ s H fp pins,PG (blk X N' own scope s H fp pins) tg g) (ht:∀ s H fp pins,zV (blk X N' own scope s H fp pins) ifs tt) (he:∀ s H fp pins,PE (blk X N' own scope s H fp pins) elt te)
  (hsw:swapsWith (.ListComp elt [⟨tg,iter,ifs,0⟩] scope pos) (some (.Name x pos'')) pos1.line X.env = pure true:=by rfl)
  (hS:iz N' own X.env.scope scope = true:=by rfl) (hM:hX X.N N' scope = true:=by rfl) (hk:scope.kind = .function:=by rfl) (hc:X.calm = true:=by rfl) (hs:∀ x,foldedSetIterable iter X.env x = pure x:=by intro _; rfl) :
  PS X (.Assign [.Name x pos''] (.ListComp elt [⟨tg,iter,ifs,0⟩] scope pos) pos1) (yB (u5 wi own.length g tt te) (qF i)):= by
 intro pins s σ H D I h
 rw [exec_Assign_Name_used _ _ _ _ hsw]
 refine wpAny_bind (wpAny_standAt (wpAny_bind ?_))
 show wpAny _ _ (do let _ <- comprehension (.ListComp elt [⟨tg,iter,ifs,0⟩] scope pos) scope X.env _ (newList []) false (eval iter X.env) (some (assign (.Name x pos'') X.env))) _ _ s
 refine wpAny_bind (wpAny_mono (Q:=fun _ s' => SP X pins D .next s') ?_ (fun _ s' hq => wpAny_pure (wpAny_pure hq)) fun _ _ e => e)
 refine vb (use:=some (assign (.Name x pos'') X.env)) (cal:=fun X => X.calm = true) (fun _ _ _ _ => hc) hi.g hk hS hM hg ht he hs I h fun l H' s' C m I' q hn h1 h2 h3 h4 h5 => ?_
 show wpAny _ _ (assign (.Name x pos'') X.env (.ref l)) _ _ s'
 refine wpAny_assign_Name (oo I' hN hx0 (.inl hx) (v:=.ref l) (u:=.ref l) rfl (fun s'' I'' hsb => ?_) (.inr hx))
 obtain ⟨a,sb,ha⟩:=hsb
 have hCa:C ≠ a:= by
  rcases ha with z | z
  ·rw [z]; exact h2
  ·exact Ne.symm (h4 _ _ z)
 refine ⟨m,hn.sameBut sb hCa,fun h' sb' => ⟨σ.set i (some (.ref l)),H',?_,q⟩⟩
 exact I''.turned (t':=s''.toks) (fun b o hb e => (sb'.2 b hb).trans e) h1 h2 (.inr h3) h4 h5
end
end L2
namespace Jt
open PySem L2
inductive D where
 | non | bl (b:Bool) | int (i:Int) | str (x:Str) | tup (xs:List D) | lst (xs:List D) | dct
def mR (a:Addr):HO:=.ext fun h => a ≠ sysModules ∧ ∃ o n,h.get? a = some o ∧ o.cls = .type "dict" ∧ o.data = .dict #[] n
mutual
def R (H:Hp):D -> V -> Prop
 | .non,v => v = .non
 | .bl b,v => v = .bl b
 | .int i,v => v = .int i
 | .str x,v => v = .str x
 | .tup ds,v => ∃ a vs,v = .ref a ∧ H a = some (.tup vs) ∧ Rs H ds vs
 | .lst ds,v => ∃ a vs,v = .ref a ∧ Rd H a (.lst vs) ∧ Rs H ds vs
 | .dct,v => ∃ a,v = .ref a ∧ H a = some (mR a)
def Rs (H:Hp):List D -> List V -> Prop
 | [],vs => vs = []
 | d :: ds,vs => ∃ v r,vs = v :: r ∧ R H d v ∧ Rs H ds r
end
theorem Rd.mono {H H':Hp} {a:Addr} {u:HO} (m:∀ b o,H b = some o -> H' b = some o) (h:Rd H a u):Rd H' a u:= by
 rcases h with h | ⟨o,h⟩
 ·exact .inl (m _ _ h)
 ·exact .inr ⟨o,m _ _ h⟩
mutual
theorem R.mono {H H':Hp} (m:∀ b o,H b = some o -> H' b = some o):∀ (d:D) (v:V),R H d v -> R H' d v
 | .non,v,h => by unfold R at *; exact h
 | .bl b,v,h => by unfold R at *; exact h
 | .int i,v,h => by unfold R at *; exact h
 | .str x,v,h => by unfold R at *; exact h
 | .tup ds,v,h => by
  unfold R at *
  obtain ⟨a,vs,e,h1,h2⟩:=h
  exact ⟨a,vs,e,m _ _ h1,Rs.mono m ds vs h2⟩
 | .lst ds,v,h => by
  unfold R at *
  obtain ⟨a,vs,e,h1,h2⟩:=h
  exact ⟨a,vs,e,Rd.mono m h1,Rs.mono m ds vs h2⟩
 | .dct,v,h => by
  unfold R at *
  obtain ⟨a,e,h1⟩:=h
  exact ⟨a,e,m _ _ h1⟩
theorem Rs.mono {H H':Hp} (m:∀ b o,H b = some o -> H' b = some o):∀ (ds:List D) (vs:List V),Rs H ds vs -> Rs H' ds vs
 | [],vs,h => by unfold Rs at *; exact h
 | d :: ds,vs,h => by
  unfold Rs at *
  obtain ⟨v,r,e,h1,h2⟩:=h
  exact ⟨v,r,e,R.mono m d v h1,Rs.mono m ds r h2⟩
end
theorem Rs.nil {H:Hp}:Rs H [] []:=by unfold Rs; rfl
theorem Rs.cons {H:Hp} {d:D} {v:V} {ds:List D} {vs:List V} (h:R H d v) (t:Rs H ds vs):Rs H (d :: ds) (v :: vs):= by
 unfold Rs; exact ⟨v,vs,rfl,h,t⟩
theorem Rs.inv {H:Hp} {d:D} {ds:List D} {vs:List V} (h:Rs H (d :: ds) vs):∃ v r,vs = v :: r ∧ R H d v ∧ Rs H ds r:= by
 unfold Rs at h; exact h
theorem Rs.inv0 {H:Hp} {vs:List V} (h:Rs H [] vs):vs = []:=by unfold Rs at h; exact h
theorem Rs.head {H:Hp} {d:D} {v:V} {ds:List D} {vs:List V} (h:Rs H (d :: ds) (v :: vs)):R H d v:= by
 obtain ⟨v',r,e,h1,h2⟩:=h.inv; cases e; exact h1
theorem Rs.tail {H:Hp} {d:D} {v:V} {ds:List D} {vs:List V} (h:Rs H (d :: ds) (v :: vs)):Rs H ds vs:= by
 obtain ⟨v',r,e,h1,h2⟩:=h.inv; cases e; exact h2
theorem Rs.length {H:Hp}:∀ {ds:List D} {vs:List V},Rs H ds vs -> vs.length = ds.length
 | [],vs,h => by rw [h.inv0]; rfl
 | d :: ds,vs,h => by
  obtain ⟨v,r,e,_,h2⟩:=h.inv
  subst e
  simp [Rs.length h2]
theorem Rs.append {H:Hp}:∀ {ds es:List D} {vs us:List V},Rs H ds vs -> Rs H es us -> Rs H (ds ++ es) (vs ++ us)
 | [],es,vs,us,h,t => by rw [h.inv0]; exact t
 | d :: ds,es,vs,us,h,t => by
  obtain ⟨v,r,e,h1,h2⟩:=h.inv
  subst e
  exact .cons h1 (Rs.append h2 t)
theorem Rs.left {H:Hp}:∀ {ds es:List D} {vs us:List V},vs.length = ds.length -> Rs H (ds ++ es) (vs ++ us) -> Rs H ds vs
 | [],es,[],us,_,h => .nil
 | d :: ds,es,v :: vs,us,l,h => .cons h.head (Rs.left (by simpa using l) h.tail)
 | [],_,_ :: _,_,l,_ => by cases l
 | _ :: _,_,[],_,l,_ => by cases l
theorem Rs.right {H:Hp}:∀ {ds es:List D} {vs us:List V},vs.length = ds.length -> Rs H (ds ++ es) (vs ++ us) -> Rs H es us
 | [],es,[],us,_,h => h
 | d :: ds,es,v :: vs,us,l,h => Rs.right (ds:=ds) (vs:=vs) (by simpa using l) h.tail
 | [],_,_ :: _,_,l,_ => by cases l
 | _ :: _,_,[],_,l,_ => by cases l
theorem Rs.get {H:Hp}:∀ {ds:List D} {vs:List V} {i:Nat} {d:D},Rs H ds vs -> ds[i]? = some d -> ∃ v,vs[i]? = some v ∧ R H d v
 | [],_,_,_,_,e => by simp at e
 | d :: ds,vs,0,d',h,e => by
  obtain ⟨v,r,e',h1,h2⟩:=h.inv
  subst e'
  simp at e; subst e
  exact ⟨v,rfl,h1⟩
 | d :: ds,vs,i + 1,d',h,e => by
  obtain ⟨v,r,e',h1,h2⟩:=h.inv
  subst e'
  obtain ⟨v',e2,h3⟩:=Rs.get (i:=i) h2 (by simpa using e)
  exact ⟨v',by simpa using e2,h3⟩
theorem R.tup {H:Hp} {ds:List D} {v:V} (h:R H (.tup ds) v):∃ a vs,v = .ref a ∧ H a = some (.tup vs) ∧ Rs H ds vs:=by unfold R at h; exact h
theorem R.lst {H:Hp} {ds:List D} {v:V} (h:R H (.lst ds) v):∃ a vs,v = .ref a ∧ Rd H a (.lst vs) ∧ Rs H ds vs:=by unfold R at h; exact h
theorem R.dct {H:Hp} {v:V} (h:R H .dct v):∃ a,v = .ref a ∧ H a = some (mR a):=by unfold R at h; exact h
theorem R.mkD {H:Hp} {a:Addr} (h:H a = some (mR a)):R H .dct (.ref a):=by unfold R; exact ⟨a,rfl,h⟩
theorem R.int {H:Hp} {i:Int} {v:V} (h:R H (.int i) v):v = .int i:=by unfold R at h; exact h
theorem R.bl {H:Hp} {i:Bool} {v:V} (h:R H (.bl i) v):v = .bl i:=by unfold R at h; exact h
theorem R.str {H:Hp} {i:Str} {v:V} (h:R H (.str i) v):v = .str i:=by unfold R at h; exact h
theorem R.non {H:Hp} {v:V} (h:R H .non v):v = .non:=by unfold R at h; exact h
theorem R.mkI {H:Hp} {i:Int}:R H (.int i) (.int i):=by unfold R; rfl
theorem R.mkB {H:Hp} {i:Bool}:R H (.bl i) (.bl i):=by unfold R; rfl
theorem R.mkS {H:Hp} {i:Str}:R H (.str i) (.str i):=by unfold R; rfl
theorem R.mkN {H:Hp}:R H .non .non:=by unfold R; rfl
theorem R.mkT {H:Hp} {a:Addr} {ds:List D} {vs:List V} (h:H a = some (.tup vs)) (t:Rs H ds vs):R H (.tup ds) (.ref a):=by unfold R; exact ⟨a,vs,rfl,h,t⟩
theorem R.mkL {H:Hp} {a:Addr} {ds:List D} {vs:List V} (h:Rd H a (.lst vs)) (t:Rs H ds vs):R H (.lst ds) (.ref a):=by unfold R; exact ⟨a,vs,rfl,h,t⟩
inductive Slot where
 | un | pu (d:D) | ow (b:Bool) (xs:List D)
abbrev DS:=List Slot
structure Ct where
 Z:Hp
 B:List Addr
 H0:Hp
def ur (δ:DS) (σ:St) (a:Addr):Prop:=∃ (i:Nat) (b:Bool) (xs:List D),δ[i]? = some (.ow b xs) ∧ σ[i]? = some (some (.ref a))
open Classical in
def Fb (p:Addr -> Prop) (H:Hp):Hp:=fun a => if p a then none else H a
def Hd (c:Ct) (δ:DS) (σ:St) (a:Addr):Prop:=(∃ o,c.Z a = some o) ∨ ur δ σ a
abbrev fI (c:Ct) (δ:DS) (σ:St) (H:Hp):Hp:=Fb (Hd c δ σ) H
theorem eY {p:Addr -> Prop} {H:Hp} {a:Addr} {o:HO}:Fb p H a = some o ↔ ¬ p a ∧ H a = some o:= by
 unfold Fb
 by_cases h:p a
 ·rw [if_pos h]; exact Iff.intro (fun z => nomatch z) (fun z => absurd h z.1)
 ·rw [if_neg h]; exact Iff.intro (fun z => And.intro h z) (fun z => z.2)
theorem bo {p q:Addr -> Prop} {H H':Hp} (hp:∀ a o,H a = some o -> q a -> p a) (hH:∀ a o,¬ p a -> H a = some o -> H' a = some o):∀ b o,Fb p H b = some o -> Fb q H' b = some o:=fun b o h => by
 obtain ⟨h1,h2⟩:=eY.mp h
 exact eY.mpr ⟨fun z => h1 (hp b o h2 z),hH b o h1 h2⟩
structure Sl (c:Ct) (δ:DS) (S:List D) (σ:St) (T:List V) (H:Hp):Prop where
 len:δ.length = σ.length
 pu:∀ (i:Nat) d,δ[i]? = some (.pu d) -> ∃ v,σ[i]? = some (some v) ∧ R (fI c δ σ H) d v
 ow:∀ (i:Nat) b xs,δ[i]? = some (.ow b xs) -> ∃ a vs,σ[i]? = some (some (.ref a)) ∧ H a = some (.lst vs) ∧ Rs (fI c δ σ H) xs vs ∧ (b = true -> a ∈ c.B) ∧ (b = false -> a ∉ c.B ∧ c.H0 a = none) ∧ c.Z a = none
 ne:∀ (i j:Nat) b b' xs ys a,δ[i]? = some (.ow b xs) -> δ[j]? = some (.ow b' ys) -> σ[i]? = some (some (.ref a)) -> σ[j]? = some (some (.ref a)) -> i = j
 st:Rs (fI c δ σ H) S T
 keep:∀ b o,b ∉ c.B -> c.H0 b = some o -> H b = some o
 bb:∀ b ∈ c.B,∃ o,H b = some o
 zz:∀ a o,c.Z a = some o -> H a = some o
section
variable {c:Ct} {δ:DS} {S:List D} {σ:St} {T:List V} {H:Hp}
theorem Sl.hdSome (s:Sl c δ S σ T H) {a:Addr} (h:Hd c δ σ a):∃ o,H a = some o:= by
 rcases h with ⟨o,h⟩ | ⟨i,b,xs,h1,h2⟩
 ·exact ⟨o,s.zz _ _ h⟩
 ·obtain ⟨a',vs,e,h3,_⟩:=s.ow i b xs h1
  rw [h2] at e; cases e
  exact ⟨_,h3⟩
theorem Sl.stk (s:Sl c δ S σ T H) {S':List D} {T':List V} (h:Rs (fI c δ σ H) S' T'):Sl c δ S' σ T' H:=⟨s.len,s.pu,s.ow,s.ne,h,s.keep,s.bb,s.zz⟩
theorem Sl.pop {d:D} {v:V} (s:Sl c δ (d :: S) σ (v :: T) H):Sl c δ S σ T H:=s.stk s.st.tail
theorem Sl.grow (s:Sl c δ S σ T H) {H':Hp} (g:xq H H'):Sl c δ S σ T H':= by
 have m:∀ b o,fI c δ σ H b = some o -> fI c δ σ H' b = some o:=bo (fun _ _ _ z => z) fun a o _ h => g a o h
 refine ⟨s.len,fun i d h => ?_,fun i b xs h => ?_,s.ne,s.st.mono m,fun b o h1 h2 => g _ _ (s.keep b o h1 h2),fun b hb => ?_,fun a o hz => g _ _ (s.zz a o hz)⟩
 ·obtain ⟨v,e,r⟩:=s.pu i d h
  exact ⟨v,e,r.mono m⟩
 ·obtain ⟨a,vs,e,h1,h2,h3⟩:=s.ow i b xs h
  exact ⟨a,vs,e,g _ _ h1,h2.mono m,h3⟩
 ·obtain ⟨o,h⟩:=s.bb b hb
  exact ⟨o,g _ _ h⟩
theorem gZ {H:Hp} {p:Addr} (h:H p = none) (o:HO):xq H (upd H p o):=fun b u q => by rw [az (cm q h)]; exact q
theorem Sl.hdNew (s:Sl c δ S σ T H) {p:Addr} (h:H p = none):¬ Hd c δ σ p:=fun z => by
 obtain ⟨o,e⟩:=s.hdSome z
 rw [h] at e; cases e
theorem Sl.fresh (s:Sl c δ S σ T H) {p:Addr} (h:H p = none):c.Z p = none ∧ p ∉ c.B ∧ c.H0 p = none:= by
 have hB:p ∉ c.B:=fun z => by
  obtain ⟨o,e⟩:=s.bb p z
  rw [h] at e; cases e
 refine ⟨?_,hB,?_⟩
 ·cases e:c.Z p with
  | none => rfl
  | some o => have:=s.zz p o e; rw [h] at this; cases this
 ·cases e:c.H0 p with
  | none => rfl
  | some o => have:=s.keep p o hB e; rw [h] at this; cases this
theorem Sl.newTup {ds:List D} {vs:List V} (s:Sl c δ (ds ++ S) σ (vs ++ T) H) (l:vs.length = ds.length) {p:Addr} (h:H p = none):Sl c δ (.tup ds :: S) σ (.ref p :: T) (upd H p (.tup vs)):= by
 have s':=s.grow (gZ h (.tup vs))
 exact s'.stk (.cons (.mkT (eY.mpr ⟨s.hdNew h,aQ⟩) (s'.st.left l)) (s'.st.right l))
theorem Sl.hide (s:Sl c δ S σ T H) {p:Addr} {o:HO} (h:H p = none):Sl { c with Z:=upd c.Z p o } δ S σ T (upd H p o):= by
 have g:=gZ h o
 have m:∀ b u,fI c δ σ H b = some u -> fI { c with Z:=upd c.Z p o } δ σ (upd H p o) b = some u:=bo (fun a u e z => by
  rcases z with ⟨w,z⟩ | z
  ·have:a ≠ p:=fun q => by rw [q,h] at e; cases e
   exact .inl ⟨w,(show c.Z a = upd c.Z p o a from (az this).symm).trans z⟩
  ·exact .inr z) fun a u _ e => g a u e
 refine ⟨s.len,fun i d e => ?_,fun i b xs e => ?_,s.ne,s.st.mono m,fun b u h1 h2 => g _ _ (s.keep b u h1 h2),fun b hb => ?_,fun a u hz => ?_⟩
 ·obtain ⟨v,e,r⟩:=s.pu i d e
  exact ⟨v,e,r.mono m⟩
 ·obtain ⟨a,vs,e,h1,h2,h3,h4,h5⟩:=s.ow i b xs e
  refine ⟨a,vs,e,g _ _ h1,h2.mono m,h3,h4,?_⟩
  show upd c.Z p o a = none
  rw [az fun q => by rw [q,h] at h1; cases h1]; exact h5
 ·obtain ⟨u,e⟩:=s.bb b hb
  exact ⟨u,g _ _ e⟩
 ·have hz':upd c.Z p o a = some u:=hz
  by_cases q:a = p
  ·subst q; rw [aQ] at hz' ⊢; exact hz'
  ·rw [az q] at hz' ⊢; exact s.zz a u hz'
theorem Sl.noOw {p:Addr} {o:HO} (s:Sl { c with Z:=upd c.Z p o } δ S σ T H):¬ ur δ σ p:=fun ⟨i,b,xs,h1,h2⟩ => by
 obtain ⟨a,vs,e,_,_,_,_,h4⟩:=s.ow i b xs h1
 rw [h2] at e; cases e
 have h4':upd c.Z p o p = none:=h4
 rw [aQ] at h4'; cases h4'
theorem Sl.hideSet {p:Addr} {o:HO} (o':HO) (s:Sl { c with Z:=upd c.Z p o } δ S σ T H) (hB:p ∉ c.B) (h0:c.H0 p = none):Sl { c with Z:=upd c.Z p o' } δ S σ T (upd H p o'):= by
 have hpH:H p = some o:=s.zz p o aQ
 have npow:=s.noOw
 have m:∀ b u,fI { c with Z:=upd c.Z p o } δ σ H b = some u -> fI { c with Z:=upd c.Z p o' } δ σ (upd H p o') b = some u:=bo (fun a u e z => by
  rcases z with ⟨w,z⟩ | z
  ·have z':upd c.Z p o' a = some w:=z
   by_cases q:a = p
   ·subst q; exact .inl ⟨o,aQ⟩
   ·rw [az q] at z'; exact .inl ⟨w,by show upd c.Z p o a = some w; rw [az q]; exact z'⟩
  ·exact .inr z) fun a u ha e => by
   have:a ≠ p:=fun z => ha (.inl ⟨o,by rw [z]; exact aQ⟩)
   rw [az this]; exact e
 refine ⟨s.len,fun i d e => ?_,fun i b xs e => ?_,s.ne,s.st.mono m,fun b u h1 h2 => ?_,fun b hb => ?_,fun a u hz => ?_⟩
 ·obtain ⟨v,e,r⟩:=s.pu i d e
  exact ⟨v,e,r.mono m⟩
 ·have hx:=e
  obtain ⟨a,vs,e,h1,h2,h3,h4,h5⟩:=s.ow i b xs e
  have hap:a ≠ p:=fun z => npow ⟨i,b,xs,hx,by rw [e,z]⟩
  refine ⟨a,vs,e,by rw [az hap]; exact h1,h2.mono m,h3,h4,?_⟩
  have h5':upd c.Z p o a = none:=h5
  show upd c.Z p o' a = none
  rw [az hap] at h5' ⊢; exact h5'
 ·have:b ≠ p:=fun z => by
   have h2':c.H0 b = some u:=h2
   rw [z,h0] at h2'; cases h2'
  rw [az this]; exact s.keep b u h1 h2
 ·have:b ≠ p:=fun z => hB (z ▸ hb)
  rw [az this]; exact s.bb b hb
 ·have hz':upd c.Z p o' a = some u:=hz
  by_cases q:a = p
  ·subst q; rw [aQ] at hz' ⊢; exact hz'
  ·rw [az q] at hz' ⊢; exact s.zz a u (by show upd c.Z p o a = some u; rw [az q]; exact hz')
theorem Sl.unhideL {p:Addr} {xs:List D} {vs:List V} (s:Sl { c with Z:=upd c.Z p (.lst vs) } δ (xs ++ S) σ (vs ++ T) H) (l:vs.length = xs.length) (hp:c.Z p = none):Sl c δ (.lst xs :: S) σ (.ref p :: T) H:= by
 have hpH:H p = some (.lst vs):=s.zz p _ aQ
 have npow:=s.noOw
 have zc:∀ a u,c.Z a = some u -> upd c.Z p (.lst vs) a = some u:=fun a u h => by rw [az fun q => by rw [q,hp] at h; cases h]; exact h
 have m:∀ b u,fI { c with Z:=upd c.Z p (.lst vs) } δ σ H b = some u -> fI c δ σ H b = some u:=bo (fun a u e z => by
  rcases z with ⟨w,z⟩ | z
  ·exact .inl ⟨w,zc a w z⟩
  ·exact .inr z) fun a u ha e => e
 refine ⟨s.len,fun i d e => ?_,fun i b xs e => ?_,s.ne,.cons (.mkL (.inl (eY.mpr ⟨fun z => ?_,hpH⟩)) ((s.st.left l).mono m)) ((s.st.right l).mono m),s.keep,s.bb,fun a u hz => s.zz a u (zc a u hz)⟩
 ·obtain ⟨v,e,r⟩:=s.pu i d e
  exact ⟨v,e,r.mono m⟩
 ·obtain ⟨a,vs',e,h1,h2,h3,h4,h5⟩:=s.ow i b xs e
  refine ⟨a,vs',e,h1,h2.mono m,h3,h4,?_⟩
  have h5':upd c.Z p (.lst vs) a = none:=h5
  by_cases q:a = p
  ·rw [q]; exact hp
  ·rwa [az q] at h5'
 ·rcases z with ⟨u,z⟩ | z
  ·rw [hp] at z; cases z
  ·exact npow z
theorem Sl.setPu {d:D} {v:V} {i:Nat} (s:Sl c δ (d :: S) σ (v :: T) H) (hi:i < δ.length):Sl c (δ.set i (.pu d)) S (σ.set i (some v)) T H:= by
 have ow':∀ a,ur (δ.set i (.pu d)) (σ.set i (some v)) a -> ur δ σ a:=fun a ⟨j,b,xs,h1,h2⟩ => by
  by_cases e:i = j
  ·subst e; rw [List.getElem?_set_self hi] at h1; cases h1
  ·rw [List.getElem?_set_ne e] at h1 h2; exact ⟨j,b,xs,h1,h2⟩
 have m:∀ b u,fI c δ σ H b = some u -> fI c (δ.set i (.pu d)) (σ.set i (some v)) H b = some u:=bo (fun a u e z => z.elim .inl fun z => .inr (ow' a z)) fun a u _ e => e
 refine ⟨by simpa using s.len,fun j d' h => ?_,fun j b xs h => ?_,fun j k b b' xs ys a h1 h2 h3 h4 => ?_,s.st.tail.mono m,s.keep,s.bb,s.zz⟩
 ·by_cases e:i = j
  ·subst e
   rw [List.getElem?_set_self hi] at h; cases h
   exact ⟨v,by rw [List.getElem?_set_self (by rw [<- s.len]; exact hi)],s.st.head.mono m⟩
  ·rw [List.getElem?_set_ne e] at h ⊢
   obtain ⟨v',e',r⟩:=s.pu j d' h
   exact ⟨v',e',r.mono m⟩
 ·by_cases e:i = j
  ·subst e; rw [List.getElem?_set_self hi] at h; cases h
  ·rw [List.getElem?_set_ne e] at h ⊢
   obtain ⟨a,vs,e,h1,h2,h3⟩:=s.ow j b xs h
   exact ⟨a,vs,e,h1,h2.mono m,h3⟩
 ·by_cases e:i = j
  ·subst e; rw [List.getElem?_set_self hi] at h1; cases h1
  ·by_cases e':i = k
   ·subst e'; rw [List.getElem?_set_self hi] at h2; cases h2
   ·rw [List.getElem?_set_ne e] at h1 h3; rw [List.getElem?_set_ne e'] at h2 h4
    exact s.ne j k b b' xs ys a h1 h2 h3 h4
theorem Sl.setOw {p:Addr} {xs:List D} {vs:List V} {i:Nat} (s:Sl { c with Z:=upd c.Z p (.lst vs) } δ (xs ++ S) σ (vs ++ T) H) (l:vs.length = xs.length) (hp:c.Z p = none) (hB:p ∉ c.B) (h0:c.H0 p = none) (hi:i < δ.length) :
  Sl c (δ.set i (.ow false xs)) S (σ.set i (some (.ref p))) T H:= by
 have hpH:H p = some (.lst vs):=s.zz p _ aQ
 have npow:∀ (j:Nat) b ys,δ[j]? = some (.ow b ys) -> σ[j]? ≠ some (some (.ref p)):=fun j b ys h1 h2 => s.noOw ⟨j,b,ys,h1,h2⟩
 have zc:∀ a u,c.Z a = some u -> upd c.Z p (.lst vs) a = some u:=fun a u h => by rw [az fun q => by rw [q,hp] at h; cases h]; exact h
 have hiσ:i < σ.length:=by rw [<- s.len]; exact hi
 have m:∀ b u,fI { c with Z:=upd c.Z p (.lst vs) } δ σ H b = some u -> fI c (δ.set i (.ow false xs)) (σ.set i (some (.ref p))) H b = some u:=bo (fun a u e z => by
  rcases z with ⟨w,z⟩ | ⟨j,b,ys,h1,h2⟩
  ·exact .inl ⟨w,zc a w z⟩
  ·by_cases e:i = j
   ·subst e
    rw [List.getElem?_set_self hiσ] at h2; cases h2
    exact .inl ⟨_,aQ⟩
   ·rw [List.getElem?_set_ne e] at h1 h2; exact .inr ⟨j,b,ys,h1,h2⟩) fun a u _ e => e
 refine ⟨by simpa using s.len,fun j d' h => ?_,fun j b ys h => ?_,fun j k b b' ys zs a h1 h2 h3 h4 => ?_,(s.st.right l).mono m,s.keep,s.bb,fun a u hz => s.zz a u (zc a u hz)⟩
 ·by_cases e:i = j
  ·subst e; rw [List.getElem?_set_self hi] at h; cases h
  ·rw [List.getElem?_set_ne e] at h ⊢
   obtain ⟨v',e',r⟩:=s.pu j d' h
   exact ⟨v',e',r.mono m⟩
 ·by_cases e:i = j
  ·subst e
   rw [List.getElem?_set_self hi] at h; cases h
   exact ⟨p,vs,by rw [List.getElem?_set_self hiσ],hpH,(s.st.left l).mono m,(fun z => absurd z Bool.false_ne_true),(fun _ => ⟨hB,h0⟩),hp⟩
  ·rw [List.getElem?_set_ne e] at h ⊢
   have hx:=h
   obtain ⟨a,ws,e,h1,h2,h3,h4,h5⟩:=s.ow j b ys h
   refine ⟨a,ws,e,h1,h2.mono m,h3,h4,?_⟩
   have h5':upd c.Z p (.lst vs) a = none:=h5
   rwa [az fun q => npow j b ys hx (by rw [e,q])] at h5'
 ·by_cases e:i = j
  ·subst e
   rw [List.getElem?_set_self hiσ] at h3; cases h3
   by_cases e':i = k
   ·exact e'
   ·rw [List.getElem?_set_ne e'] at h2 h4
    exact absurd h4 (npow k b' zs h2)
  ·rw [List.getElem?_set_ne e] at h1 h3
   by_cases e':i = k
   ·subst e'
    rw [List.getElem?_set_self hiσ] at h4; cases h4
    exact absurd h3 (npow j b ys h1)
   ·rw [List.getElem?_set_ne e'] at h2 h4
    exact s.ne j k b b' ys zs a h1 h2 h3 h4
theorem Sl.giveOw {a:Addr} {xs:List D} {i:Nat} (s:Sl c δ S σ T H) (hi:δ[i]? = some (.ow false xs)) (ha:σ[i]? = some (some (.ref a))) :
  ∃ vs,vs.length = xs.length ∧ Sl { c with Z:=upd c.Z a (.lst vs) } (δ.set i .un) (xs ++ S) σ (vs ++ T) H ∧ c.Z a = none ∧ a ∉ c.B ∧ c.H0 a = none:= by
 have hiδ:i < δ.length:=(List.getElem?_eq_some_iff.mp hi).1
 obtain ⟨a',vs,e,hH,hv,_,hB,hZ⟩:=s.ow i false xs hi
 rw [ha] at e; cases e
 have owi:∀ b,ur (δ.set i .un) σ b -> ur δ σ b ∧ b ≠ a:=fun b ⟨j,bb,ys,h1,h2⟩ => by
  by_cases e:i = j
  ·subst e; rw [List.getElem?_set_self hiδ] at h1; cases h1
  ·rw [List.getElem?_set_ne e] at h1
   exact ⟨⟨j,bb,ys,h1,h2⟩,fun q => e (s.ne i j _ _ _ _ a hi h1 ha (by rw [h2,q]))⟩
 have m:∀ b u,fI c δ σ H b = some u -> fI { c with Z:=upd c.Z a (.lst vs) } (δ.set i .un) σ H b = some u:=bo (fun b u e z => by
  rcases z with ⟨w,z⟩ | z
  ·by_cases q:b = a
   ·subst q; exact .inr ⟨i,false,xs,hi,ha⟩
   ·exact .inl ⟨w,(show c.Z b = upd c.Z a (.lst vs) b from (az q).symm).trans z⟩
  ·exact .inr (owi b z).1) fun b u _ e => e
 refine ⟨vs,hv.length,⟨by simpa using s.len,fun j d h => ?_,fun j b ys h => ?_,fun j k b b' ys zs x h1 h2 h3 h4 => ?_,(hv.append s.st).mono m,s.keep,s.bb,fun x u hz => ?_⟩,hZ,(hB rfl).1,(hB rfl).2⟩
 ·have e:i ≠ j:=fun e => by subst e; rw [List.getElem?_set_self hiδ] at h; cases h
  rw [List.getElem?_set_ne e] at h
  obtain ⟨v',e',r⟩:=s.pu j d h
  exact ⟨v',e',r.mono m⟩
 ·have e:i ≠ j:=fun e => by subst e; rw [List.getElem?_set_self hiδ] at h; cases h
  rw [List.getElem?_set_ne e] at h
  obtain ⟨b1,ws,e',h1,h2,h3,h4,h5⟩:=s.ow j b ys h
  refine ⟨b1,ws,e',h1,h2.mono m,h3,h4,?_⟩
  show upd c.Z a (.lst vs) b1 = none
  rw [az fun q => e (s.ne i j _ _ _ _ a hi h ha (by rw [e',q]))]; exact h5
 ·have g:∀ (j:Nat) b ys,(δ.set i Slot.un)[j]? = some (.ow b ys) -> δ[j]? = some (.ow b ys):=fun j b ys h => by
   have e:i ≠ j:=fun e => by subst e; rw [List.getElem?_set_self hiδ] at h; cases h
   rwa [List.getElem?_set_ne e] at h
  exact s.ne j k b b' ys zs x (g _ _ _ h1) (g _ _ _ h2) h3 h4
 ·have hz':upd c.Z a (.lst vs) x = some u:=hz
  by_cases q:x = a
  ·subst q; rw [aQ] at hz'; cases hz'; exact hH
  ·rw [az q] at hz'; exact s.zz x u hz'
theorem Sl.mut {a:Addr} {b0:Bool} {xs xs':List D} {vs':List V} {i:Nat} (s:Sl c δ S σ T H) (hi:δ[i]? = some (.ow b0 xs)) (ha:σ[i]? = some (some (.ref a))) (hv:Rs (fI c δ σ H) xs' vs') :
  Sl c (δ.set i (.ow b0 xs')) S σ T (upd H a (.lst vs')):= by
 have hiδ:i < δ.length:=(List.getElem?_eq_some_iff.mp hi).1
 obtain ⟨a',vs,e,hH,_,hB,hB',hZ⟩:=s.ow i b0 xs hi
 rw [ha] at e; cases e
 have owi:∀ b,ur (δ.set i (.ow b0 xs')) σ b -> ur δ σ b:=fun b ⟨j,bb,ys,h1,h2⟩ => by
  by_cases e:i = j
  ·subst e; exact ⟨i,b0,xs,hi,h2⟩
  ·rw [List.getElem?_set_ne e] at h1; exact ⟨j,bb,ys,h1,h2⟩
 have m:∀ b u,fI c δ σ H b = some u -> fI c (δ.set i (.ow b0 xs')) σ (upd H a (.lst vs')) b = some u:=bo (fun b u e z => z.elim .inl fun z => .inr (owi b z)) fun b u hb e => by
  have:b ≠ a:=fun z => hb (.inr ⟨i,b0,xs,hi,by rw [z]; exact ha⟩)
  rw [az this]; exact e
 refine ⟨by simpa using s.len,fun j d' h => ?_,fun j b ys h => ?_,fun j k b b' ys zs x h1 h2 h3 h4 => ?_,s.st.mono m,fun b u h1 h2 => ?_,fun b hb => ?_,fun x u hz => ?_⟩
 ·have e:i ≠ j:=fun e => by subst e; rw [List.getElem?_set_self hiδ] at h; cases h
  rw [List.getElem?_set_ne e] at h
  obtain ⟨v',e',r⟩:=s.pu j d' h
  exact ⟨v',e',r.mono m⟩
 ·by_cases e:i = j
  ·subst e
   rw [List.getElem?_set_self hiδ] at h; cases h
   exact ⟨a,vs',ha,aQ,hv.mono m,hB,hB',hZ⟩
  ·rw [List.getElem?_set_ne e] at h
   obtain ⟨b1,ws,e',h1,h2,h3⟩:=s.ow j b ys h
   have:b1 ≠ a:=fun z => e (s.ne i j _ _ xs ys a hi h ha (by rw [e',z]))
   exact ⟨b1,ws,e',by rw [az this]; exact h1,h2.mono m,h3⟩
 ·have g:∀ (j:Nat) b ys,(δ.set i (.ow b0 xs'))[j]? = some (.ow b ys) -> ∃ b ys,δ[j]? = some (.ow b ys):=fun j b ys h => by
   by_cases e:i = j
   ·subst e; exact ⟨b0,xs,hi⟩
   ·rw [List.getElem?_set_ne e] at h; exact ⟨b,ys,h⟩
  obtain ⟨c1,ys',h1⟩:=g j b ys h1
  obtain ⟨c2,zs',h2⟩:=g k b' zs h2
  exact s.ne j k c1 c2 ys' zs' x h1 h2 h3 h4
 ·have:b ≠ a:=fun z => by
   subst z
   cases b0 with
   | true => exact h1 (hB rfl)
   | false => rw [(hB' rfl).2] at h2; cases h2
  rw [az this]; exact s.keep b u h1 h2
 ·by_cases e:b = a
  ·subst e; exact ⟨_,aQ⟩
  ·rw [az e]; exact s.bb b hb
 ·have:x ≠ a:=fun e => by rw [e,hZ] at hz; cases hz
  rw [az this]; exact s.zz x u hz
theorem Sl.ext (s:Sl c δ S σ T H) (k:Nat):Sl c (δ ++ List.replicate k .un) S (σ ++ List.replicate k none) T H:= by
 have g:∀ (i:Nat) x,(δ ++ List.replicate k Slot.un)[i]? = some x -> x ≠ .un -> δ[i]? = some x:=fun i x h n => by
  by_cases hi:i < δ.length
  ·rwa [List.getElem?_append_left hi] at h
  ·rw [List.getElem?_append_right (by omega),List.getElem?_replicate] at h
   split at h
   ·exact absurd (Option.some.inj h).symm n
   ·cases h
 have gσ:∀ (i:Nat) x,δ[i]? = some x -> (σ ++ List.replicate k none)[i]? = σ[i]?:=fun i x h => by
  rw [List.getElem?_append_left (by rw [<- s.len]; exact (List.getElem?_eq_some_iff.mp h).1)]
 have ow':∀ a,ur (δ ++ List.replicate k .un) (σ ++ List.replicate k none) a -> ur δ σ a:=fun a ⟨j,b,xs,h1,h2⟩ => by
  have h1':=g j _ h1 (by simp)
  rw [gσ j _ h1'] at h2
  exact ⟨j,b,xs,h1',h2⟩
 have m:∀ b u,fI c δ σ H b = some u -> fI c (δ ++ List.replicate k .un) (σ ++ List.replicate k none) H b = some u:=bo (fun a u e z => z.elim .inl fun z => .inr (ow' a z)) fun a u _ e => e
 refine ⟨by simp [s.len],fun j d' h => ?_,fun j b xs h => ?_,fun j l b b' xs ys a h1 h2 h3 h4 => ?_,s.st.mono m,s.keep,s.bb,s.zz⟩
 ·have h':=g j _ h (by simp)
  obtain ⟨v,e,r⟩:=s.pu j d' h'
  exact ⟨v,by rw [gσ j _ h']; exact e,r.mono m⟩
 ·have h':=g j _ h (by simp)
  obtain ⟨a,vs,e,h1,h2,h3⟩:=s.ow j b xs h'
  exact ⟨a,vs,by rw [gσ j _ h']; exact e,h1,h2.mono m,h3⟩
 ·have h1':=g j _ h1 (by simp)
  have h2':=g l _ h2 (by simp)
  rw [gσ j _ h1'] at h3; rw [gσ l _ h2'] at h4
  exact s.ne j l b b' xs ys a h1' h2' h3 h4
theorem Sl.cut (s:Sl c δ S σ T H) (n:Nat):Sl c (δ.take n) S (σ.take n) T H:= by
 have g:∀ (i:Nat) x,(δ.take n)[i]? = some x -> i < n ∧ δ[i]? = some x:=fun i x h => by
  have hi:i < n:= by
   have:=(List.getElem?_eq_some_iff.mp h).1
   rw [List.length_take] at this; omega
  exact ⟨hi,by rwa [List.getElem?_take_of_lt hi] at h⟩
 have ow':∀ a,ur (δ.take n) (σ.take n) a -> ur δ σ a:=fun a ⟨j,b,xs,h1,h2⟩ => by
  obtain ⟨hj,h1'⟩:=g j _ h1
  rw [List.getElem?_take_of_lt hj] at h2
  exact ⟨j,b,xs,h1',h2⟩
 have m:∀ b u,fI c δ σ H b = some u -> fI c (δ.take n) (σ.take n) H b = some u:=bo (fun a u e z => z.elim .inl fun z => .inr (ow' a z)) fun a u _ e => e
 refine ⟨by simp [s.len],fun j d' h => ?_,fun j b xs h => ?_,fun j l b b' xs ys a h1 h2 h3 h4 => ?_,s.st.mono m,s.keep,s.bb,s.zz⟩
 ·obtain ⟨hj,h'⟩:=g j _ h
  obtain ⟨v,e,r⟩:=s.pu j d' h'
  exact ⟨v,by rw [List.getElem?_take_of_lt hj]; exact e,r.mono m⟩
 ·obtain ⟨hj,h'⟩:=g j _ h
  obtain ⟨a,vs,e,h1,h2,h3⟩:=s.ow j b xs h'
  exact ⟨a,vs,by rw [List.getElem?_take_of_lt hj]; exact e,h1,h2.mono m,h3⟩
 ·obtain ⟨hj,h1'⟩:=g j _ h1
  obtain ⟨hl,h2'⟩:=g l _ h2
  rw [List.getElem?_take_of_lt hj] at h3; rw [List.getElem?_take_of_lt hl] at h4
  exact s.ne j l b b' xs ys a h1' h2' h3 h4
end
end Jt
namespace Jt
open PySem L2
def M (α:Type):=DS -> Option (α × DS)
instance:Monad M where
 pure a:=fun s => some (a,s)
 bind x f:=fun s => match x s with
  | none => none
  | some (a,s') => f a s'
def lift {α:Type} (o:Option α):M α:=fun s => match o with
 | none => none
 | some a => some (a,s)
theorem M.bind_def {α β:Type} (x:M α) (f:α -> M β) (s:DS):(x >>= f) s = (match x s with | none => none | some (a,s') => f a s'):=rfl
theorem M.pure_def {α:Type} (a:α) (s:DS):(pure a:M α) s = some (a,s):=rfl
inductive JB {α β:Type} (x:M α) (f:α -> M β) (s:DS) (b:β) (s2:DS):Prop
 | mk (a:α) (s1:DS) (e1:x s = some (a,s1)) (e2:f a s1 = some (b,s2)):JB x f s b s2
theorem bind_some {α β:Type} {x:M α} {f:α -> M β} {s:DS} {b:β} {s2:DS} (h:(x >>= f) s = some (b,s2)):JB x f s b s2:= by
 rw [M.bind_def] at h
 cases e:x s with
 | none => rw [e] at h; cases h
 | some p => obtain ⟨a,s1⟩:=p; rw [e] at h; exact ⟨a,s1,e,h⟩
theorem aq {α:Type} {a b:α} {s s':DS} (h:(pure a:M α) s = some (b,s')):a = b ∧ s = s':= by
 rw [M.pure_def] at h; cases h; exact ⟨rfl,rfl⟩
theorem aA {α:Type} {o:Option α} {b:α} {s s':DS} (h:lift o s = some (b,s')):o = some b ∧ s = s':= by
 unfold lift at h
 cases o with
 | none => cases h
 | some a => cases h; exact ⟨rfl,rfl⟩
theorem bf {p:Addr -> Prop} {H:Hp}:∀ b o,Fb p H b = some o -> H b = some o:=fun b o h => (eY.mp h).2
inductive tM (f:M D) (σ:St) (H:Hp) (Q:VK):Prop
 | mk (c:Ct) (δ:DS) (S:List D) (T:List V) (d:D) (δ':DS) (s:Sl c δ S σ T H) (e:f δ = some (d,δ')) (q:∀ v H',Sl c δ' (d :: S) σ (v :: T) H' -> Q v H'):tM f σ H Q
inductive z_ (f:M Bool) (σ:St) (H:Hp) (Q:Bool -> Hp -> Prop):Prop
 | mk (c:Ct) (δ:DS) (S:List D) (T:List V) (b:Bool) (δ':DS) (s:Sl c δ S σ T H) (e:f δ = some (b,δ')) (q:∀ H',Sl c δ' S σ T H' -> Q b H'):z_ f σ H Q
inductive H_ (f:M (List D)) (σ:St) (H:Hp) (Q:List V -> Hp -> Prop):Prop
 | mk (c:Ct) (δ:DS) (S:List D) (T:List V) (ds:List D) (δ':DS) (s:Sl c δ S σ T H) (e:f δ = some (ds,δ')) (q:∀ vs H',vs.length = ds.length -> Sl c δ' (ds ++ S) σ (vs ++ T) H' -> Q vs H'):H_ f σ H Q
inductive FV (f:M (List D)) (σ:St) (H:Hp) (Q:VK):Prop
 | mk (c:Ct) (δ:DS) (S:List D) (T:List V) (xs:List D) (δ':DS) (s:Sl c δ S σ T H) (e:f δ = some (xs,δ')) (q:∀ l vs H',vs.length = xs.length -> Sl { c with Z:=upd c.Z l (.lst vs) } δ' (xs ++ S) σ (vs ++ T) H' -> c.Z l = none -> l ∉ c.B -> c.H0 l = none -> Q (.ref l) H'):FV f σ H Q
abbrev DE (X:Cx) (e:Expr) (f:M D):Prop:=PE X e (tM f)
abbrev DT (X:Cx) (e:Expr) (f:M Bool):Prop:=PT X e (z_ f)
abbrev DW (X:Cx) (e:Expr) (f:M Bool):Prop:=PW X e (z_ f)
abbrev DA (X:Cx) (es:List Expr) (f:M (List D)):Prop:=PA X es (H_ f)
abbrev DF (X:Cx) (e:Expr) (f:M (List D)):Prop:=PE X e (FV f)
theorem cG {X:Cx} {e:Expr} {t t':TE} (h:PE X e t) (w:∀ σ H Q,t' σ H Q -> t σ H Q):PE X e t':=fun pins s σ H Q I q => h pins s σ H Q I (w σ H Q q)
theorem t8 {X:Cx} {e:Expr} {t t':TT} (h:PT X e t) (w:∀ σ H Q,t' σ H Q -> t σ H Q):PT X e t':=fun pins s σ H Q I q => h pins s σ H Q I (w σ H Q q)
theorem Hi {X:Cx} {e:Expr} {t t':TT} (h:PW X e t) (w:∀ σ H Q,t' σ H Q -> t σ H Q):PW X e t':=fun wh pins s σ H Q I q => h wh pins s σ H Q I (w σ H Q q)
theorem G4 {X:Cx} {e:List Expr} {t t':TA} (h:PA X e t) (w:∀ σ H Q,t' σ H Q -> t σ H Q):PA X e t':=fun ps pins s σ H Q I q => h ps pins s σ H Q I (w σ H Q q)
section
variable {X:Cx} {a b e:Expr} {fa fb:M D} {pos:Pos}
def ah (i:Nat):M D:=fun δ => match δ[i]? with
 | some (.pu d) => some (d,δ)
 | _ => none
theorem oA {i:Nat} {δ δ':DS} {d:D} (h:ah i δ = some (d,δ')):δ[i]? = some (.pu d) ∧ δ = δ':= by
 unfold ah at h
 split at h
 ·rename_i d0 e; cases h; exact ⟨e,rfl⟩
 ·cases h
theorem ab (i:Nat) {x:Str} {pos:Pos} (hN:X.N[i]? = some x:=by rfl) (hv:ug X.env.scope x:=by first | exact Or.inl rfl | exact Or.inr (Or.inl rfl) | exact Or.inr (Or.inr rfl)) (hd:(x == ("__debug__":Str)) = false:=by decide)
  (hcd:(x == ("__classdict__":Str)) = false:=by decide):DE X (.Name x pos) (ah i):=cG (eJ hN hv hd hcd) fun σ H Q ⟨c,δ,S,T,d,δ',s,e,k⟩ => by
 obtain ⟨e',rfl⟩:=oA e
 obtain ⟨v,ev,r⟩:=s.pu i d e'
 exact ⟨v,ev,k v H (s.stk (.cons r s.st))⟩
theorem G0 {e:Expr} {v:V} {d:D} (h:PE X e (tC v)) (r:∀ H,R H d v):DE X e (pure d):=cG h fun σ H Q ⟨c,δ,S,T,d',δ',s,e,k⟩ => by
 obtain ⟨rfl,rfl⟩:=aq e
 exact k v H (s.stk (.cons (r _) s.st))
theorem aj {i:Int} {j pos}:DE X (.Constant (.int i) j pos) (pure (.int i)):=G0 tQ fun _ => .mkI
theorem d4 {i:Bool} {j pos}:DE X (.Constant (.bool i) j pos) (pure (.bl i)):=G0 Gz fun _ => .mkB
theorem tG {i:Str} {j pos}:DE X (.Constant (.str i) j pos) (pure (.str i)):=G0 E5 fun _ => .mkS
theorem gj {j pos}:DE X (.Constant .none j pos) (pure .non):=G0 Fg fun _ => .mkN
theorem ay {f:M (List D)} (h:DF X e f):DE X e (do let xs <- f; pure (.lst xs)):=cG h fun σ H Q ⟨c,δ,S,T,d,δ',s,e,k⟩ => by
 obtain ⟨xs,δ1,e1,e2⟩:=bind_some e
 obtain ⟨rfl,rfl⟩:=aq e2
 exact ⟨c,δ,S,T,xs,δ1,s,e1,fun l vs H' hl s' hz _ _ => k _ _ (s'.unhideL hl hz)⟩
def qC (r:R2) (f:D -> D -> Option D):Prop:=∀ (c:Ct) (δ:DS) (S:List D) (σ:St) (T:List V) (H:Hp) (x y:D) (v u:V) (d:D) (Q:VK),Sl c δ (y :: x :: S) σ (u :: v :: T) H -> f x y = some d -> (∀ z H',Sl c δ (d :: S) σ (z :: T) H' -> Q z H') -> r v u H Q
def m2 (f:D -> D -> Option D) (fa fb:M D):M D:=do
 let x <- fa
 let y <- fb
 lift (f x y)
theorem uU {r:R2} {f:D -> D -> Option D} (hd:qC r f):∀ σ H Q,tM (m2 f fa fb) σ H Q -> CT r (tM fa) (tM fb) σ H Q:=fun σ H Q ⟨c,δ,S,T,d,δ',s,e,k⟩ => by
 obtain ⟨x,δ1,e1,e⟩:=bind_some e
 obtain ⟨y,δ2,e2,e⟩:=bind_some e
 obtain ⟨e3,rfl⟩:=aA e
 exact ⟨c,δ,S,T,x,δ1,s,e1,fun v H1 s1 => ⟨c,δ1,x :: S,v :: T,y,δ2,s1,e2,fun u H2 s2 => hd _ _ _ _ _ _ _ _ _ _ _ _ s2 e3 k⟩⟩
theorem kO {op:Operator} {r:R2} {f:D -> D -> Option D} (ho:gK X (binaryOp op) r) (hd:qC r f) (ha:DE X a fa) (hb:DE X b fb):DE X (.BinOp a op b pos) (m2 f fa fb):=cG (C5 ho ha hb) (uU hd)
theorem lX {op:CmpOp} {r:R2} {f:D -> D -> Option D} (ho:gK X (compareOp op) r) (hd:qC r f) (ha:DE X a fa) (hb:DE X b fb) (hm:behindInMarks op b = false:=by first | exact jW _ | rfl):DE X (.Compare a [op] [b] pos) (m2 f fa fb):=cG (lh ho ha hb hm) (uU hd)
theorem Gf {r:R2} {f:D -> D -> Option D} (hr:Aa X r) (hd:qC r f) (ha:DE X a fa) (hb:DE X b fb) (hs:lg b:=by exact fun _ _ => rfl):DE X (.Subscript a b pos) (m2 f fa fb):=cG (CM hr ha hb hs) (uU hd)
def b9 (C:Int -> Int -> Bool) (g:Int -> Int -> D):D -> D -> Option D
 | .int i,.int j => if C i j = true then some (g i j) else none
 | _,_ => none
theorem eF {C:Int -> Int -> Bool} {g:Int -> Int -> D} {x y d:D} (h:b9 C g x y = some d):∃ i j,x = .int i ∧ y = .int j ∧ C i j = true ∧ d = g i j:= by
 unfold b9 at h
 split at h
 ·rename_i i j
  split at h
  ·cases h; exact ⟨i,j,rfl,rfl,‹_›,rfl⟩
  ·cases h
 ·cases h
theorem qN {C:Int -> Int -> Prop} {C':Int -> Int -> Bool} {g:Int -> Int -> V} {g':Int -> Int -> D} (hC:∀ i j,C' i j = true -> C i j) (hg:∀ H i j,R H (g' i j) (g i j)):qC (rI C g) (b9 C' g'):=fun c δ S σ T H x y v u d Q s e k => by
 obtain ⟨i,j,rfl,rfl,e1,rfl⟩:=eF e
 have h1:=s.st.head.int
 have h2:=s.st.tail.head.int
 exact ⟨i,j,h2,h1,hC i j e1,k _ _ (s.stk (.cons (hg _ _ _) s.st.tail.tail))⟩
theorem nj {g:Int -> Int -> V} {g':Int -> Int -> D} (hg:∀ H i j,R H (g' i j) (g i j)):qC (uE g) (b9 (fun _ _ => true) g'):=fun c δ S σ T H x y v u d Q s e k => by
 obtain ⟨i,j,rfl,rfl,e1,rfl⟩:=eF e
 have h1:=s.st.head.int
 have h2:=s.st.tail.head.int
 exact ⟨i,j,h2,h1,k _ _ (s.stk (.cons (hg _ _ _) s.st.tail.tail))⟩
def c6:=b9 (fun _ _ => true) fun i j => .int (i + j)
def jT:=b9 (fun _ _ => true) fun i j => .int (i - j)
def nF:=b9 (fun i j => (decide (-(2 ^ 64) < i) && decide (i < 2 ^ 64)) || (decide (-(2 ^ 64) < j) && decide (j < 2 ^ 64))) fun i j => .int (i * j)
def nK:=b9 (fun _ j => decide (0 < j)) fun i j => .int (i % j)
def FJ:=b9 (fun _ j => decide (0 < j) && decide (j < 1073741824)) fun i j => .int (i / j)
def oG:=b9 (fun _ _ => true) fun i j => .bl (decide (i < j))
def zX:=b9 (fun _ _ => true) fun i j => .bl (decide (i ≤ j))
def uy:=b9 (fun _ _ => true) fun i j => .bl (decide (j < i))
theorem cP (ha:DE X a fa) (hb:DE X b fb):DE X (.BinOp a .Add b pos) (m2 c6 fa fb):=kO EB (nj fun _ _ _ => .mkI) ha hb
theorem l5 (ha:DE X a fa) (hb:DE X b fb):DE X (.BinOp a .Sub b pos) (m2 jT fa fb):=kO Fz (nj fun _ _ _ => .mkI) ha hb
theorem p8 (ha:DE X a fa) (hb:DE X b fb):DE X (.BinOp a .Mult b pos) (m2 nF fa fb):=kO Ep (qN (fun i j h => by
 simp only [Bool.or_eq_true,Bool.and_eq_true,decide_eq_true_eq] at h; exact h) fun _ _ _ => .mkI) ha hb
theorem mw (ha:DE X a fa) (hb:DE X b fb):DE X (.BinOp a .Mod b pos) (m2 nK fa fb):=kO D9 (qN (fun i j h => of_decide_eq_true h) fun _ _ _ => .mkI) ha hb
theorem ES (ha:DE X a fa) (hb:DE X b fb):DE X (.BinOp a .FloorDiv b pos) (m2 FJ fa fb):=kO B3 (qN (fun i j h => by
 simp only [Bool.and_eq_true,decide_eq_true_eq] at h; exact h) fun _ _ _ => .mkI) ha hb
theorem GR (ha:DE X a fa) (hb:DE X b fb):DE X (.Compare a [.Gt] [b] pos) (m2 uy fa fb):=lX C6 (nj fun _ _ _ => .mkB) ha hb
def b_:D -> D -> Option D
 | .tup ds,.int i => ji ds i
 | .lst ds,.int i => ji ds i
 | _,_ => none
theorem sv {H:Hp} {ds:List D} {vs:List V} {i:Int} {d:D} (h:Rs H ds vs) (e:ji ds i = some d):∃ v,ji vs i = some v ∧ R H d v:= by
 unfold ji at *
 rw [h.length]
 cases q:sY ds.length i with
 | none => rw [q] at e; cases e
 | some j =>
  rw [q] at e
  exact h.get e
theorem En {K:PySem.W.Frag}:qC (JE K) b_:=fun c δ S σ T H x y v u d Q s e k => by
 cases x with
 | tup ds =>
  cases y with
  | int i =>
   have e':ji ds i = some d:=e
   obtain ⟨p,vs,rfl,h1,h2⟩:=s.st.tail.head.tup
   obtain ⟨z,e2,r⟩:=sv h2 e'
   exact .inr (.inl ⟨p,vs,i,z,rfl,s.st.head.int,.of (bf _ _ h1),e2,k _ _ (s.stk (.cons r s.st.tail.tail))⟩)
  | _ => cases e
 | lst ds =>
  cases y with
  | int i =>
   have e':ji ds i = some d:=e
   obtain ⟨p,vs,rfl,h1,h2⟩:=s.st.tail.head.lst
   obtain ⟨z,e2,r⟩:=sv h2 e'
   exact .inl ⟨p,vs,i,z,rfl,s.st.head.int,.inl (Rd.mono bf h1),e2,k _ _ (s.stk (.cons r s.st.tail.tail))⟩
  | _ => cases e
 | _ => cases e
theorem aw (ha:DE X a fa) (hb:DE X b fb) (hs:lg b:=by exact fun _ _ => rfl):DE X (.Subscript a b pos) (m2 b_ fa fb):=Gf D0 En ha hb hs
def cQ:D -> M Bool
 | .bl b => pure b
 | _ => lift none
theorem jC {d:D} {b:Bool} {δ δ':DS} (h:cQ d δ = some (b,δ')):d = .bl b ∧ δ = δ':= by
 unfold cQ at h
 split at h
 ·obtain ⟨rfl,rfl⟩:=aq h; exact ⟨rfl,rfl⟩
 ·cases h
theorem gp {op:CmpOp} {r:R2} {f:D -> D -> Option D} (ho:gK X (compareOp op) r) (hd:qC r f) (ha:DE X a fa) (hb:DE X b fb) (hm:behindInMarks op b = false:=by first | exact jW _ | rfl):DT X (.Compare a [op] [b] pos) (m2 f fa fb >>= cQ) :=
 t8 (k9 ho ha hb hm) fun σ H Q ⟨c,δ,S,T,d,δ',s,e,k⟩ => by
  obtain ⟨x,δ1,e1,e⟩:=bind_some e
  obtain ⟨rfl,rfl⟩:=jC e
  exact uU hd σ H _ ⟨c,δ,S,T,.bl d,δ1,s,e1,fun v H' s' => ⟨d,s'.st.head.bl,k _ s'.pop⟩⟩
theorem wG (ha:DE X a fa) (hb:DE X b fb):DT X (.Compare a [.Lt] [b] pos) (m2 oG fa fb >>= cQ):=gp xM (nj fun _ _ _ => .mkB) ha hb
theorem yK (ha:DE X a fa) (hb:DE X b fb):DT X (.Compare a [.Gt] [b] pos) (m2 uy fa fb >>= cQ):=gp C6 (nj fun _ _ _ => .mkB) ha hb
def cx:D -> Option Bool
 | .non => some false
 | .bl b => some b
 | .int i => some (i != 0)
 | .str _ => none
 | .tup ds => some (!ds.isEmpty)
 | .lst ds => some (!ds.isEmpty)
 | .dct => none
theorem lY {H:Hp} {ds:List D} {vs:List V} (h:Rs H ds vs):(!ds.isEmpty) = !vs.isEmpty:= by
 cases ds with
 | nil => rw [h.inv0]; rfl
 | cons d ds => obtain ⟨v,r,e,_⟩:=h.inv; rw [e]; rfl
theorem uO {K:PySem.W.Frag} {Hh H:Hp} {d:D} {v:V} {b:Bool} (m:∀ b o,Hh b = some o -> H b = some o) (r:R Hh d v) (e:cx d = some b):E9 K v H b:= by
 cases d with
 | non => cases r.non; cases e; rfl
 | bl x => cases r.bl; cases e; rfl
 | int i => cases r.int; cases e; rfl
 | str x => cases e
 | dct => cases e
 | tup ds =>
  obtain ⟨p,vs,rfl,h1,h2⟩:=r.tup
  cases e
  exact .inr (.inl ⟨vs,.of (m _ _ h1),lY h2⟩)
 | lst ds =>
  obtain ⟨p,vs,rfl,h1,h2⟩:=r.lst
  cases e
  exact .inl ⟨vs,.inl (Rd.mono m h1),lY h2⟩
theorem cy (ha:DE X a fa) (he:∀ whole,isTrue a X.env whole = (do let v <- whole; standAt a.pos; holding [v] (truthy v)):=by intro _; rfl):DT X a (do let x <- fa; lift (cx x)) :=
 t8 (xV ha he) fun σ H Q ⟨c,δ,S,T,d,δ',s,e,k⟩ => by
  obtain ⟨x,δ1,e1,e⟩:=bind_some e
  obtain ⟨e2,rfl⟩:=aA e
  exact ⟨c,δ,S,T,x,δ1,s,e1,fun v H' s' => ⟨d,uO bf s'.st.head e2,k _ s'.pop⟩⟩
def qh (fa fb:M Bool):M Bool:=do
 let x <- fa
 if x = true then fb else pure false
def n_ (fa fb:M Bool):M Bool:=do
 let x <- fa
 if x = true then pure true else fb
def fK (fa:M Bool):M Bool:=do
 let x <- fa
 pure (!x)
variable {ta tb:M Bool} {rest:List Expr}
theorem jH (ha:DT X a ta):DW X (.BoolOp .And [a] pos) ta:=A0 ha
theorem eI (ha:DT X a ta):DW X (.BoolOp .Or [a] pos) ta:=ED ha
theorem kx (ha:DT X a ta) (hb:DW X (.BoolOp .And (b :: rest) pos) tb):DW X (.BoolOp .And (a :: b :: rest) pos) (qh ta tb):=Hi (Dy ha hb) fun σ H Q ⟨c,δ,S,T,d,δ',s,e,k⟩ => by
 obtain ⟨x,δ1,e1,e⟩:=bind_some e
 refine ⟨c,δ,S,T,x,δ1,s,e1,fun H' s' => ?_⟩
 cases x with
 | true => rw [if_pos rfl] at e ⊢; exact ⟨c,δ1,S,T,d,δ',s',e,k⟩
 | false =>
  rw [if_neg Bool.false_ne_true] at e ⊢
  obtain ⟨rfl,rfl⟩:=aq e
  exact k _ s'
theorem fP (ha:DT X a ta) (hb:DW X (.BoolOp .Or (b :: rest) pos) tb):DW X (.BoolOp .Or (a :: b :: rest) pos) (n_ ta tb):=Hi (Ho ha hb) fun σ H Q ⟨c,δ,S,T,d,δ',s,e,k⟩ => by
 obtain ⟨x,δ1,e1,e⟩:=bind_some e
 refine ⟨c,δ,S,T,x,δ1,s,e1,fun H' s' => ?_⟩
 cases x with
 | false => rw [if_neg Bool.false_ne_true] at e ⊢; exact ⟨c,δ1,S,T,d,δ',s',e,k⟩
 | true =>
  rw [if_pos rfl] at e ⊢
  obtain ⟨rfl,rfl⟩:=aq e
  exact k _ s'
theorem iQ (h:DW X a ta):DT X a ta:=h.pt
theorem dU (ha:DT X a ta):DT X (.UnaryOp .Not a pos) (fK ta):=t8 (D4 ha) fun σ H Q ⟨c,δ,S,T,d,δ',s,e,k⟩ => by
 obtain ⟨x,δ1,e1,e⟩:=bind_some e
 obtain ⟨rfl,rfl⟩:=aq e
 exact ⟨c,δ,S,T,x,δ1,s,e1,fun H' s' => k _ s'⟩
def qy (fa fb:M D):M D:=do
 let x <- fa
 match x with
 | .bl true => fb
 | .bl false => pure (.bl false)
 | _ => lift none
def y8 (fa:M D):M D:=do
 let x <- fa
 match x with
 | .bl b => pure (.bl (!b))
 | _ => lift none
theorem kg {op} (h:DE X a fa):DE X (.BoolOp op [a] pos) fa:=Ec h
theorem mM (ha:DE X a fa) (hb:DE X (.BoolOp .And (b :: rest) pos) fb):DE X (.BoolOp .And (a :: b :: rest) pos) (qy fa fb):=cG (Fc ha hb) fun σ H Q ⟨c,δ,S,T,d,δ',s,e,k⟩ => by
 obtain ⟨x,δ1,e1,e⟩:=bind_some e
 refine ⟨c,δ,S,T,x,δ1,s,e1,fun v H' s' => ?_⟩
 cases x with
 | bl q =>
  cases q with
  | true => exact ⟨true,s'.st.head.bl,G7 ⟨c,δ1,S,T,d,δ',s'.pop,e,k⟩⟩
  | false =>
   obtain ⟨rfl,rfl⟩:=aq e
   exact ⟨false,s'.st.head.bl,GZ (k _ _ (s'.stk (.cons .mkB s'.st.tail)))⟩
 | _ => cases e
theorem yw (ha:DE X a fa):DE X (.UnaryOp .Not a pos) (y8 fa):=cG (E_ ha) fun σ H Q ⟨c,δ,S,T,d,δ',s,e,k⟩ => by
 obtain ⟨x,δ1,e1,e⟩:=bind_some e
 refine ⟨c,δ,S,T,x,δ1,s,e1,fun v H' s' => ?_⟩
 cases x with
 | bl q =>
  obtain ⟨rfl,rfl⟩:=aq e
  exact ⟨q,s'.st.head.bl,k _ _ (s'.stk (.cons .mkB s'.st.tail))⟩
 | _ => cases e
def fz {α:Type} (t:M Bool) (fa fb:M α):M α:=do
 let x <- t
 if x = true then fa else fb
theorem GU {t:Expr} (ht:DT X t ta) (ha:DE X a fa) (hb:DE X b fb):DE X (.IfExp t a b pos) (fz ta fa fb):=cG (yp ht ha hb) fun σ H Q ⟨c,δ,S,T,d,δ',s,e,k⟩ => by
 obtain ⟨x,δ1,e1,e⟩:=bind_some e
 refine ⟨c,δ,S,T,x,δ1,s,e1,fun H' s' => ?_⟩
 cases x with
 | true => rw [if_pos rfl] at e ⊢; exact ⟨c,δ1,S,T,d,δ',s',e,k⟩
 | false => rw [if_neg Bool.false_ne_true] at e ⊢; exact ⟨c,δ1,S,T,d,δ',s',e,k⟩
variable {es:List Expr} {fs:M (List D)}
theorem af:DA X [] (pure []):=G4 g8 fun σ H Q ⟨c,δ,S,T,d,δ',s,e,k⟩ => by
 obtain ⟨rfl,rfl⟩:=aq e
 exact k [] H rfl s
def ae (fa:M D) (fs:M (List D)):M (List D):=do
 let x <- fa
 let xs <- fs
 pure (x :: xs)
theorem aa (ha:DE X a fa) (hr:DA X es fs) (hs:starEach (a :: es) X.env = (false,eval a X.env) :: starEach es X.env:=by rfl):DA X (a :: es) (ae fa fs):=G4 (dY ha hr hs) fun σ H Q ⟨c,δ,S,T,d,δ',s,e,k⟩ => by
 obtain ⟨x,δ1,e1,e⟩:=bind_some e
 obtain ⟨xs,δ2,e2,e⟩:=bind_some e
 obtain ⟨rfl,rfl⟩:=aq e
 refine ⟨c,δ,S,T,x,δ1,s,e1,fun v H1 s1 => ⟨c,δ1,x :: S,v :: T,xs,δ2,s1,e2,fun vs H2 l s2 => k (v :: vs) H2 (by simp [l]) (s2.stk ?_)⟩⟩
 have h1:=s2.st.left l
 have h2:=s2.st.right l
 exact .cons h2.head (h1.append h2.tail)
def few (n:Nat):Option Unit:=if n ≤ 100000 then some () else none
theorem jE {n:Nat} {u:Unit} (h:few n = some u):n ≤ sizeLine ∧ n < sizeLine:= by
 unfold few at h
 split at h
 ·have:(100000:Nat) < sizeLine:=by rw [sizeLine_eq]; decide
  omega
 ·cases h
def bL (fs:M (List D)):M D:=do
 let ds <- fs
 let _ <- lift (few ds.length)
 pure (.tup ds)
def cV (fs:M (List D)):M (List D):=do
 let ds <- fs
 let _ <- lift (few ds.length)
 pure ds
theorem aK {x1} (h:DA X es fs):DE X (.Tuple es x1 pos) (bL fs):=cG (FL h) fun σ H Q ⟨c,δ,S,T,d,δ',s,e,k⟩ => by
 obtain ⟨ds,δ1,e1,e⟩:=bind_some e
 obtain ⟨_,δ2,e2,e⟩:=bind_some e
 obtain ⟨e3,rfl⟩:=aA e2
 obtain ⟨rfl,rfl⟩:=aq e
 exact ⟨c,δ,S,T,ds,δ1,s,e1,fun vs H1 l s1 => ⟨by rw [l]; exact (jE e3).1,fun p hp => k _ _ (s1.newTup l hp)⟩⟩
theorem br (h:DA X es fs):DF X (.List es pos) (cV fs):=cG (EL h) fun σ H Q ⟨c,δ,S,T,d,δ',s,e,k⟩ => by
 obtain ⟨ds,δ1,e1,e⟩:=bind_some e
 obtain ⟨_,δ2,e2,e⟩:=bind_some e
 obtain ⟨e3,rfl⟩:=aA e2
 obtain ⟨rfl,rfl⟩:=aq e
 refine ⟨c,δ,S,T,ds,δ1,s,e1,fun vs H1 l s1 => ⟨by rw [l]; exact (jE e3).1,fun p hp => ?_⟩⟩
 obtain ⟨f1,f2,f3⟩:=s1.fresh hp
 exact k p vs _ l (s1.hide hp) f1 f2 f3
def iV (r:List V -> Hp -> VK -> Prop) (f:List D -> Option D):Prop:=∀ (c:Ct) (δ:DS) (S:List D) (σ:St) (T:List V) (H:Hp) (ds:List D) (vs:List V) (d:D) (Q:VK),vs.length = ds.length -> Sl c δ (ds ++ S) σ (vs ++ T) H -> f ds = some d -> (∀ z H',Sl c δ (d :: S) σ (z :: T) H' -> Q z H') -> r vs H Q
def wK (r:List V -> Hp -> VK -> Prop) (f:List D -> Option (List D)):Prop:=∀ (c:Ct) (δ:DS) (S:List D) (σ:St) (T:List V) (H:Hp) (ds:List D) (vs:List V) (xs:List D) (Q:VK),vs.length = ds.length -> Sl c δ (ds ++ S) σ (vs ++ T) H -> f ds = some xs ->
 (∀ l ws H',ws.length = xs.length -> Sl { c with Z:=upd c.Z l (.lst ws) } δ (xs ++ S) σ (ws ++ T) H' -> c.Z l = none -> l ∉ c.B -> c.H0 l = none -> Q (.ref l) H') -> r vs H Q
def mC {α:Type} (f:List D -> Option α) (fs:M (List D)):M α:=do
 let ds <- fs
 lift (f ds)
variable {x:Str} {p:Pos} {id T:String} {r:List V -> Hp -> VK -> Prop} {f:List D -> Option D} {g:List D -> Option (List D)}
theorem Dd (hd:iV r f):∀ σ H Q,tM (mC f fs) σ H Q -> Ic r (H_ fs) σ H Q:=fun σ H Q ⟨c,δ,S,T,d,δ',s,e,k⟩ => by
 obtain ⟨ds,δ1,e1,e⟩:=bind_some e
 obtain ⟨e2,rfl⟩:=aA e
 exact ⟨c,δ,S,T,ds,δ1,s,e1,fun vs H1 l s1 => hd _ _ _ _ _ _ _ _ _ _ l s1 e2 k⟩
theorem FU (hd:wK r g):∀ σ H Q,FV (mC g fs) σ H Q -> Ic r (H_ fs) σ H Q:=fun σ H Q ⟨c,δ,S,T,d,δ',s,e,k⟩ => by
 obtain ⟨ds,δ1,e1,e⟩:=bind_some e
 obtain ⟨e2,rfl⟩:=aA e
 exact ⟨c,δ,S,T,ds,δ1,s,e1,fun vs H1 l s1 => hd _ _ _ _ _ _ _ _ _ _ l s1 e2 k⟩
def aZ:List D -> Option D
 | [.tup ds] => some (.int ds.length)
 | [.lst ds] => some (.int ds.length)
 | _ => none
theorem r6 {H:Hp} {d:D} {vs:List V} (h:Rs H [d] vs):∃ v,vs = [v] ∧ R H d v:= by
 obtain ⟨v,r,e,h1,h2⟩:=h.inv
 rw [h2.inv0] at e
 exact ⟨v,e,h1⟩
theorem Iv {H:Hp} {d d':D} {vs:List V} (h:Rs H [d,d'] vs):∃ v u,vs = [v,u] ∧ R H d v ∧ R H d' u:= by
 obtain ⟨v,r,e,h1,h2⟩:=h.inv
 obtain ⟨u,rfl,h3⟩:=r6 h2
 exact ⟨v,u,e,h1,h3⟩
theorem E7 {K:PySem.W.Frag}:iV (fun xs H Q => ∃ p ys,xs = [.ref p] ∧ (ip K H p ys ∨ iP K H p ys) ∧ Q (.int ys.length) H) aZ:=fun c δ S σ T H ds vs d Q l s e k => by
 have h:=s.st.left l
 have h2:=s.st.right l
 unfold aZ at e
 split at e
 ·obtain ⟨v,rfl,r⟩:=r6 h
  obtain ⟨p,ws,rfl,h1,h3⟩:=r.tup
  cases e
  exact ⟨p,ws,rfl,.inr (.of (bf _ _ h1)),k _ _ (s.stk (.cons (by rw [h3.length]; exact .mkI) h2))⟩
 ·obtain ⟨v,rfl,r⟩:=r6 h
  obtain ⟨p,ws,rfl,h1,h3⟩:=r.lst
  cases e
  exact ⟨p,ws,rfl,.inl (.inl (Rd.mono bf h1)),k _ _ (s.stk (.cons (by rw [h3.length]; exact .mkI) h2))⟩
 ·cases e
theorem fV {f:List D -> Option D} (hc:dE X (.builtin id) r) (hd:iV r f) (hg:Gl X x) (hm:X.mg x = none) (hv:bootBuiltins x = some (.builtin id)) (ha:DA X (a :: es) fs) (hn:x ≠ "__name__":=by decide) (hdb:(x == ("__debug__":Str)) = false:=by decide)
  (he:starEach (a :: es) X.env = (false,eval a X.env) :: starEach es X.env:=by rfl) (hpl:(backTo pos (starEach es X.env)).any (·.1) = false:=by rfl):DE X (.Call (.Name x p) (a :: es) [] pos) (mC f fs) :=
 cG (h9 hc hg hm hv ha hn hdb he hpl) (Dd hd)
end
end Jt
namespace Jt
open PySem L2
inductive Fl where
 | nx | bk | ct | rt (d:D) | rf (xs:List D)
def Fin (c:Ct) (δ:DS) (S:List D) (T:List V) (fl:Fl) (E:Ends):Prop :=
 match fl with
 | .nx => ∀ σ H,Sl c δ S σ T H -> E.nx σ H
 | .bk => ∀ σ H,Sl c δ S σ T H -> E.bk σ H
 | .ct => ∀ σ H,Sl c δ S σ T H -> E.ct σ H
 | .rt d => ∀ v σ H,Sl c δ (d :: S) σ (v :: T) H -> E.rt v H
 | .rf xs => ∀ l vs σ H,vs.length = xs.length -> Sl { c with Z:=upd c.Z l (.lst vs) } δ (xs ++ S) σ (vs ++ T) H -> c.Z l = none -> l ∉ c.B -> c.H0 l = none -> E.rt (.ref l) H
inductive HC (f:M Fl) (E:Ends) (σ:St) (H:Hp):Prop
 | mk (c:Ct) (δ:DS) (S:List D) (T:List V) (fl:Fl) (δ':DS) (s:Sl c δ S σ T H) (e:f δ = some (fl,δ')) (q:Fin c δ' S T fl E):HC f E σ H
abbrev ql (X:Cx) (st:Stmt) (f:M Fl):Prop:=PS X st (HC f)
abbrev rZ (X:Cx) (st:List Stmt) (f:M Fl):Prop:=rY X st (HC f)
theorem j7 {X:Cx} {e:Stmt} {t t':TS} (h:PS X e t) (w:∀ E σ H,t' E σ H -> t E σ H):PS X e t':=fun pins s σ H Q I q => h pins s σ H Q I (w Q σ H q)
theorem C3 {X:Cx} {e:List Stmt} {t t':TS} (h:rY X e t) (w:∀ E σ H,t' E σ H -> t E σ H):rY X e t':=fun pins s σ H Q I q => h pins s σ H Q I (w Q σ H q)
section
variable {X:Cx} {a b e:Expr} {fa fb:M D} {fF:M (List D)} {pos:Pos} {st:Stmt} {rest:List Stmt} {f g:M Fl} {tt:M Bool}
theorem bg:rZ X [] (pure .nx):=C3 Cj fun E σ H ⟨c,δ,S,T,fl,δ',s,e,k⟩ => by
 obtain ⟨rfl,rfl⟩:=aq e
 exact k σ H s
def aB (f g:M Fl):M Fl:=do
 let fl <- f
 match fl with
 | .nx => g
 | fl => pure fl
theorem ai (h1:ql X st f) (h2:rZ X rest g):rZ X (st :: rest) (aB f g):=C3 (zq h1 h2) fun E σ H ⟨c,δ,S,T,fl,δ',s,e,k⟩ => by
 obtain ⟨fl1,δ1,e1,e⟩:=bind_some e
 refine ⟨c,δ,S,T,fl1,δ1,s,e1,?_⟩
 cases fl1 with
 | nx => exact fun σ' H' s' => ⟨c,δ1,S,T,fl,δ',s',e,k⟩
 | bk => obtain ⟨rfl,rfl⟩:=aq e; exact k
 | ct => obtain ⟨rfl,rfl⟩:=aq e; exact k
 | rt d => obtain ⟨rfl,rfl⟩:=aq e; exact k
 | rf xs => obtain ⟨rfl,rfl⟩:=aq e; exact k
theorem ao (h1:ql X st f):rZ X [st] f:=Aq h1
theorem aJ (he:DE X e fa):ql X (.Return (some e) pos) (do let d <- fa; pure (.rt d)):=j7 (xJ he) fun E σ H ⟨c,δ,S,T,fl,δ',s,e,k⟩ => by
 obtain ⟨d,δ1,e1,e⟩:=bind_some e
 obtain ⟨rfl,rfl⟩:=aq e
 exact ⟨c,δ,S,T,d,δ1,s,e1,fun v H' s' => k v σ H' s'⟩
theorem jl (he:DF X e fF):ql X (.Return (some e) pos) (do let d <- fF; pure (.rf d)):=j7 (xJ he) fun E σ H ⟨c,δ,S,T,fl,δ',s,e,k⟩ => by
 obtain ⟨d,δ1,e1,e⟩:=bind_some e
 obtain ⟨rfl,rfl⟩:=aq e
 exact ⟨c,δ,S,T,d,δ1,s,e1,fun l vs H' h1 h2 h3 h4 h5 => k l vs σ H' h1 h2 h3 h4 h5⟩
def pb (i:Nat):M (List D):=fun δ => match δ[i]? with
 | some (.ow false xs) => some (xs,δ.set i .un)
 | _ => none
theorem ET (i:Nat) {x:Str} {pos:Pos} (hN:X.N[i]? = some x:=by rfl) (hv:ug X.env.scope x:=by first | exact Or.inl rfl | exact Or.inr (Or.inl rfl) | exact Or.inr (Or.inr rfl)) (hd:(x == ("__debug__":Str)) = false:=by decide)
  (hcd:(x == ("__classdict__":Str)) = false:=by decide):DF X (.Name x pos) (pb i):=cG (eJ hN hv hd hcd) fun σ H Q ⟨c,δ,S,T,xs,δ',s,e,k⟩ => by
 unfold pb at e
 split at e
 ·rename_i ys hi
  cases e
  obtain ⟨a,vs0,ea,_⟩:=s.ow i _ _ hi
  obtain ⟨vs,h1,h2,h3,h4,h5⟩:=s.giveOw hi ea
  exact ⟨_,ea,k a vs H h1 h2 h3 h4 h5⟩
 ·cases e
theorem cg {t:Expr} {as bs:List Stmt} (ht:DT X t tt) (ha:rZ X as f) (hb:rZ X bs g):ql X (.If t as bs pos) (fz tt f g):=j7 (Hx ht ha hb) fun E σ H ⟨c,δ,S,T,fl,δ',s,e,k⟩ => by
 obtain ⟨x,δ1,e1,e⟩:=bind_some e
 refine ⟨c,δ,S,T,x,δ1,s,e1,fun H' s' => ?_⟩
 cases x with
 | true => rw [if_pos rfl] at e ⊢; exact ⟨c,δ1,S,T,fl,δ',s',e,k⟩
 | false => rw [if_neg Bool.false_ne_true] at e ⊢; exact ⟨c,δ1,S,T,fl,δ',s',e,k⟩
theorem ub (he:DE X e fa) (hs:swapsWith e none pos.line X.env = pure false:=by rfl):ql X (.Expr e pos) (do let _ <- fa; pure .nx):=j7 (uR he hs) fun E σ H ⟨c,δ,S,T,fl,δ',s,e,k⟩ => by
 obtain ⟨x,δ1,e1,e⟩:=bind_some e
 obtain ⟨rfl,rfl⟩:=aq e
 exact ⟨c,δ,S,T,x,δ1,s,e1,fun v H' s' => k _ _ s'.pop⟩
def ba (i:Nat) (d:D):M Unit:=fun δ => if i < δ.length then some ((),δ.set i (.pu d)) else none
def wO (i:Nat) (xs:List D):M Unit:=fun δ => if i < δ.length then some ((),δ.set i (.ow false xs)) else none
theorem ke {i:Nat} {d:D} {δ δ':DS} {u:Unit} (h:ba i d δ = some (u,δ')):i < δ.length ∧ δ' = δ.set i (.pu d):= by
 unfold ba at h; split at h
 ·cases h; exact ⟨‹_›,rfl⟩
 ·cases h
theorem pd {i:Nat} {d:List D} {δ δ':DS} {u:Unit} (h:wO i d δ = some (u,δ')):i < δ.length ∧ δ' = δ.set i (.ow false d):= by
 unfold wO at h; split at h
 ·cases h; exact ⟨‹_›,rfl⟩
 ·cases h
def dD (i:Nat) (fa:M D):M Fl:=do
 let d <- fa
 ba i d
 pure .nx
def sx (i:Nat) (fF:M (List D)):M Fl:=do
 let d <- fF
 wO i d
 pure .nx
theorem HN {te:TE} {i:Nat} (w:∀ σ H Q,tM fa σ H Q -> te σ H Q):∀ E σ H,HC (dD i fa) E σ H -> yB te (qF i) E σ H:=fun E σ H ⟨c,δ,S,T,fl,δ',s,e,k⟩ => by
 obtain ⟨d,δ1,e1,e⟩:=bind_some e
 obtain ⟨u,δ2,e2,e⟩:=bind_some e
 obtain ⟨rfl,rfl⟩:=aq e
 obtain ⟨hi,rfl⟩:=ke e2
 exact w _ _ _ ⟨c,δ,S,T,d,δ1,s,e1,fun v H' s' => k _ _ (s'.setPu hi)⟩
theorem HJ {te:TE} {i:Nat} (w:∀ σ H Q,FV fF σ H Q -> te σ H Q):∀ E σ H,HC (sx i fF) E σ H -> yB te (qF i) E σ H:=fun E σ H ⟨c,δ,S,T,fl,δ',s,e,k⟩ => by
 obtain ⟨d,δ1,e1,e⟩:=bind_some e
 obtain ⟨u,δ2,e2,e⟩:=bind_some e
 obtain ⟨rfl,rfl⟩:=aq e
 obtain ⟨hi,rfl⟩:=pd e2
 exact w _ _ _ ⟨c,δ,S,T,d,δ1,s,e1,fun l vs H' h1 h2 h3 h4 h5 => k _ _ (h2.setOw h1 h3 h4 h5 hi)⟩
theorem aU (i:Nat) {x:Str} {pos':Pos} (hN:X.N.Nodup) (he:DE X e fa) (hi:X.N[i]? = some x:=by rfl) (hx:Loc X.env.scope x:=by first | exact Or.inl rfl | exact Or.inr rfl) (hs:swapsWith e (some (.Name x pos')) pos.line X.env = pure false:=by rfl)
  (hf:X.fn x = true ∨ X.env.scope.names.lookup x = some .local:=by first | exact .inl rfl | exact .inr rfl | assumption):ql X (.Assign [.Name x pos'] e pos) (dD i fa):=j7 (xQ hN hi hx he hs hf) (HN fun _ _ _ h => h)
theorem eD (i:Nat) {x:Str} {pos':Pos} (hN:X.N.Nodup) (he:DF X e fF) (hi:X.N[i]? = some x:=by rfl) (hx:Loc X.env.scope x:=by first | exact Or.inl rfl | exact Or.inr rfl) (hs:swapsWith e (some (.Name x pos')) pos.line X.env = pure false:=by rfl)
  (hf:X.fn x = true ∨ X.env.scope.names.lookup x = some .local:=by first | exact .inl rfl | exact .inr rfl | assumption):ql X (.Assign [.Name x pos'] e pos) (sx i fF):=j7 (xQ hN hi hx he hs hf) (HJ fun _ _ _ h => h)
inductive Jm (lo:Nat) (f:D -> M Unit) (v:V) (σ:St) (H:Hp) (Q:St -> Hp -> Prop):Prop
 | mk (c:Ct) (δ:DS) (S:List D) (T:List V) (d:D) (δ':DS) (s:Sl c δ (d :: S) σ (v :: T) H) (e:f d δ = some ((),δ')) (q:∀ σ' H',(∀ n,n ≤ lo -> σ'.take n = σ.take n) -> Sl c δ' S σ' T H' -> Q σ' H'):Jm lo f v σ H Q
inductive GV (lo:Nat) (f:List D -> M Unit) (vs:List V) (σ:St) (H:Hp) (Q:St -> Hp -> Prop):Prop
 | mk (c:Ct) (δ:DS) (S:List D) (T:List V) (ds:List D) (δ':DS) (l:vs.length = ds.length) (s:Sl c δ (ds ++ S) σ (vs ++ T) H) (e:f ds δ = some ((),δ')) (q:∀ σ' H',(∀ n,n ≤ lo -> σ'.take n = σ.take n) -> Sl c δ' S σ' T H' -> Q σ' H'):GV lo f vs σ H Q
abbrev DG (X:Cx) (lo:Nat) (tg:Expr) (f:D -> M Unit):Prop:=PG X tg (Jm lo f)
abbrev HU (X:Cx) (lo:Nat) (tg:List Expr) (f:List D -> M Unit):Prop:=Fs X tg (GV lo f)
theorem Hq {X:Cx} {e:Expr} {t t':TG} (h:PG X e t) (w:∀ v σ H Q,t' v σ H Q -> t v σ H Q):PG X e t':=fun pins s σ H v u Q I r q => h pins s σ H v u Q I r (w v σ H Q q)
theorem Df {X:Cx} {e:List Expr} {t t':CZ} (h:Fs X e t) (w:∀ v σ H Q,t' v σ H Q -> t v σ H Q):Fs X e t':=fun pins s σ H v u Q I r q => h pins s σ H v u Q I r (w v σ H Q q)
theorem av {lo:Nat} (i:Nat) {x:Str} {pos:Pos} (hN:X.N.Nodup) (hlo:lo ≤ i:=by decide) (hi:X.N[i]? = some x:=by rfl) (hx:Loc X.env.scope x:=by first | exact Or.inl rfl | exact Or.inr rfl)
  (hf:X.fn x = true ∨ X.env.scope.names.lookup x = some .local:=by first | exact .inl rfl | exact .inr rfl | assumption):DG X lo (.Name x pos) (ba i):=Hq (Bf hN hi hx hf) fun v σ H Q ⟨c,δ,S,T,d,δ',s,e,k⟩ => by
 obtain ⟨hi,rfl⟩:=ke e
 exact k _ _ (fun n hn => List.take_set_of_le (Nat.le_trans hn hlo)) (s.setPu hi)
def gM:List D -> M Unit
 | [] => pure ()
 | _ => lift none
def cw (f:D -> M Unit) (g:List D -> M Unit):List D -> M Unit
 | d :: ds => do
  f d
  g ds
 | _ => lift none
theorem dZ {lo:Nat}:HU X lo [] gM:=Df Br fun v σ H Q ⟨c,δ,S,T,ds,δ',l,s,e,k⟩ => by
 cases ds with
 | nil =>
  obtain ⟨_,rfl⟩:=aq e
  have:v = []:=List.eq_nil_of_length_eq_zero l
  subst this
  exact ⟨rfl,k σ H (fun _ _ => rfl) s⟩
 | cons d ds => cases e
theorem bB {lo:Nat} {e:Expr} {es:List Expr} {f:D -> M Unit} {g:List D -> M Unit} (h1:DG X lo e f) (h2:HU X lo es g)
  (hs:(assignEach (e :: es) X.env).map (·.2) = assign e X.env :: (assignEach es X.env).map (·.2):=by rfl):HU X lo (e :: es) (cw f g):=Df (zg h1 h2 hs) fun vs σ H Q ⟨c,δ,S,T,ds,δ',l,s,e,k⟩ => by
 cases ds with
 | nil => cases e
 | cons d ds =>
  cases vs with
  | nil => cases l
  | cons v vs =>
   obtain ⟨u,δ1,e1,e2⟩:=bind_some e
   exact ⟨v,vs,rfl,c,δ,ds ++ S,vs ++ T,d,δ1,s,e1,fun σ1 H1 t1 s1 => ⟨c,δ1,S,T,ds,δ',by simpa using l,s1,e2,fun σ2 H2 t2 s2 => k σ2 H2 (fun n hn => (t2 n hn).trans (t1 n hn)) s2⟩⟩
def gN (n:Nat) (g:List D -> M Unit):D -> M Unit
 | .tup ds => if ds.length = n then g ds else lift none
 | _ => lift none
theorem fv {lo:Nat} {es:List Expr} {k:Nat} {g:List D -> M Unit} {n:Nat} (h:HU X lo es g) (hc:X.calm = true:=by rfl)
  (hn:(assignEach es X.env).length = n:=by rfl) (hst:(assignEach es X.env).findIdx? (·.1) = none:=by rfl):DG X lo (.Tuple es k pos) (gN n g):=Hq (FC hc h hn hst) fun v σ H Q ⟨c,δ,S,T,d,δ',s,e,k⟩ => by
 cases d with
 | tup ds =>
  have e':(if ds.length = n then g ds else lift none) δ = some ((),δ'):=e
  split at e'
  ·rename_i hl
   obtain ⟨p,vs,rfl,h1,h2⟩:=s.st.head.tup
   exact ⟨p,vs,rfl,.of (bf _ _ h1),by rw [h2.length]; exact hl,c,δ,S,T,ds,δ',h2.length,s.stk (h2.append s.st.tail),e',k⟩
  ·cases e'
 | _ => cases e
theorem nk {tg:Expr} {g:D -> M Unit} (he:DE X e fa) (hg:DG X 0 tg g) (hs:swapsWithSole [tg] e pos.line X.env = pure false:=by rfl) (hw:swappedStores [tg] e X.env = pure none:=by rfl)
  (h1:(assignEach [tg] X.env).map (·.2) = [assign tg X.env]:=by rfl):ql X (.Assign [tg] e pos) (do let d <- fa; g d; pure .nx):=j7 (xj he hg hs hw h1) fun E σ H ⟨c,δ,S,T,fl,δ',s,e,k⟩ => by
 obtain ⟨d,δ1,e1,e⟩:=bind_some e
 obtain ⟨u,δ2,e2,e⟩:=bind_some e
 obtain ⟨rfl,rfl⟩:=aq e
 exact ⟨c,δ,S,T,d,δ1,s,e1,fun v H' s' => ⟨c,δ1,S,T,d,δ2,s',e2,fun σ' H2 _ s2 => k _ _ s2⟩⟩
abbrev k_:=List (DS -> Option D) × (DS -> Bool)
def F3 (J:It) (its:k_) (Sx:List D) (Tx:List V):Prop:=∀ (c:Ct) (δ:DS) (S:List D) (σ:St) (T:List V) (H:Hp) (i:Nat),Sl c δ (Sx ++ S) σ (Tx ++ T) H ->
 (∀ act d,its.1[i]? = some act -> act δ = some d -> J.go i H ∧ ∀ x H',J.yld i H x H' -> Sl c δ (d :: (Sx ++ S)) σ (x :: (Tx ++ T)) H') ∧ (i = its.1.length -> its.2 δ = true -> J.stop i H)
inductive JH (f:M k_) (σ:St) (H:Hp) (R:It -> Hp -> Prop):Prop
 | mk (c:Ct) (δ:DS) (S:List D) (T:List V) (it:k_) (δ':DS) (s:Sl c δ S σ T H) (e:f δ = some (it,δ')) (q:∀ J Sx Tx H',Tx.length = Sx.length -> F3 J it Sx Tx -> Sl c δ' (Sx ++ S) σ (Tx ++ T) H' -> R J H'):JH f σ H R
abbrev DI (X:Cx) (tg iter:Expr) (f:M k_):Prop:=PI X tg iter (JH f)
theorem v9 {X:Cx} {tg e:Expr} {t t':TI} (h:PI X tg e t) (w:∀ σ H Q,t' σ H Q -> t σ H Q):PI X tg e t':=fun pins s σ H Q I q => h pins s σ H Q I (w σ H Q q)
def aR (ds:List D):k_:=(ds.map fun d _ => some d,fun _ => true)
theorem fW {ds:List D} {i:Nat} {act:DS -> Option D} {δ:DS} {d:D} (h:(aR ds).1[i]? = some act) (e:act δ = some d):ds[i]? = some d:= by
 unfold aR at h
 rw [List.getElem?_map] at h
 cases q:ds[i]? with
 | none => rw [q] at h; cases h
 | some d' => rw [q] at h; cases h; exact e
theorem AZ {K:PySem.W.Frag} {X:Cx} (hK:X.K = K) {a:Addr} {ds:List D}:F3 (Jo K a) (aR ds) [.tup ds] [.ref a]:=fun c δ S σ T H i s => by
 obtain ⟨p,vs,e,h1,h2⟩:=s.st.head.tup
 cases e
 have hq:iP K H a vs:=.of (bf _ _ h1)
 refine ⟨fun act d ha hd => ?_,fun e _ => ⟨vs,hq,by rw [h2.length,e]; simp [aR]⟩⟩
 obtain ⟨v,hv,r⟩:=h2.get (fW ha hd)
 refine ⟨⟨vs,v,hq,hv⟩,fun x H' y => ?_⟩
 obtain ⟨rfl,y⟩:=y
 have:=y vs hq
 rw [hv] at this; cases this
 exact s.stk (.cons r s.st)
theorem Ag {K:PySem.W.Frag} {a:Addr} {ds:List D}:F3 (Ie K a) (aR ds) [.lst ds] [.ref a]:=fun c δ S σ T H i s => by
 obtain ⟨p,vs,e,h1,h2⟩:=s.st.head.lst
 cases e
 have hq:ip K H a vs:=.inl (Rd.mono bf h1)
 refine ⟨fun act d ha hd => ?_,fun e _ => ⟨vs,hq,by rw [h2.length,e]; simp [aR]⟩⟩
 obtain ⟨v,hv,r⟩:=h2.get (fW ha hd)
 refine ⟨⟨vs,v,hq,hv⟩,fun x H' y => ?_⟩
 obtain ⟨rfl,y⟩:=y
 have:=y vs hq
 rw [hv] at this; cases this
 exact s.stk (.cons r s.st)
def aO:D -> Option k_
 | .tup ds => some (aR ds)
 | .lst ds => some (aR ds)
 | _ => none
theorem Fj {tg l:Expr} {tl:TE} (hl:PE X l tl):PI X tg l (fun σ H R => tl σ H fun x H1 => ∃ a,x = .ref a ∧ (((∃ xs,ip X.K H1 a xs) ∧ R (Ie X.K a) H1) ∨ ((∃ xs,iP X.K H1 a xs) ∧ R (Jo X.K a) H1))):= by
 intro pins s σ H R I h
 refine cT (hl pins s σ H _ I h) fun v s1 ⟨x,H1,I1,r1,q1⟩ => ?_
 obtain ⟨a,e,q⟩:=q1
 subst e
 cases r1
 rcases q with ⟨⟨xs,hq⟩,q⟩ | ⟨⟨xs,hq⟩,q⟩
 ·obtain ⟨its,rv,p,hz⟩:=I1.list hq
  refine wpAny_pyIter_list p.isList ?_
  refine ⟨s1.heap.objs.size,[s1.heap.objs.size],_,_,H1,rfl,I1.kept (t':=s1.toks) fun b o e => Heap.get?_push_of_some _ e,nU a _,⟨_,Heap.get?_push_size _ rfl,rfl,rfl⟩,fun b hb => ?_,q⟩
  have e:b = s1.heap.objs.size:=by simpa using hb
  subst e
  exact I1.fpOk (Nat.le_refl _) (I1.hok.fresh (Nat.le_refl _))
 ·obtain ⟨its,rv,p,hz⟩:=I1.tuple hq
  refine wpAny_pyIter_tuple (show s1.heap.IsTuple a its.toArray from p) ?_
  refine ⟨s1.heap.objs.size,[s1.heap.objs.size],_,_,H1,rfl,I1.kept (t':=s1.toks) fun b o e => Heap.get?_push_of_some _ e,sO a _,⟨_,Heap.get?_push_size _ rfl,rfl,rfl⟩,fun b hb => ?_,q⟩
  have e:b = s1.heap.objs.size:=by simpa using hb
  subst e
  exact I1.fpOk (Nat.le_refl _) (I1.hok.fresh (Nat.le_refl _))
theorem bQ {tg l:Expr} (hl:DE X l fa):DI X tg l (do let x <- fa; lift (aO x)):=v9 (Fj hl) fun σ H R ⟨c,δ,S,T,it,δ',s,e,k⟩ => by
 obtain ⟨x,δ1,e1,e⟩:=bind_some e
 obtain ⟨e2,rfl⟩:=aA e
 refine ⟨c,δ,S,T,x,δ1,s,e1,fun v H' s' => ?_⟩
 cases x with
 | tup ds =>
  cases e2
  obtain ⟨p,vs,rfl,h1,h2⟩:=s'.st.head.tup
  exact ⟨p,rfl,.inr ⟨⟨vs,.of (bf _ _ h1)⟩,k _ [.tup ds] [.ref p] H' rfl (AZ rfl) s'⟩⟩
 | lst ds =>
  cases e2
  obtain ⟨p,vs,rfl,h1,h2⟩:=s'.st.head.lst
  exact ⟨p,rfl,.inl ⟨⟨vs,.inl (Rd.mono bf h1)⟩,k _ [.lst ds] [.ref p] H' rfl Ag s'⟩⟩
 | _ => cases e2
def bP (lo:Int) (n:Nat):List D:=(List.range n).map fun (i:Nat) => D.int (lo + (i:Int))
theorem Av {lo:Int} {n:Nat}:F3 (Ir lo n) (aR (bP lo n)) [] []:=fun c δ S σ T H i s => by
 refine ⟨fun act d ha hd => ?_,fun e _ => by
  have:(aR (bP lo n)).1.length = n:=by simp [aR,bP]
  show n ≤ i
  omega⟩
 have h:=fW ha hd
 unfold bP at h
 rw [List.getElem?_map] at h
 have hi:i < n:= by
  by_cases hi:i < n
  ·exact hi
  ·rw [List.getElem?_eq_none (by simp; omega)] at h; cases h
 rw [List.getElem?_range hi] at h
 cases h
 refine ⟨hi,fun x H' y => ?_⟩
 obtain ⟨rfl,rfl⟩:=y
 exact s.stk (.cons .mkI s.st)
def bz (i:Int):Bool:=decide (-(2 ^ 62) ≤ i) && decide (i < 2 ^ 62)
def cF:List D -> Option k_
 | [.int j] => if bz j = true then some (aR (bP 0 j.toNat)) else none
 | _ => none
theorem bt {tg a:Expr} {p:Pos} {fs:M (List D)} (hg:Gl X "range") (hm:X.mg "range" = none) (ha:DA X [a] fs) (hs:starEach [a] X.env = [(false,eval a X.env)]:=by rfl):DI X tg (.Call (.Name "range" p) [a] [] pos) (mC cF fs) :=
 v9 (vC hg hm ha hs) fun σ H R ⟨c,δ,S,T,it,δ',s,e,k⟩ => by
  obtain ⟨ds,δ1,e1,e⟩:=bind_some e
  obtain ⟨e2,rfl⟩:=aA e
  refine ⟨c,δ,S,T,ds,δ1,s,e1,fun vs H' l s' => ?_⟩
  unfold cF at e2
  split at e2
  ·split at e2
   ·rename_i j hj
    cases e2
    obtain ⟨v,rfl,r⟩:=r6 (s'.st.left l)
    cases r.int
    simp only [bz,Bool.and_eq_true,decide_eq_true_eq] at hj
    exact ⟨j,rfl,hj.1,hj.2,k _ [] [] H' rfl Av (s'.stk (s'.st.right l))⟩
   ·cases e2
  ·cases e2
def c9 (i n:Nat):k_:=((List.range n).map fun (j:Nat) (δ:DS) => match δ[i]? with
 | some (.ow _ xs) => if xs.length = n then xs[j]? else none
 | _ => none,fun δ => match δ[i]? with
 | some (.ow _ xs) => decide (xs.length = n)
 | _ => false)
def aF (i:Nat):M (List D):=fun δ => match δ[i]? with
 | some (.ow _ xs) => some (xs,δ)
 | _ => none
theorem bO {i:Nat} {xs:List D} {δ δ':DS} (h:aF i δ = some (xs,δ')):(∃ b,δ[i]? = some (.ow b xs)) ∧ δ = δ':= by
 unfold aF at h
 split at h
 ·rename_i b ys e; cases h; exact ⟨⟨b,e⟩,rfl⟩
 ·cases h
end
end Jt
namespace Jt
open PySem L2
section
variable {X:Cx} {a b e tg iter elt:Expr} {fa fb te:M D} {fF:M (List D)} {pos:Pos} {st:Stmt} {rest:List Stmt} {f g body:M Fl} {tt:M Bool} {fi:M k_} {gt:D -> M Unit}
theorem Sl.drop {c:Ct} {δ:DS} {A S:List D} {σ:St} {P T:List V} {H:Hp} (s:Sl c δ (A ++ S) σ (P ++ T) H) (l:P.length = A.length):Sl c δ S σ T H:=s.stk (s.st.right l)
theorem Sl.rot {c:Ct} {δ:DS} {A B S:List D} {σ:St} {P Q T:List V} {H:Hp} (s:Sl c δ (A ++ (B ++ S)) σ (P ++ (Q ++ T)) H) (l:P.length = A.length) (l2:Q.length = B.length):Sl c δ (B ++ (A ++ S)) σ (Q ++ (P ++ T)) H :=
 s.stk (((s.st.right l).left l2).append ((s.st.left l).append ((s.st.right l).right l2)))
def forM (gt:D -> M Unit) (body:M Fl) (fin:DS -> Bool):List (DS -> Option D) -> M Fl
 | [] => fun δ => if fin δ = true then some (.nx,δ) else none
 | a :: r => fun δ => match a δ with
  | none => none
  | some d => (do
   gt d
   let fl <- body
   match fl with
   | .nx => forM gt body fin r
   | .ct => forM gt body fin r
   | .bk => pure .nx
   | .rt d => pure (.rt d)
   | .rf d => pure (.rf d)) δ
theorem du {sts:List Stmt} (hi:DI X tg iter fi) (hg:DG X 0 tg gt) (hb:rZ X sts body) (hp:PassesOwn (model X.prog X.w) X.A X.env X.xe:=by exact PassesOwn.never) (hc:X.calm = true:=by rfl)
  (hs:∀ x,foldedSetIterable iter X.env x = pure x:=by intro _; rfl):ql X (.For tg iter sts [] pos) (do let it <- fi; forM gt body it.2 it.1):=j7 (Fp hp hc hi hg hb hs) fun E σ0 H0 ⟨c,δ0,S,T,fl,δ',s0,e,k⟩ => by
 obtain ⟨it,δ1,e1,e⟩:=bind_some e
 refine ⟨c,δ0,S,T,it,δ1,s0,e1,fun J Sx Tx H1 l hJ s1 => ?_⟩
 obtain ⟨items,fin⟩:=it
 refine ⟨fun i m σ H => ∃ δi,m = items.length - i ∧ i ≤ items.length ∧ Sl c δi (Sx ++ S) σ (Tx ++ T) H ∧ forM gt body fin (items.drop i) δi = some (fl,δ'),⟨_,δ1,rfl,Nat.zero_le _,s1,e⟩,?_⟩
 rintro i m σ H ⟨δi,rfl,hi,s,em⟩
 by_cases hlt:i < items.length
 ·rw [List.drop_eq_getElem_cons hlt] at em
  unfold forM at em
  cases ea:items[i] δi with
  | none => rw [ea] at em; cases em
  | some d =>
   rw [ea] at em
   dsimp only at em
   obtain ⟨u,δ2,e2,em⟩:=bind_some em
   obtain ⟨fl1,δ3,e3,em⟩:=bind_some em
   obtain ⟨go,yld⟩:=(hJ c δi S σ T H i s).1 items[i] d (List.getElem?_eq_getElem hlt) ea
   refine .inr ⟨go,fun σ' H' => ∃ δi,Sl c δi (Sx ++ S) σ' (Tx ++ T) H' ∧ forM gt body fin (items.drop (i + 1)) δi = some (fl,δ'),fun σ' H' ⟨δj,sj,ej⟩ => ⟨items.length - (i + 1),by omega,δj,rfl,hlt,sj,ej⟩,fun x H' y => ?_⟩
   refine ⟨c,δi,Sx ++ S,Tx ++ T,d,δ2,yld x H' y,e2,fun σ2 H2 _ s2 => ⟨c,δ2,Sx ++ S,Tx ++ T,fl1,δ3,s2,e3,?_⟩⟩
   cases fl1 with
   | nx => exact fun σ' H' s' => ⟨δ3,s',em⟩
   | ct => exact fun σ' H' s' => ⟨δ3,s',em⟩
   | bk =>
    obtain ⟨rfl,rfl⟩:=aq em
    exact fun σ' H' s' => k _ _ (s'.drop l)
   | rt d' =>
    obtain ⟨rfl,rfl⟩:=aq em
    exact fun v σ' H' s' => k v σ' H' (s'.stk (.cons s'.st.head (s'.st.tail.right l)))
   | rf xs =>
    obtain ⟨rfl,rfl⟩:=aq em
    exact fun q vs σ' H' h1 h2 h3 h4 h5 => k q vs σ' H' h1 (h2.stk ((h2.st.left h1).append ((h2.st.right h1).right l))) h3 h4 h5
 ·have ei:i = items.length:=by omega
  subst ei
  rw [List.drop_length] at em
  unfold forM at em
  by_cases hf:fin δi = true
  ·rw [if_pos hf] at em
   cases em
   exact .inl ⟨(hJ c _ S σ T H _ s).2 rfl hf,k _ _ (s.drop l)⟩
  ·rw [if_neg hf] at em; cases em
def JR (J:It) (its:k_) (Sx:List D) (Tx:List V) (σ:St):Prop:=∀ (c:Ct) (δ:DS) (S:List D) (T:List V) (H:Hp) (i:Nat),Sl c δ (Sx ++ S) σ (Tx ++ T) H ->
 (∀ act d,its.1[i]? = some act -> act δ = some d -> J.go i H ∧ ∀ x H',J.yld i H x H' -> Sl c δ (d :: (Sx ++ S)) σ (x :: (Tx ++ T)) H') ∧ (i = its.1.length -> its.2 δ = true -> J.stop i H)
inductive Jd (f:M k_) (σ:St) (H:Hp) (R:It -> Hp -> Prop):Prop
 | mk (c:Ct) (δ:DS) (S:List D) (T:List V) (it:k_) (δ':DS) (s:Sl c δ S σ T H) (e:f δ = some (it,δ')) (q:∀ J Sx Tx H',Tx.length = Sx.length -> JR J it Sx Tx σ -> Sl c δ' (Sx ++ S) σ (Tx ++ T) H' -> R J H'):Jd f σ H R
abbrev DC (X:Cx) (tg iter:Expr) (f:M k_):Prop:=PI X tg iter (Jd f)
theorem bT (h:DI X tg iter fi):DC X tg iter fi:=v9 h fun σ H R ⟨c,δ,S,T,it,δ',s,e,k⟩ => ⟨c,δ,S,T,it,δ',s,e,fun J Sx Tx H' l hJ s' => k J Sx Tx H' l (fun c δ S T H i => hJ c δ S σ T H i) s'⟩
theorem Dz (i:Nat) {x:Str} {pos:Pos} (hN:X.N[i]? = some x:=by rfl) (hv:ug X.env.scope x:=by first | exact Or.inl rfl | exact Or.inr (Or.inl rfl) | exact Or.inr (Or.inr rfl)) (hd:(x == ("__debug__":Str)) = false:=by decide)
  (hcd:(x == ("__classdict__":Str)) = false:=by decide):DC X tg (.Name x pos) (do let xs <- aF i; pure (c9 i xs.length)):=v9 (BO (eJ hN hv hd hcd)) fun σ H R ⟨c,δ,S,T,it,δ',s,e,k⟩ => by
 obtain ⟨xs,δ1,e1,e⟩:=bind_some e
 obtain ⟨rfl,rfl⟩:=aq e
 obtain ⟨⟨b,hi⟩,rfl⟩:=bO e1
 obtain ⟨a,vs,ea,hH,hv,_⟩:=s.ow i b xs hi
 refine ⟨_,ea,a,rfl,⟨vs,.of hH⟩,k _ [] [] H rfl ?_ s⟩
 intro c δ S T H j s
 refine ⟨fun act d ha hd => ?_,fun ej hf => ?_⟩
 ·unfold c9 at ha
  rw [List.getElem?_map] at ha
  have hj:j < xs.length:= by
   by_cases hj:j < xs.length
   ·exact hj
   ·rw [List.getElem?_eq_none (by simp; omega)] at ha; cases ha
  rw [List.getElem?_range hj] at ha
  cases ha
  dsimp only at hd
  split at hd
  ·rename_i b' ys hy
   split at hd
   ·obtain ⟨a',ws,ea',hH',hv',_⟩:=s.ow i b' ys hy
    rw [ea] at ea'; cases ea'
    obtain ⟨v,hv2,r⟩:=hv'.get hd
    refine ⟨⟨ws,v,.of hH',hv2⟩,fun x H' y => ?_⟩
    obtain ⟨rfl,y⟩:=y
    have:=y ws (.of hH')
    rw [hv2] at this; cases this
    exact s.stk (.cons r s.st)
   ·cases hd
  ·cases hd
 ·unfold c9 at hf ej
  dsimp only at hf
  split at hf
  ·rename_i b' ys hy
   obtain ⟨a',ws,ea',hH',hv',_⟩:=s.ow i b' ys hy
   rw [ea] at ea'; cases ea'
   have hl:ys.length = xs.length:=of_decide_eq_true hf
   refine ⟨ws,.of hH',?_⟩
   rw [hv'.length,ej]
   simp
   omega
  ·cases hf
def bh (gt:D -> M Unit) (tt:M Bool) (te:M D) (d:D):M (Option D):=do
 gt d
 let b <- tt
 if b = true then do
  let x <- te
  pure (some x)
 else pure none
def dJ (own:Nat) (turn:D -> M (Option D)) (fin:DS -> Bool):List (DS -> Option D) -> M (List D)
 | [] => fun δ => if fin δ = true then some ([],δ) else none
 | a :: r => fun δ => match a δ with
  | none => none
  | some d => match turn d (δ ++ List.replicate own .un) with
   | none => none
   | some (o,δ2) => match dJ own turn fin r (δ2.take δ.length) with
    | none => none
    | some (xs,δ3) => some (o.toList ++ xs,δ3)
def iU (n:Nat):M Unit:=fun δ => if δ.length = n then some ((),δ) else none
def aX (lo own:Nat) (fi:M k_) (turn:D -> M (Option D)):M (List D):=do
 iU lo
 let it <- fi
 let _ <- lift (few it.1.length)
 dJ own turn it.2 it.1
theorem mW {lo own:Nat}:∀ σ H Q,FV (aX lo own fi (bh gt tt te)) σ H Q -> u5 (Jd fi) own (Jm lo gt) (z_ tt) (tM te) σ H Q:=fun σ H Q ⟨c,δ0,S,T,xs,δ',s0,e,k⟩ => by
 obtain ⟨u,δ1,e0,e⟩:=bind_some e
 have hlo:σ.length = lo ∧ δ0 = δ1:= by
  unfold iU at e0
  split at e0
  ·cases e0; exact ⟨by rw [<- s0.len]; assumption,rfl⟩
  ·cases e0
 obtain ⟨hlo,rfl⟩:=hlo
 obtain ⟨it,δ2,e1,e⟩:=bind_some e
 obtain ⟨u',δ3,e2,e⟩:=bind_some e
 obtain ⟨e3,rfl⟩:=aA e2
 have hfew:=(jE e3).2
 refine ⟨c,δ0,S,T,it,δ2,s0,e1,fun J Sx Tx H1 l hJ s1 q hq => ?_⟩
 obtain ⟨items,fin⟩:=it
 dsimp only at e hfew
 obtain ⟨f1,f2,f3⟩:=s1.fresh hq
 refine ⟨fun i m acc H => ∃ δi accD xsR,m = items.length - i ∧ i ≤ items.length ∧ acc.length = accD.length ∧ acc.length ≤ i ∧ Sl { c with Z:=upd c.Z q (.lst acc) } δi (accD ++ (Sx ++ S)) σ (acc ++ (Tx ++ T)) H ∧
  dJ own (bh gt tt te) fin (items.drop i) δi = some (xsR,δ') ∧ accD ++ xsR = xs,⟨_,δ2,[],xs,rfl,Nat.zero_le _,rfl,Nat.le_refl _,s1.hide hq,e,rfl⟩,?_⟩
 rintro i m acc H ⟨δi,accD,xsR,rfl,hi,la,li,s,em,ex⟩
 have hacc:H q = some (.lst acc):=s.zz q _ aQ
 refine ⟨hacc,?_⟩
 have sr:=s.rot la l
 by_cases hlt:i < items.length
 ·rw [List.drop_eq_getElem_cons hlt] at em
  unfold dJ at em
  cases ea:items[i] δi with
  | none => rw [ea] at em; cases em
  | some d =>
   rw [ea] at em
   dsimp only at em
   cases et:bh gt tt te d (δi ++ List.replicate own .un) with
   | none => rw [et] at em; cases em
   | some p =>
    obtain ⟨o,δt⟩:=p
    rw [et] at em
    dsimp only at em
    cases ec:dJ own (bh gt tt te) fin (items.drop (i + 1)) (δt.take δi.length) with
    | none => rw [ec] at em; cases em
    | some p =>
     obtain ⟨xs3,δ3⟩:=p
     rw [ec] at em
     cases em
     obtain ⟨u1,δa,ea1,et⟩:=bind_some et
     obtain ⟨b,δb,eb1,et⟩:=bind_some et
     obtain ⟨go,yld⟩:=(hJ { c with Z:=upd c.Z q (.lst acc) } δi (accD ++ S) (acc ++ T) H i sr).1 items[i] d (List.getElem?_eq_getElem hlt) ea
     refine .inr ⟨go,fun x H' y => ?_⟩
     refine ⟨{ c with Z:=upd c.Z q (.lst acc) },δi ++ List.replicate own .un,Sx ++ (accD ++ S),Tx ++ (acc ++ T),d,δa,(yld x H' y).ext own,ea1,fun σ2 H2 hn s2 => ?_⟩
     have ht:σ2.take σ.length = σ:= by
      rw [hn _ (Nat.le_of_eq hlo)]
      exact List.take_left' rfl
     refine ⟨ht,{ c with Z:=upd c.Z q (.lst acc) },δa,Sx ++ (accD ++ S),Tx ++ (acc ++ T),b,δb,s2,eb1,fun H3 s3 => ?_⟩
     have cutL:δi.length = σ.length:=s.len
     cases b with
     | true =>
      rw [if_pos rfl] at et
      refine G7 ?_
      obtain ⟨y1,δy,ey,et⟩:=bind_some et
      obtain ⟨rfl,rfl⟩:=aq et
      refine ⟨{ c with Z:=upd c.Z q (.lst acc) },δb,Sx ++ (accD ++ S),Tx ++ (acc ++ T),y1,δy,s3,ey,fun v H4 s4 => ?_⟩
      refine ⟨s4.zz q _ aQ,by omega,items.length - (i + 1),by omega,δy.take δi.length,accD ++ [y1],xs3,rfl,hlt,by simp [la],by simp; omega,?_,ec,by rw [<- ex]; simp⟩
      have s5:=s4.cut σ.length
      rw [ht,<- cutL] at s5
      have s6:=Sl.hideSet (.lst (acc ++ [v])) s5 f2 f3
      refine s6.stk ?_
      have h1:=s6.st.head
      have h2:=s6.st.tail.left l
      have h3:=s6.st.tail.right l
      have h4:=h3.left la
      have h5:=h3.right la
      exact (h4.append (.cons h1 .nil)).append (h2.append h5)
     | false =>
      rw [if_neg Bool.false_ne_true] at et
      refine GZ ?_
      obtain ⟨rfl,rfl⟩:=aq et
      refine ⟨items.length - (i + 1),by omega,δb.take δi.length,accD,xs3,rfl,hlt,la,by omega,?_,ec,ex⟩
      have s5:=s3.cut σ.length
      rw [ht,<- cutL] at s5
      exact s5.rot l la
 ·have ei:i = items.length:=by omega
  subst ei
  rw [List.drop_length] at em
  unfold dJ at em
  by_cases hf:fin δi = true
  ·rw [if_pos hf] at em
   cases em
   rw [List.append_nil] at ex
   subst ex
   refine .inl ⟨(hJ { c with Z:=upd c.Z q (.lst acc) } _ (accD ++ S) (acc ++ T) H _ sr).2 rfl hf,k q acc H la ?_ f1 f2 f3⟩
   exact s.stk ((s.st.left la).append ((s.st.right la).right l))
  ·rw [if_neg hf] at em; cases em
theorem cU:zV X [] (z_ (pure true)):=fun pins s σ H Q I ⟨c,δ,S,T,b,δ',sl,e,k⟩ => by
 obtain ⟨rfl,rfl⟩:=aq e
 exact B0 pins s σ H Q I (k H sl)
theorem bU {t:Expr} (h:DT X t tt):zV X [t] (z_ tt):=Bu h
variable {N' own:List Str} {scope:Scope} {ifs:List Expr} {lo:Nat}
theorem bx (hi:DC X tg iter fi) (hg:∀ s H fp pins,DG (blk X N' own scope s H fp pins) lo tg gt) (ht:∀ s H fp pins,zV (blk X N' own scope s H fp pins) ifs (z_ tt)) (he:∀ s H fp pins,DE (blk X N' own scope s H fp pins) elt te)
  (hS:iz N' own X.env.scope scope = true:=by rfl) (hM:hX X.N N' scope = true:=by rfl) (hk:scope.kind = .function:=by rfl) (hc:X.calm = true:=by rfl) (hs:∀ x,foldedSetIterable iter X.env x = pure x:=by intro _; rfl) :
  DF X (.ListComp elt [⟨tg,iter,ifs,0⟩] scope pos) (aX lo own.length fi (bh gt tt te)):=cG (A5 hi hg ht he hS hM hk hc hs) mW
theorem BL (i:Nat) {x:Str} {pos'' pos1:Pos} (hN:X.N.Nodup) (hi:DC X tg iter fi) (hg:∀ s H fp pins,DG (blk X N' own scope s H fp pins) lo tg gt) (ht:∀ s H fp pins,zV (blk X N' own scope s H fp pins) ifs (z_ tt)) (he:∀ s H fp pins,DE (blk X N' own scope s H fp pins) elt te)
  (hx0:X.N[i]? = some x:=by rfl) (hx:X.env.scope.names.lookup x = some .local:=by rfl)
  (hsw:swapsWith (.ListComp elt [⟨tg,iter,ifs,0⟩] scope pos) (some (.Name x pos'')) pos1.line X.env = pure true:=by rfl)
  (hS:iz N' own X.env.scope scope = true:=by rfl) (hM:hX X.N N' scope = true:=by rfl) (hk:scope.kind = .function:=by rfl) (hc:X.calm = true:=by rfl) (hs:∀ x,foldedSetIterable iter X.env x = pure x:=by intro _; rfl) :
  ql X (.Assign [.Name x pos''] (.ListComp elt [⟨tg,iter,ifs,0⟩] scope pos) pos1) (sx i (aX lo own.length fi (bh gt tt te))) :=
 j7 (ue hN hx0 hx hi hg ht he hsw hS hM hk hc hs) (HJ mW)
theorem JS {te:TE} {f:M (List D)} (w:∀ σ H Q,FV f σ H Q -> te σ H Q):∀ σ H Q,tM (do let xs <- f; pure (.lst xs)) σ H Q -> te σ H Q:=fun σ H Q ⟨c,δ,S,T,d,δ',s,e,k⟩ => by
 obtain ⟨xs,δ1,e1,e2⟩:=bind_some e
 obtain ⟨rfl,rfl⟩:=aq e2
 exact w _ _ _ ⟨c,δ,S,T,xs,δ1,s,e1,fun l vs H' hl s' hz _ _ => k _ _ (s'.unhideL hl hz)⟩
theorem eT (i:Nat) {x:Str} {pos'' pos1:Pos} (hN:X.N.Nodup) (hi:DC X tg iter fi) (hg:∀ s H fp pins,DG (blk X N' own scope s H fp pins) lo tg gt) (ht:∀ s H fp pins,zV (blk X N' own scope s H fp pins) ifs (z_ tt)) (he:∀ s H fp pins,DE (blk X N' own scope s H fp pins) elt te)
  (hx0:X.N[i]? = some x:=by rfl) (hx:X.env.scope.names.lookup x = some .local:=by rfl)
  (hsw:swapsWith (.ListComp elt [⟨tg,iter,ifs,0⟩] scope pos) (some (.Name x pos'')) pos1.line X.env = pure true:=by rfl)
  (hS:iz N' own X.env.scope scope = true:=by rfl) (hM:hX X.N N' scope = true:=by rfl) (hk:scope.kind = .function:=by rfl) (hc:X.calm = true:=by rfl) (hs:∀ x,foldedSetIterable iter X.env x = pure x:=by intro _; rfl) :
  ql X (.Assign [.Name x pos''] (.ListComp elt [⟨tg,iter,ifs,0⟩] scope pos) pos1) (dD i (do let xs <- aX lo own.length fi (bh gt tt te); pure (.lst xs))) :=
 j7 (ue hN hx0 hx hi hg ht he hsw hS hM hk hc hs) (HN (JS mW))
end
end Jt
namespace Jt
open PySem L2
def hz (Z H:Hp):Hp:=Fb (fun a => ∃ o,Z a = some o) H
def iZ (n:Nat) (mf:List D -> Option D):Sp:=fun vs H Q _ => vs.length = n ∧ ∃ (Z:Hp) (ds:List D) (d:D),(∀ a o,Z a = some o -> H a = some o) ∧ Rs (hz Z H) ds vs ∧ mf ds = some d ∧ ∀ v H',xq H H' -> R (hz Z H') d v -> Q v H'
def CP (n:Nat) (mf:List D -> Option (List D)):Sp:=fun vs H Q _ => vs.length = n ∧ ∃ (Z:Hp) (ds:List D) (xs:List D),(∀ a o,Z a = some o -> H a = some o) ∧ Rs (hz Z H) ds vs ∧ mf ds = some xs ∧
 ∀ l ws H',xq H H' -> H l = none -> H' l = some (.lst ws) -> Rs (hz (upd Z l (.lst ws)) H') xs ws -> Q (.ref l) H'
def vp (n:Nat) (mf:List D -> List D -> Option (D × List D)):Sp:=fun vs H Q _ => vs.length = n ∧ ∃ (Z:Hp) (a:Addr) (ws:List V) (xs:List D) (us:List V) (ds:List D) (d:D) (xs':List D),vs = .ref a :: us ∧ (∀ b o,Z b = some o -> H b = some o) ∧ Z a = none ∧ H a = some (.lst ws) ∧
 Rs (hz (upd Z a (.lst ws)) H) xs ws ∧ Rs (hz (upd Z a (.lst ws)) H) ds us ∧ mf xs ds = some (d,xs') ∧
 ∀ v ws' H',(∀ b o,b ≠ a -> H b = some o -> H' b = some o) -> H' a = some (.lst ws') -> Rs (hz (upd Z a (.lst ws')) H') xs' ws' -> R (hz (upd Z a (.lst ws')) H') d v -> Q v H'
section
variable {c:Ct} {δ:DS} {S:List D} {σ:St} {T:List V} {H:Hp}
open Classical in
def BW (c:Ct) (δ:DS) (σ:St) (H:Hp):Hp:=fun a => if Hd c δ σ a then H a else none
theorem iE (s:Sl c δ S σ T H) (a:Addr):(∃ o,BW c δ σ H a = some o) ↔ Hd c δ σ a:= by
 unfold BW
 by_cases h:Hd c δ σ a
 ·rw [if_pos h]; exact Iff.intro (fun _ => h) fun _ => s.hdSome h
 ·rw [if_neg h]; exact Iff.intro (fun ⟨o,z⟩ => nomatch z) fun z => absurd z h
theorem tq (a:Addr) (o:HO) (h:BW c δ σ H a = some o):H a = some o:= by
 unfold BW at h
 split at h
 ·exact h
 ·cases h
end
section
variable {X:Cx} {a b e:Expr} {fa fb:M D} {fs:M (List D)} {pos p:Pos} {es:List Expr} {x:Str} {k:Nat} {f:Addr} {fd:FuncData} {ps:List Str}
theorem Ai {mf:List D -> Option D} {n:Nat} (F:dW X.prog X.w X.K X.mg X.base dg k f fd ps (iZ n mf)) (hr:cX k X.A) (hm:X.mg x = some (.ref f)) (hk:PySem.W.keepIn X.K (.ref f) = true) (hb:Binds X.K fd ps []) (ha:DA X (a :: es) fs)
  (hg:Gl X x:=by rfl) (hdb:(x == ("__debug__":Str)) = false:=by decide) (he:starEach (a :: es) X.env = (false,eval a X.env) :: starEach es X.env:=by rfl) (hpl:(backTo pos (starEach es X.env)).any (·.1) = false:=by rfl) :
  DE X (.Call (.Name x p) (a :: es) [] pos) (mC (fun ds => if ds.length = n then mf ds else none) fs):=cG (pF F hr hg hm hk hb .nil yJ ha hdb he hpl) fun σ H Q ⟨c,δ,S,T,d,δ',s,e,k⟩ => by
 obtain ⟨ds,δ1,e1,e⟩:=bind_some e
 obtain ⟨e2,rfl⟩:=aA e
 refine ⟨c,δ,S,T,ds,δ1,s,e1,fun vs H1 l s1 => ?_⟩
 dsimp only at e2 ⊢
 split at e2
 ·rename_i hn
  rw [List.append_nil]
  refine ⟨l.trans hn,BW c δ1 σ H1,ds,d,tq,(s1.st.left l).mono (bo (fun a o _ z => (iE s1 a).mp z) fun _ _ _ h => h),e2,fun v H' g r => k v H' ?_⟩
  have s2:=s1.grow g
  exact s2.stk (.cons (r.mono (bo (fun a o _ z => (iE s1 a).mpr z) fun _ _ _ h => h)) (s2.st.right l))
 ·cases e2
theorem Ck {mf:List D -> Option (List D)} {n:Nat} (F:dW X.prog X.w X.K X.mg X.base dg k f fd ps (CP n mf)) (hr:cX k X.A) (hm:X.mg x = some (.ref f)) (hk:PySem.W.keepIn X.K (.ref f) = true) (hb:Binds X.K fd ps []) (ha:DA X (a :: es) fs)
  (hg:Gl X x:=by rfl) (hdb:(x == ("__debug__":Str)) = false:=by decide) (he:starEach (a :: es) X.env = (false,eval a X.env) :: starEach es X.env:=by rfl) (hpl:(backTo pos (starEach es X.env)).any (·.1) = false:=by rfl) :
  DF X (.Call (.Name x p) (a :: es) [] pos) (mC (fun ds => if ds.length = n then mf ds else none) fs):=cG (pF F hr hg hm hk hb .nil yJ ha hdb he hpl) fun σ H Q ⟨c,δ,S,T,d,δ',s,e,k⟩ => by
 obtain ⟨ds,δ1,e1,e⟩:=bind_some e
 obtain ⟨e2,rfl⟩:=aA e
 refine ⟨c,δ,S,T,ds,δ1,s,e1,fun vs H1 l s1 => ?_⟩
 dsimp only at e2 ⊢
 split at e2
 ·rename_i hn
  rw [List.append_nil]
  refine ⟨l.trans hn,BW c δ1 σ H1,ds,d,tq,(s1.st.left l).mono (bo (fun a o _ z => (iE s1 a).mp z) fun _ _ _ h => h),e2,fun q ws H' g hq hq' r => ?_⟩
  obtain ⟨f1,f2,f3⟩:=s1.fresh hq
  have s2:Sl { c with Z:=upd c.Z q (.lst ws) } δ1 S σ T H':= by
   have h0:=(s1.drop l).hide (o:=.lst ws) hq
   refine h0.grow fun b o hb => ?_
   by_cases eb:b = q
   ·subst eb; rw [aQ] at hb; cases hb; exact hq'
   ·rw [az eb] at hb; exact g b o hb
  refine k q ws H' r.length (s2.stk ((r.mono (bo (fun a o ha z => ?_) fun _ _ _ h => h)).append s2.st)) f1 f2 f3
  rcases z with ⟨w,z⟩ | z
  ·have z':upd c.Z q (.lst ws) a = some w:=z
   by_cases ea:a = q
   ·subst ea; exact ⟨_,aQ⟩
   ·rw [az ea] at z'
    obtain ⟨o',h'⟩:=(iE s1 a).mpr (.inl ⟨w,z'⟩)
    exact ⟨o',by rw [az ea]; exact h'⟩
  ·have ea:a ≠ q:=fun ea => s1.hdNew hq (.inr (by rw [<- ea]; exact z))
   obtain ⟨o',h'⟩:=(iE s1 a).mpr (.inr z)
   exact ⟨o',by rw [az ea]; exact h'⟩
 ·cases e2
def bR (i n:Nat) (mf:List D -> List D -> Option (D × List D)) (fs:M (List D)):M D:=fun δ => match fs δ with
 | none => none
 | some (ds,δ1) => match δ1[i]? with
  | some (.ow b xs) => if ds.length + 1 = n then (match mf xs ds with
   | none => none
   | some (d,xs') => some (d,δ1.set i (.ow b xs'))) else none
  | _ => none
theorem vS (i:Nat) {mf:List D -> List D -> Option (D × List D)} {n:Nat} {y:Str} {py:Pos} (F:dW X.prog X.w X.K X.mg X.base dg k f fd ps (vp n mf)) (hr:cX k X.A) (hm:X.mg x = some (.ref f)) (hk:PySem.W.keepIn X.K (.ref f) = true) (hb:Binds X.K fd ps []) (ha:DA X es fs)
  (hN:X.N[i]? = some y:=by rfl) (hv:ug X.env.scope y:=by first | exact Or.inl rfl | exact Or.inr (Or.inl rfl) | exact Or.inr (Or.inr rfl)) (hd:(y == ("__debug__":Str)) = false:=by decide) (hcd:(y == ("__classdict__":Str)) = false:=by decide)
  (hg:Gl X x:=by rfl) (hdb:(x == ("__debug__":Str)) = false:=by decide) (he:starEach (.Name y py :: es) X.env = (false,eval (.Name y py) X.env) :: starEach es X.env:=by rfl) (hpl:(backTo pos (starEach es X.env)).any (·.1) = false:=by rfl) :
  DE X (.Call (.Name x p) (.Name y py :: es) [] pos) (do let _ <- aF i; bR i n mf fs):=cG (pF F hr hg hm hk hb .nil yJ (dY (eJ hN hv hd hcd) ha he) hdb he hpl) fun σ H Q ⟨c,δ,S,T,d,δ',s,e,k⟩ => by
 obtain ⟨xs0,δ0,e0,e⟩:=bind_some e
 obtain ⟨⟨b0,hi0⟩,rfl⟩:=bO e0
 obtain ⟨a,vs0,ea,_⟩:=s.ow i b0 xs0 hi0
 unfold bR at e
 cases e1:fs δ with
 | none => rw [e1] at e; cases e
 | some q =>
  obtain ⟨ds,δ1⟩:=q
  rw [e1] at e
  dsimp only at e
  split at e
  ·rename_i b xs hi
   split at e
   ·rename_i hn
    cases e2:mf xs ds with
    | none => rw [e2] at e; cases e
    | some q =>
     obtain ⟨d',xs'⟩:=q
     rw [e2] at e
     cases e
     refine ⟨_,ea,c,δ,S,T,ds,δ1,s,e1,fun vs H1 l s1 => ?_⟩
     dsimp only
     rw [List.append_nil]
     obtain ⟨a',ws,ea',hH,hxs,hB,hB',hZ⟩:=s1.ow i b xs hi
     rw [ea] at ea'; cases ea'
     have hda:Hd c δ1 σ a:=.inr ⟨i,b,xs,hi,ea⟩
     have zi:∀ (o:HO) (y:Addr),(∃ u,upd (fun z => if z = a then none else BW c δ1 σ H1 z) a o y = some u) ↔ Hd c δ1 σ y:=fun o y => by
      by_cases ey:y = a
      ·subst ey; rw [aQ]; exact Iff.intro (fun _ => hda) fun _ => ⟨o,rfl⟩
      ·rw [az ey,if_neg ey]; exact iE s1 y
     refine ⟨by simp [l]; omega,fun z => if z = a then none else BW c δ1 σ H1 z,a,ws,xs,vs,ds,d,xs',rfl,fun b o h => ?_,if_pos rfl,hH,hxs.mono (bo (fun y o _ z => (zi _ y).mp z) fun _ _ _ h => h),
      (s1.st.left l).mono (bo (fun y o _ z => (zi _ y).mp z) fun _ _ _ h => h),e2,fun v ws' H' g ga r1 r2 => k v H' ?_⟩
     ·dsimp only at h; split at h
      ·cases h
      ·exact tq _ _ h
     ·have gr:xq H1 (upd H' a (.lst ws)):=fun y o hy => by
       by_cases ey:y = a
       ·subst ey; rw [hH] at hy; cases hy; exact aQ
       ·rw [az ey]; exact g y o ey hy
      have s2:=(s1.drop l).grow gr
      have m2:∀ y o,hz (upd (fun z => if z = a then none else BW c δ1 σ H1 z) a (.lst ws')) H' y = some o -> fI c δ1 σ (upd H' a (.lst ws)) y = some o :=
       bo (fun y o _ z => (zi _ y).mpr z) fun y o hy h => by
        have:y ≠ a:=fun ey => hy (by rw [ey]; exact ⟨_,aQ⟩)
        rw [az this]; exact h
      have s3:=(s2.stk (.cons (r2.mono m2) s2.st)).mut hi ea (r1.mono m2)
      have eH:upd (upd H' a (.lst ws)) a (.lst ws') = H':= by
       rw [BH]
       funext y
       by_cases ey:y = a
       ·subst ey; rw [aQ,ga]
       ·rw [az ey]
      rw [eH] at s3
      exact s3
   ·cases e
  ·cases e
end
def entry (N:List Str) (ds:List D):DS:=ds.map .pu ++ List.replicate (N.length - ds.length) .un
def aW (N:List Str) (body:M Fl) (ds:List D):Option D:=match body (entry N ds) with
 | some (.rt d,_) => some d
 | some (.nx,_) => some .non
 | _ => none
def fY (N:List Str) (body:M Fl) (ds:List D):Option (List D):=match body (entry N ds) with
 | some (.rf xs,_) => some xs
 | _ => none
def eG (N:List Str) (xs ds:List D):DS:=.ow true xs :: (ds.map .pu ++ List.replicate (N.length - (ds.length + 1)) .un)
def bp (N:List Str) (body:M Fl) (xs ds:List D):Option (D × List D):=match body (eG N xs ds) with
 | some (.rt d,δ) => (match (show DS from δ)[0]? with
  | some (Slot.ow true xs') => some (d,xs')
  | _ => none)
 | _ => none
theorem d3 {ds:List D} {n:Nat} {i:Nat} {x:Slot} (h:(ds.map Slot.pu ++ List.replicate n .un)[i]? = some x):(∃ d,x = .pu d ∧ ds[i]? = some d) ∨ x = .un:= by
 by_cases hi:i < ds.length
 ·rw [List.getElem?_append_left (by simpa using hi),List.getElem?_map] at h
  cases q:ds[i]? with
  | none => rw [q] at h; cases h
  | some d => rw [q] at h; cases h; exact .inl ⟨d,rfl,rfl⟩
 ·rw [List.getElem?_append_right (by simpa using hi),List.getElem?_replicate] at h
  split at h
  ·cases h; exact .inr rfl
  ·cases h
theorem rB {Z H:Hp} {N:List Str} {ds:List D} {vs:List V} (hZ:∀ a o,Z a = some o -> H a = some o) (r:Rs (hz Z H) ds vs) (hl:vs.length ≤ N.length):Sl ⟨Z,[],H⟩ (entry N ds) [] (L2.start N vs) [] H:= by
 have noow:∀ a,¬ ur (entry N ds) (L2.start N vs) a:=fun a ⟨i,b,xs,h1,_⟩ => by
  rcases d3 h1 with ⟨d,e,_⟩ | e <;> cases e
 have m:∀ b o,hz Z H b = some o -> fI ⟨Z,[],H⟩ (entry N ds) (L2.start N vs) H b = some o:=bo (fun a o _ z => z.elim (fun z => z) fun z => absurd z (noow a)) fun _ _ _ h => h
 refine ⟨?_,fun i d h => ?_,fun i b xs h => ?_,fun i j b b' xs ys a h => ?_,.nil,fun b o _ h => h,fun b hb => (nomatch hb),hZ⟩
 ·have:=r.length
  simp only [entry,L2.start,List.length_append,List.length_map,List.length_replicate]
  omega
 ·rcases d3 h with ⟨d',e,hd⟩ | e
  ·cases e
   obtain ⟨v,hv,rv⟩:=r.get hd
   refine ⟨v,?_,rv.mono m⟩
   have hi:i < vs.length:=(List.getElem?_eq_some_iff.mp hv).1
   unfold L2.start
   rw [List.getElem?_append_left (by simpa using hi),List.getElem?_map,hv]; rfl
  ·cases e
 ·rcases d3 h with ⟨d',e,hd⟩ | e <;> cases e
 ·rcases d3 h with ⟨d',e,hd⟩ | e <;> cases e
section
variable {P:Program} {w:World} {K:PySem.W.Frag} {mg:Str -> Option Value} {base:Heap} {x qual:Str} {st:Stmt} {f:Addr} {fd:FuncData} {N ps:List Str} {k:Nat} {body:M Fl}
theorem JJ (F:Ba K x qual st f fd) (S:aG N ps (ak st)) (hb:∀ (cdv:Value) (A:Around) (outer:List Env) (s:Shared) (H:Hp) (E:XK),cX k (A.deeper (PyProof.Rows.envOfC qual (ak st) s.heap.objs.size f cdv)) -> rZ (jz dg P w K mg base N qual (ak st) f cdv A outer s H E).nox (cz st) body) :
  dW P w K mg base dg (k + 1) f fd ps (iZ ps.length (aW N body)):= by
 refine F.ok S (fun vs H Q E h => h.1) (fun cdv A outer s H vs Q E hr h => ⟨_,hb cdv A outer s H E hr,?_⟩)
 obtain ⟨hl,Z,ds,d,hZ,r,e,q⟩:=h
 have hpl:ps.length ≤ N.length:=by have:=congrArg List.length S.pre; rw [List.length_take] at this; omega
 have s0:=rB (N:=N) hZ r (by rw [hl]; exact hpl)
 have fin:∀ {δ':DS} {σ':St} {v:V} {H':Hp},Sl ⟨Z,[],H⟩ δ' [d] σ' [v] H' -> Q v H':=fun {δ' σ' v H'} s' =>
  q v H' (fun b o hb => s'.keep b o (by simp) hb) (s'.st.head.mono (bo (fun a o _ z => .inl z) fun _ _ _ h => h))
 unfold aW at e
 split at e
 ·rename_i d' δ' eb
  cases e
  exact ⟨_,_,_,_,_,_,s0,eb,fun v σ' H' s' => fin s'⟩
 ·rename_i δ' eb
  cases e
  exact ⟨_,_,_,_,_,_,s0,eb,fun σ' H' s' => fin (v:=.non) (s'.stk (.cons .mkN .nil))⟩
 ·cases e
theorem JW (F:Ba K x qual st f fd) (S:aG N ps (ak st)) (hb:∀ (cdv:Value) (A:Around) (outer:List Env) (s:Shared) (H:Hp) (E:XK),cX k (A.deeper (PyProof.Rows.envOfC qual (ak st) s.heap.objs.size f cdv)) -> rZ (jz dg P w K mg base N qual (ak st) f cdv A outer s H E).nox (cz st) body) :
  dW P w K mg base dg (k + 1) f fd ps (CP ps.length (fY N body)):= by
 refine F.ok S (fun vs H Q E h => h.1) (fun cdv A outer s H vs Q E hr h => ⟨_,hb cdv A outer s H E hr,?_⟩)
 obtain ⟨hl,Z,ds,d,hZ,r,e,q⟩:=h
 have hpl:ps.length ≤ N.length:=by have:=congrArg List.length S.pre; rw [List.length_take] at this; omega
 have s0:=rB (N:=N) hZ r (by rw [hl]; exact hpl)
 unfold fY at e
 split at e
 ·rename_i d' δ' eb
  cases e
  refine ⟨_,_,_,_,_,_,s0,eb,fun l vs' σ' H' h1 s' h3 h4 h5 => ?_⟩
  refine q l vs' H' (fun b o hb => s'.keep b o (by simp) hb) h5 (s'.zz l _ aQ) ?_
  exact (s'.st.left h1).mono (bo (fun a o _ z => .inl z) fun _ _ _ h => h)
 ·cases e
theorem JO (F:Ba K x qual st f fd) (S:aG N ps (ak st)) (hb:∀ (cdv:Value) (A:Around) (outer:List Env) (s:Shared) (H:Hp) (E:XK),cX k (A.deeper (PyProof.Rows.envOfC qual (ak st) s.heap.objs.size f cdv)) -> rZ (jz dg P w K mg base N qual (ak st) f cdv A outer s H E).nox (cz st) body) :
  dW P w K mg base dg (k + 1) f fd ps (vp ps.length (bp N body)):= by
 refine F.ok S (fun vs H Q E h => h.1) (fun cdv A outer s H vs Q E hr h => ⟨_,hb cdv A outer s H E hr,?_⟩)
 obtain ⟨hl,Z,a,ws,xs,us,ds,d,xs',rfl,hZ,hZa,hH,hxs,hds,e,q⟩:=h
 have hpl:ps.length ≤ N.length:=by have:=congrArg List.length S.pre; rw [List.length_take] at this; omega
 have hlu:us.length + 1 ≤ N.length:=by rw [<- hl] at hpl; simpa using hpl
 have ld:=hds.length
 have ow0:∀ b,ur (eG N xs ds) (L2.start N (.ref a :: us)) b -> b = a:=fun b ⟨i,bb,ys,h1,h2⟩ => by
  cases i with
  | zero => cases h2; rfl
  | succ i =>
   have h1':(ds.map Slot.pu ++ List.replicate (N.length - (ds.length + 1)) .un)[i]? = some (.ow bb ys):=by simpa [eG] using h1
   rcases d3 h1' with ⟨d,e,_⟩ | e <;> cases e
 have m:∀ b o,hz (upd Z a (.lst ws)) H b = some o -> fI ⟨Z,[a],H⟩ (eG N xs ds) (L2.start N (.ref a :: us)) H b = some o:=bo (fun b o _ z => by
  rcases z with ⟨o',z⟩ | z
  ·have z':Z b = some o':=z
   by_cases eb:b = a
   ·rw [eb,hZa] at z'; cases z'
   ·exact ⟨o',by rw [az eb]; exact z'⟩
  ·rw [ow0 b z]; exact ⟨_,aQ⟩) fun _ _ _ h => h
 have s0:Sl ⟨Z,[a],H⟩ (eG N xs ds) [] (L2.start N (.ref a :: us)) [] H:= by
  refine ⟨?_,fun i d h => ?_,fun i b ys h => ?_,fun i j b b' ys zs y h h' => ?_,.nil,fun b o _ h => h,fun b hb => ?_,hZ⟩
  ·simp only [eG,L2.start,List.length_append,List.length_map,List.length_replicate,List.length_cons]
   omega
  ·cases i with
   | zero => cases h
   | succ i =>
    have h':(ds.map Slot.pu ++ List.replicate (N.length - (ds.length + 1)) .un)[i]? = some (.pu d):=by simpa [eG] using h
    rcases d3 h' with ⟨d',e,hd⟩ | e
    ·cases e
     obtain ⟨v,hv,rv⟩:=hds.get hd
     refine ⟨v,?_,rv.mono m⟩
     have hi:i < us.length:=(List.getElem?_eq_some_iff.mp hv).1
     have:(L2.start N (.ref a :: us))[i + 1]? = some (some v):= by
      unfold L2.start
      rw [List.getElem?_append_left (by simpa using hi),List.getElem?_map,List.getElem?_cons_succ,hv]; rfl
     exact this
    ·cases e
  ·cases i with
   | zero =>
    cases h
    exact ⟨a,ws,rfl,hH,hxs.mono m,(fun _ => List.mem_singleton.mpr rfl),(fun z => absurd z (by simp)),hZa⟩
   | succ i =>
    have h':(ds.map Slot.pu ++ List.replicate (N.length - (ds.length + 1)) .un)[i]? = some (.ow b ys):=by simpa [eG] using h
    rcases d3 h' with ⟨d',e,hd⟩ | e <;> cases e
  ·intro _ _
   have z:∀ (i:Nat) b ys,(eG N xs ds)[i]? = some (.ow b ys) -> i = 0:=fun i b ys h => by
    cases i with
    | zero => rfl
    | succ i =>
     have h':(ds.map Slot.pu ++ List.replicate (N.length - (ds.length + 1)) .un)[i]? = some (.ow b ys):=by simpa [eG] using h
     rcases d3 h' with ⟨d',e,hd⟩ | e <;> cases e
   rw [z i b ys h,z j b' zs h']
  ·rw [List.mem_singleton.mp hb]; exact ⟨_,hH⟩
 unfold bp at e
 split at e
 ·rename_i d' δ' eb
  split at e
  ·rename_i ys hy
   cases e
   refine ⟨_,_,_,_,_,_,s0,eb,fun v σ' H' s' => ?_⟩
   obtain ⟨a',ws',ea,hH',hv',hB',_,_⟩:=s'.ow 0 true _ hy
   have ea2:a' = a:=List.mem_singleton.mp (hB' rfl)
   subst ea2
   have m':∀ b o,fI ⟨Z,[a'],H⟩ δ' σ' H' b = some o -> hz (upd Z a' (.lst ws')) H' b = some o:=bo (fun b o _ z => by
    obtain ⟨o',z⟩:=z
    by_cases eb:b = a'
    ·subst eb; exact .inr ⟨0,true,_,hy,ea⟩
    ·rw [az eb] at z; exact .inl ⟨o',z⟩) fun _ _ _ h => h
   exact q v ws' H' (fun b o hb h => s'.keep b o (fun z => hb (List.mem_singleton.mp z)) h) hH' (hv'.mono m') (s'.st.head.mono m')
  ·cases e
 ·cases e
end
end Jt
namespace Jt
open PySem L2
section
variable {X:Cx} {a b e:Expr} {fa fb:M D} {fs:M (List D)} {pos p apos cpos:Pos} {es:List Expr} {x:Str}
theorem Sl.own {c:Ct} {δ:DS} {S:List D} {σ:St} {T:List V} {H:Hp} (s:Sl c δ S σ T H) {i:Nat} {b:Bool} {xs:List D} (hi:δ[i]? = some (.ow b xs)):∃ a vs,σ[i]? = some (some (.ref a)) ∧ H a = some (.lst vs) ∧ Rs (fI c δ σ H) xs vs:= by
 obtain ⟨a,vs,h1,h2,h3,_⟩:=s.ow i b xs hi
 exact ⟨a,vs,h1,h2,h3⟩
def setOw (i:Nat) (xs:List D):M Unit:=fun δ => match δ[i]? with
 | some (.ow b _) => some ((),δ.set i (.ow b xs))
 | _ => none
theorem gB {i:Nat} {xs:List D} {δ δ':DS} {u:Unit} (h:setOw i xs δ = some (u,δ')):∃ b ys,δ[i]? = some (.ow b ys) ∧ δ' = δ.set i (.ow b xs):= by
 unfold setOw at h
 split at h
 ·rename_i b ys e; cases h; exact ⟨b,ys,e,rfl⟩
 ·cases h
def c5 (i:Nat) (fs:M (List D)):M Fl:=do
 let _ <- aF i
 let ds <- fs
 match ds with
 | [d] => do
  let xs <- aF i
  let _ <- lift (few xs.length)
  setOw i (xs ++ [d])
  pure .nx
 | _ => lift none
theorem cZ (i:Nat) (ha:DA X [a] fs) (hN:X.N[i]? = some x:=by rfl) (hv:ug X.env.scope x:=by first | exact Or.inl rfl | exact Or.inr (Or.inl rfl) | exact Or.inr (Or.inr rfl)) (hd:(x == ("__debug__":Str)) = false:=by decide) (hcd:(x == ("__classdict__":Str)) = false:=by decide)
  (hfew:((backTo cpos (starEach [a] X.env)).all (fun x => !x.1) && (backToKw cpos (keywordEach [] X.env)).all (fun x => x.1.isSome)
   && decide (([a]:List Expr).length + ([]:List Keyword).length + (if ([]:List Keyword).isEmpty then 0 else 1) < 30)) = true:=by rfl)
  (hline:(apos.endLine == cpos.line) = true:=by rfl) (hs:starEach [a] X.env = [(false,eval a X.env)]:=by rfl) (hsw:swapsWith (.Call (.Attribute (.Name x p) "append" apos) [a] [] cpos) none pos.line X.env = pure false:=by rfl) :
  ql X (.Expr (.Call (.Attribute (.Name x p) "append" apos) [a] [] cpos) pos) (c5 i fs) :=
 j7 (uR (Dc PySem.F.plainAttrs_list PySem.F.slot_list_append PySem.F.type_list_append ox (eJ hN hv hd hcd) ha rfl hfew hline hs rfl) hsw) fun E σ H ⟨c,δ,S,T,fl,δ',s,e,k⟩ => by
  obtain ⟨xs0,δ0,e0,e⟩:=bind_some e
  obtain ⟨⟨b0,hi0⟩,rfl⟩:=bO e0
  obtain ⟨q,vs0,eq,hq,_⟩:=s.own hi0
  obtain ⟨ds,δ1,e1,e⟩:=bind_some e
  refine ⟨_,eq,.inl ⟨rfl,vs0,.of hq⟩,c,δ,S,T,ds,δ1,s,e1,fun vs H1 l s1 => ?_⟩
  split at e
  ·rename_i d
   obtain ⟨xs,δ2,e2,e⟩:=bind_some e
   obtain ⟨⟨b1,hi1⟩,rfl⟩:=bO e2
   obtain ⟨_,δ3,e3,e⟩:=bind_some e
   obtain ⟨e4,rfl⟩:=aA e3
   obtain ⟨_,δ4,e5,e⟩:=bind_some e
   obtain ⟨rfl,rfl⟩:=aq e
   obtain ⟨b2,ys,hi2,rfl⟩:=gB e5
   rw [hi1] at hi2; cases hi2
   obtain ⟨q',ws,eq',hq',hx⟩:=s1.own hi1
   rw [eq] at eq'; cases eq'
   obtain ⟨v,rfl,r⟩:=r6 (s1.st.left l)
   refine ⟨q,ws,v,rfl,rfl,hq',by rw [hx.length]; exact (jE e4).2,k _ _ ?_⟩
   exact (s1.drop l).mut hi1 eq (hx.append (.cons r .nil))
  ·cases e
def wA (i:Nat) (fs:M (List D)):M D:=do
 let _ <- aF i
 let ds <- fs
 match ds with
 | [.int j] => do
  let xs <- aF i
  let d <- lift (if 0 ≤ j ∧ j < 100000 then xs[j.toNat]? else none)
  setOw i (xs.eraseIdx j.toNat)
  pure d
 | _ => lift none
theorem Rs.erase {H:Hp}:∀ {ds:List D} {vs:List V} (i:Nat),Rs H ds vs -> Rs H (ds.eraseIdx i) (vs.eraseIdx i)
 | [],vs,i,h => by rw [h.inv0]; simpa using Rs.nil
 | d :: ds,vs,0,h => by obtain ⟨v,r,e,_,h2⟩:=h.inv; subst e; exact h2
 | d :: ds,vs,i + 1,h => by obtain ⟨v,r,e,h1,h2⟩:=h.inv; subst e; exact .cons h1 (Rs.erase i h2)
theorem xt (i:Nat) (ha:DA X [a] fs) (hN:X.N[i]? = some x:=by rfl) (hv:ug X.env.scope x:=by first | exact Or.inl rfl | exact Or.inr (Or.inl rfl) | exact Or.inr (Or.inr rfl)) (hd:(x == ("__debug__":Str)) = false:=by decide) (hcd:(x == ("__classdict__":Str)) = false:=by decide)
  (hfew:((backTo cpos (starEach [a] X.env)).all (fun x => !x.1) && (backToKw cpos (keywordEach [] X.env)).all (fun x => x.1.isSome)
   && decide (([a]:List Expr).length + ([]:List Keyword).length + (if ([]:List Keyword).isEmpty then 0 else 1) < 30)) = true:=by rfl)
  (hline:(apos.endLine == cpos.line) = true:=by rfl) (hs:starEach [a] X.env = [(false,eval a X.env)]:=by rfl) :
  DE X (.Call (.Attribute (.Name x p) "pop" apos) [a] [] cpos) (wA i fs) :=
 cG (Dc PySem.F.plainAttrs_list PySem.F.slot_list_pop PySem.F.type_list_pop y9 (eJ hN hv hd hcd) ha rfl hfew hline hs rfl) fun σ H Q ⟨c,δ,S,T,fl,δ',s,e,k⟩ => by
  obtain ⟨xs0,δ0,e0,e⟩:=bind_some e
  obtain ⟨⟨b0,hi0⟩,rfl⟩:=bO e0
  obtain ⟨q,vs0,eq,hq,_⟩:=s.own hi0
  obtain ⟨ds,δ1,e1,e⟩:=bind_some e
  refine ⟨_,eq,.inl ⟨rfl,vs0,.of hq⟩,c,δ,S,T,ds,δ1,s,e1,fun vs H1 l s1 => ?_⟩
  split at e
  ·rename_i j
   obtain ⟨xs,δ2,e2,e⟩:=bind_some e
   obtain ⟨⟨b1,hi1⟩,rfl⟩:=bO e2
   obtain ⟨d,δ3,e3,e⟩:=bind_some e
   obtain ⟨e4,rfl⟩:=aA e3
   obtain ⟨_,δ4,e5,e⟩:=bind_some e
   obtain ⟨rfl,rfl⟩:=aq e
   obtain ⟨b2,ys,hi2,rfl⟩:=gB e5
   rw [hi1] at hi2; cases hi2
   obtain ⟨q',ws,eq',hq',hx⟩:=s1.own hi1
   rw [eq] at eq'; cases eq'
   obtain ⟨v,rfl,r⟩:=r6 (s1.st.left l)
   cases r.int
   split at e4
   ·rename_i hj
    obtain ⟨y,hy,ry⟩:=hx.get e4
    have hjl:j.toNat < ws.length:=(List.getElem?_eq_some_iff.mp hy).1
    refine ⟨q,ws,j,j.toNat,y,rfl,rfl,hq',by omega,by omega,?_,hy,k _ _ ?_⟩
    ·unfold seqIndex?
     have h1:¬ j < 0:=by omega
     simp only [h1,if_false]
     rw [if_pos]
     simp only [Bool.and_eq_true,decide_eq_true_eq]
     omega
    ·have s2:=s1.drop l
     exact (s2.stk (.cons ry s2.st)).mut hi1 eq (hx.erase j.toNat)
   ·cases e4
  ·cases e
def pQ (i:Nat) (fa:M D) (k:Int):M Fl:=do
 let d <- fa
 let xs <- aF i
 let j <- lift (sY xs.length k)
 setOw i (xs.set j d)
 pure .nx
theorem Rs.set {H:Hp} {d:D} {v:V} (r:R H d v):∀ {ds:List D} {vs:List V} (i:Nat),Rs H ds vs -> Rs H (ds.set i d) (vs.set i v)
 | [],vs,i,h => by rw [h.inv0]; simpa using Rs.nil
 | d :: ds,vs,0,h => by obtain ⟨v,q,e,_,h2⟩:=h.inv; subst e; exact .cons r h2
 | d :: ds,vs,i + 1,h => by obtain ⟨v,q,e,h1,h2⟩:=h.inv; subst e; exact .cons h1 (Rs.set r i h2)
theorem zf (i:Nat) {k:Int} {j:Nat} {pc psub:Pos} (he:DE X e fa) (hN:X.N[i]? = some x:=by rfl) (hv:ug X.env.scope x:=by first | exact Or.inl rfl | exact Or.inr (Or.inl rfl) | exact Or.inr (Or.inr rfl)) (hd:(x == ("__debug__":Str)) = false:=by decide) (hcd:(x == ("__classdict__":Str)) = false:=by decide)
  (ha:∀ v,assign (.Subscript (.Name x p) (.Constant (.int k) j pc) psub) X.env v = (do
   let ov <- holding [v] (eval (.Name x p) X.env)
   let iv <- holding [v,ov] (eval (.Constant (.int k) j pc) X.env)
   standAt psub
   holding [v,ov,iv] (setItem ov iv v)
   release [v,ov,iv] []):=by intro _; rfl)
  (hs:swapsWithSole [.Subscript (.Name x p) (.Constant (.int k) j pc) psub] e pos.line X.env = pure false:=by rfl) (hw:swappedStores [.Subscript (.Name x p) (.Constant (.int k) j pc) psub] e X.env = pure none:=by rfl)
  (h1:(assignEach [.Subscript (.Name x p) (.Constant (.int k) j pc) psub] X.env).map (·.2) = [assign (.Subscript (.Name x p) (.Constant (.int k) j pc) psub) X.env]:=by rfl) :
  ql X (.Assign [.Subscript (.Name x p) (.Constant (.int k) j pc) psub] e pos) (pQ i fa k) :=
 j7 (xj he (E8 (eJ hN hv hd hcd) tQ set_list ha) hs hw h1) fun E σ H ⟨c,δ,S,T,fl,δ',s,e,kk⟩ => by
  obtain ⟨d,δ1,e1,e⟩:=bind_some e
  obtain ⟨xs,δ2,e2,e⟩:=bind_some e
  obtain ⟨⟨b1,hi1⟩,rfl⟩:=bO e2
  obtain ⟨jj,δ3,e3,e⟩:=bind_some e
  obtain ⟨e4,rfl⟩:=aA e3
  obtain ⟨_,δ4,e5,e⟩:=bind_some e
  obtain ⟨rfl,rfl⟩:=aq e
  obtain ⟨b2,ys,hi2,rfl⟩:=gB e5
  rw [hi1] at hi2; cases hi2
  refine ⟨c,δ,S,T,d,δ1,s,e1,fun v H1 s1 => ?_⟩
  obtain ⟨q,ws,eq,hq,hx⟩:=s1.own hi1
  refine ⟨_,eq,q,ws,k,jj,rfl,rfl,hq,by rw [hx.length]; exact e4,kk _ _ ?_⟩
  exact s1.pop.mut hi1 eq (hx.set s1.st.head jj)
def pJ (i:Nat) (fb:M D):M D:=do
 let _ <- aF i
 let y <- fb
 let xs <- aF i
 lift (b_ (.lst xs) y)
theorem km (i:Nat) {px:Pos} (hb:DE X b fb) (hN:X.N[i]? = some x:=by rfl) (hv:ug X.env.scope x:=by first | exact Or.inl rfl | exact Or.inr (Or.inl rfl) | exact Or.inr (Or.inr rfl)) (hd:(x == ("__debug__":Str)) = false:=by decide) (hcd:(x == ("__classdict__":Str)) = false:=by decide)
  (hs:lg b:=by exact fun _ _ => rfl):DE X (.Subscript (.Name x px) b pos) (pJ i fb):=cG (CM uQ (eJ hN hv hd hcd) hb hs) fun σ H Q ⟨c,δ,S,T,fl,δ',s,e,k⟩ => by
 obtain ⟨xs0,δ0,e0,e⟩:=bind_some e
 obtain ⟨⟨b0,hi0⟩,rfl⟩:=bO e0
 obtain ⟨q,vs0,eq,hq,_⟩:=s.own hi0
 obtain ⟨y,δ1,e1,e⟩:=bind_some e
 obtain ⟨xs,δ2,e2,e⟩:=bind_some e
 obtain ⟨⟨b1,hi1⟩,rfl⟩:=bO e2
 obtain ⟨e3,rfl⟩:=aA e
 refine ⟨_,eq,c,δ,S,T,y,δ1,s,e1,fun u H2 s2 => ?_⟩
 obtain ⟨q',ws,eq',hq',hx⟩:=s2.own hi1
 rw [eq] at eq'; cases eq'
 cases y with
 | int j =>
  have e':ji xs j = some fl:=e3
  obtain ⟨z,e4,r⟩:=sv hx e'
  exact ⟨q,ws,j,z,rfl,s2.st.head.int,.of hq',e4,k _ _ (s2.stk (.cons r s2.st.tail))⟩
 | _ => cases e3
def jO (i:Nat):M D:=do
 let xs <- aF i
 pure (.int xs.length)
theorem iC (i:Nat) {px:Pos} (hm:X.mg "len" = none) (hg:Gl X "len":=by rfl) (hN:X.N[i]? = some x:=by rfl) (hv:ug X.env.scope x:=by first | exact Or.inl rfl | exact Or.inr (Or.inl rfl) | exact Or.inr (Or.inr rfl)) (hd:(x == ("__debug__":Str)) = false:=by decide) (hcd:(x == ("__classdict__":Str)) = false:=by decide) :
  DE X (.Call (.Name "len" p) [.Name x px] [] pos) (jO i):=cG (h9 jB hg hm PySem.boot_len (dY (eJ hN hv hd hcd) g8) (by decide) (by decide) rfl rfl) fun σ H Q ⟨c,δ,S,T,fl,δ',s,e,k⟩ => by
 obtain ⟨xs,δ1,e1,e⟩:=bind_some e
 obtain ⟨rfl,rfl⟩:=aq e
 obtain ⟨⟨b1,hi1⟩,rfl⟩:=bO e1
 obtain ⟨q,ws,eq,hq,hx⟩:=s.own hi1
 refine ⟨_,eq,q,ws,rfl,.inl (.of hq),k _ _ (s.stk (.cons ?_ s.st))⟩
 rw [hx.length]; exact .mkI
theorem bj (hm:X.mg "len" = none) (ha:DA X [a] fs) (hg:Gl X "len":=by rfl) (he:starEach [a] X.env = [(false,eval a X.env)]:=by rfl):DE X (.Call (.Name "len" p) [a] [] pos) (mC aZ fs) :=
 fV jB E7 hg hm PySem.boot_len ha (by decide) (by decide) he rfl
theorem vm:∀ {bs:List Bool} {its:List Value} {i:Nat} {v:Value},Vals (bs.map V.bl) its -> its[i]? = some v -> ∃ b,bs[i]? = some b ∧ v = .bool b:=fun {bs its i v} h e => by
 have hl:=h.length
 rw [List.length_map] at hl
 have hi:i < bs.length:=by rw [hl]; exact (List.getElem?_eq_some_iff.mp e).1
 obtain ⟨u,eu,r⟩:=h.get (i:=i) (x:=V.bl bs[i]) (by rw [List.getElem?_map,List.getElem?_eq_getElem hi]; rfl)
 rw [e] at eu; cases eu
 exact ⟨bs[i],List.getElem?_eq_getElem hi,r⟩
theorem tI (bs:List Bool):((List.range bs.length).all fun i => (bs[i]?).getD true) = bs.all id:= by
 rw [Bool.eq_iff_iff,List.all_eq_true,List.all_eq_true]
 constructor
 ·intro h b hb
  obtain ⟨i,hi,rfl⟩:=List.getElem_of_mem hb
  simpa [List.getElem?_eq_getElem hi] using h i (List.mem_range.mpr hi)
 ·intro h i hi
  have hi':=List.mem_range.mp hi
  simpa [List.getElem?_eq_getElem hi'] using h _ (List.getElem_mem hi')
theorem xR (hc:X.calm = true):dE X (.builtin "all") (fun xs H Q => ∃ (p:Addr) (bs:List Bool),xs = [.ref p] ∧ ip X.K H p (bs.map V.bl) ∧ Q (.bl (bs.all id)) H):= by
 intro pins s σ H xs us Q I r h
 obtain ⟨p,bs,rfl,hq,q⟩:=h
 obtain ⟨u,rfl,rx⟩:=r.one
 cases rx
 obtain ⟨its,rv,pl,hz⟩:=I.list hq
 have hlt:p < s.heap.objs.size:=by obtain ⟨_,e,_⟩:=pl.isList; exact Heap.lt_size e
 refine call_all_walk (wpAny_pyIter_list pl.isList ?_)
 refine ⟨s.heap.objs.size,[s.heap.objs.size,p],[s.heap.objs.size],its.toArray.size,_,_,fun i => (bs[i]?).getD true,rfl,Walks.list (A:=X.A.in1) (I.ok.hd hc) _ p (Nat.ne_of_lt hlt) its.toArray,
  ⟨⟨_,Heap.get?_push_size _ rfl,rfl,rfl⟩,pl.isList.push _⟩,fun i v s' Q' E' hP hQ => ?_,fun h' tk hk => ?_⟩
 ·obtain ⟨b,e,rfl⟩:=vm rv (by simpa using hP)
  simp only [e,Option.getD_some] at hQ
  exact wpAny_truthy_bool hQ
 ·have e:((List.range its.toArray.size).all fun i => (bs[i]?).getD true) = bs.all id:= by
   rw [List.size_toArray,<- rv.length,List.length_map]; exact tI bs
  rw [e]
  exact ⟨.bl _,H,I.kept fun b o eb => hk b o (fun hm => absurd (Heap.lt_size eb) (by rw [List.mem_singleton.mp hm]; exact Nat.lt_irrefl _)) (Heap.get?_push_of_some _ eb),rfl,q⟩
def boolsOf:List D -> Option (List Bool)
 | [] => some []
 | .bl b :: r => (boolsOf r).map (b :: ·)
 | _ => none
theorem rO {H:Hp}:∀ {ds:List D} {vs:List V} {bs:List Bool},Rs H ds vs -> boolsOf ds = some bs -> vs = bs.map V.bl
 | [],vs,bs,h,e => by cases e; exact h.inv0
 | d :: ds,vs,bs,h,e => by
  obtain ⟨v,r,ev,h1,h2⟩:=h.inv
  cases d with
  | bl b =>
   unfold boolsOf at e
   cases q:boolsOf ds with
   | none => rw [q] at e; cases e
   | some bs' =>
    rw [q] at e; cases e
    rw [ev,h1.bl,rO h2 q]; rfl
  | _ => cases e
def jg:List D -> Option D
 | [.lst ds] => (boolsOf ds).map fun bs => .bl (bs.all id)
 | _ => none
theorem zK {K:PySem.W.Frag} (g:List Bool -> Bool) (f:List D -> Option D) (hf:∀ ds d,f ds = some d -> ∃ es bs,ds = [.lst es] ∧ boolsOf es = some bs ∧ d = .bl (g bs)) :
  iV (fun xs H Q => ∃ (p:Addr) (bs:List Bool),xs = [.ref p] ∧ ip K H p (bs.map V.bl) ∧ Q (.bl (g bs)) H) f:=fun c δ S σ T H ds vs d Q l s e k => by
 obtain ⟨es,bs,rfl,e2,rfl⟩:=hf _ _ e
 have h:=s.st.left l
 have h2:=s.st.right l
 obtain ⟨v,rfl,r⟩:=r6 h
 obtain ⟨p,ws,rfl,h1,h3⟩:=r.lst
 have:=rO h3 e2
 subst this
 exact ⟨p,bs,rfl,.inl (Rd.mono bf h1),k _ _ (s.stk (.cons .mkB h2))⟩
theorem vE (ds:List D) (d:D) (h:jg ds = some d):∃ es bs,ds = [.lst es] ∧ boolsOf es = some bs ∧ d = .bl (bs.all id):= by
 unfold jg at h
 split at h
 ·rename_i es
  cases q:boolsOf es with
  | none => rw [q] at h; cases h
  | some bs => rw [q] at h; cases h; exact ⟨es,bs,rfl,q,rfl⟩
 ·cases h
theorem qj (hm:X.mg "all" = none) (ha:DA X [a] fs) (hg:Gl X "all":=by rfl) (hc:X.calm = true:=by rfl) (he:starEach [a] X.env = [(false,eval a X.env)]:=by rfl):DE X (.Call (.Name "all" p) [a] [] pos) (mC jg fs) :=
 fV (xR hc) (zK _ jg vE) hg hm PyProof.Rows.boot_all ha (by decide) (by decide) he rfl
theorem oQ {T:String} {r:List V -> Hp -> VK -> Prop} {f:List D -> Option D} (hc:dE X (.type T) r) (hd:iV r f) (hg:Gl X x) (hm:X.mg x = none) (hv:bootBuiltins x = some (.type T)) (ha:DA X (a :: es) fs) (hn:x ≠ "__name__":=by decide) (hdb:(x == ("__debug__":Str)) = false:=by decide)
  (he:starEach (a :: es) X.env = (false,eval a X.env) :: starEach es X.env:=by rfl) (hpl:(backTo pos (starEach es X.env)).any (·.1) = false:=by rfl):DE X (.Call (.Name x p) (a :: es) [] pos) (mC f fs) :=
 cG (fT hc hg hm hv ha hn hdb he hpl) (Dd hd)
theorem vJ {T:String} {r:List V -> Hp -> VK -> Prop} {f:List D -> Option (List D)} (hc:dE X (.type T) r) (hd:wK r f) (hg:Gl X x) (hm:X.mg x = none) (hv:bootBuiltins x = some (.type T)) (ha:DA X (a :: es) fs) (hn:x ≠ "__name__":=by decide) (hdb:(x == ("__debug__":Str)) = false:=by decide)
  (he:starEach (a :: es) X.env = (false,eval a X.env) :: starEach es X.env:=by rfl) (hpl:(backTo pos (starEach es X.env)).any (·.1) = false:=by rfl):DF X (.Call (.Name x p) (a :: es) [] pos) (mC f fs) :=
 cG (fT hc hg hm hv ha hn hdb he hpl) (FU hd)
def fS:D -> Option (List D)
 | .tup ds => some ds
 | .lst ds => some ds
 | _ => none
def cN:List D -> Option D
 | [x] => (fS x).map .tup
 | _ => none
theorem xn {K:PySem.W.Frag}:iV (fun xs H Q => ∃ p ys,xs = [.ref p] ∧ ((ip K H p ys ∧ ∀ l,H l = none -> Q (.ref l) (upd H l (.tup ys))) ∨ (iP K H p ys ∧ Q (.ref p) H))) cN:=fun c δ S σ T H ds vs d Q l s e k => by
 unfold cN at e
 split at e
 ·rename_i x
  have h:=s.st.left l
  have h2:=s.st.right l
  obtain ⟨v,rfl,r⟩:=r6 h
  cases x with
  | tup es =>
   cases e
   obtain ⟨p,ws,rfl,h1,h3⟩:=r.tup
   exact ⟨p,ws,rfl,.inr ⟨.of (bf _ _ h1),k _ _ (s.stk (.cons (.mkT h1 h3) h2))⟩⟩
  | lst es =>
   cases e
   obtain ⟨p,ws,rfl,h1,h3⟩:=r.lst
   exact ⟨p,ws,rfl,.inl ⟨.inl (Rd.mono bf h1),fun q hq => k _ _ ((s.stk (h3.append h2)).newTup h3.length hq)⟩⟩
  | _ => cases e
 ·cases e
theorem c_ (hm:X.mg "tuple" = none) (ha:DA X [a] fs) (hg:Gl X "tuple":=by rfl) (he:starEach [a] X.env = [(false,eval a X.env)]:=by rfl):DE X (.Call (.Name "tuple" p) [a] [] pos) (mC cN fs) :=
 oQ i6 xn hg hm (by decide +kernel) ha (by decide) (by decide) he rfl
def dList:List D -> Option (List D)
 | [x] => fS x
 | _ => none
theorem A6 {K:PySem.W.Frag}:wK (fun xs H Q => ∃ p ys,xs = [.ref p] ∧ (ip K H p ys ∨ iP K H p ys) ∧ ∀ l,H l = none -> Q (.ref l) (upd H l (.lst ys))) dList:=fun c δ S σ T H ds vs d Q l s e k => by
 unfold dList at e
 split at e
 ·rename_i x
  have h:=s.st.left l
  have h2:=s.st.right l
  obtain ⟨v,rfl,r⟩:=r6 h
  cases x with
  | tup es =>
   cases e
   obtain ⟨p,ws,rfl,h1,h3⟩:=r.tup
   refine ⟨p,ws,rfl,.inr (.of (bf _ _ h1)),fun q hq => ?_⟩
   have s1:=s.stk (h3.append h2)
   obtain ⟨f1,f2,f3⟩:=s1.fresh hq
   exact k q ws _ h3.length (s1.hide hq) f1 f2 f3
  | lst es =>
   cases e
   obtain ⟨p,ws,rfl,h1,h3⟩:=r.lst
   refine ⟨p,ws,rfl,.inl (.inl (Rd.mono bf h1)),fun q hq => ?_⟩
   have s1:=s.stk (h3.append h2)
   obtain ⟨f1,f2,f3⟩:=s1.fresh hq
   exact k q ws _ h3.length (s1.hide hq) f1 f2 f3
  | _ => cases e
 ·cases e
theorem Cm (hm:X.mg "list" = none) (ha:DA X [a] fs) (hg:Gl X "list":=by rfl) (he:starEach [a] X.env = [(false,eval a X.env)]:=by rfl):DF X (.Call (.Name "list" p) [a] [] pos) (mC dList fs) :=
 vJ qd A6 hg hm (by decide +kernel) ha (by decide) (by decide) he rfl
def flat:D -> Option V
 | .non => some .non
 | .bl b => some (.bl b)
 | .int i => some (.int i)
 | .str x => some (.str x)
 | _ => none
theorem dF {H:Hp} {d:D} {v u:V} (r:R H d v) (e:flat d = some u):v = u ∧ il u = true:= by
 cases d with
 | non => cases e; exact ⟨r.non,rfl⟩
 | bl b => cases e; exact ⟨r.bl,rfl⟩
 | int b => cases e; exact ⟨r.int,rfl⟩
 | str b => cases e; exact ⟨r.str,rfl⟩
 | _ => cases e
def kD:List D -> Option (List V)
 | [] => some []
 | d :: ds => match flat d,kD ds with
  | some v,some vs => some (v :: vs)
  | _,_ => none
theorem iA {H:Hp}:∀ {ds:List D} {vs us:List V},Rs H ds vs -> kD ds = some us -> vs = us ∧ us.all il = true
 | [],vs,us,h,e => by cases e; exact ⟨h.inv0,rfl⟩
 | d :: ds,vs,us,h,e => by
  obtain ⟨v,r,ev,h1,h2⟩:=h.inv
  unfold kD at e
  split at e
  ·rename_i w ws e1 e2
   cases e
   obtain ⟨a1,a2⟩:=dF h1 e1
   obtain ⟨b1,b2⟩:=iA h2 e2
   refine ⟨by rw [ev,a1,b1],?_⟩
   rw [List.all_cons,a2,b2]; rfl
  ·cases e
def jR (neg:Bool) (x y:D):Option D:=match flat x,fS y with
 | some v,some ds => (kD ds).map fun vs => .bl (if neg then !FY v vs else FY v vs)
 | _,_ => none
theorem tU {K:PySem.W.Frag} {neg:Bool}:qC (HY K neg) (jR neg):=fun c δ S σ T H x y v u d Q s e k => by
 unfold jR at e
 split at e
 ·rename_i w ds e1 e2
  cases e3:kD ds with
  | none => rw [e3] at e; cases e
  | some vs =>
   rw [e3] at e; cases e
   obtain ⟨rfl,f1⟩:=dF s.st.tail.head e1
   cases y with
   | tup es =>
    cases e2
    obtain ⟨p,ws,rfl,h1,h3⟩:=s.st.head.tup
    obtain ⟨rfl,f2⟩:=iA h3 e3
    exact ⟨p,ws,rfl,.inr (.of (bf _ _ h1)),f1,f2,k _ _ (s.stk (.cons .mkB s.st.tail.tail))⟩
   | lst es =>
    cases e2
    obtain ⟨p,ws,rfl,h1,h3⟩:=s.st.head.lst
    obtain ⟨rfl,f2⟩:=iA h3 e3
    exact ⟨p,ws,rfl,.inl (.inl (Rd.mono bf h1)),f1,f2,k _ _ (s.stk (.cons .mkB s.st.tail.tail))⟩
   | _ => cases e2
 ·cases e
theorem GQ (ha:DE X a fa) (hb:DE X b fb) (hm:behindInMarks .In b = false:=by rfl):DE X (.Compare a [.In] [b] pos) (m2 (jR false) fa fb):=lX oa tU ha hb hm
theorem jL (ha:DE X a fa) (hb:DE X b fb) (hm:behindInMarks .In b = false:=by rfl):DT X (.Compare a [.In] [b] pos) (m2 (jR false) fa fb >>= cQ):=gp oa tU ha hb hm
theorem jk (ha:DE X a fa) (hb:DE X b fb) (hm:behindInMarks .NotIn b = false:=by rfl):DT X (.Compare a [.NotIn] [b] pos) (m2 (jR true) fa fb >>= cQ):=gp gg tU ha hb hm
def dj (neg:Bool) (x y:D):Option D:=match flat x,flat y with
 | some v,some u => if qZ v u = true then some (.bl (if neg then !decide (v = u) else decide (v = u))) else none
 | _,_ => none
theorem pk:qC Ju (dj false):=fun c δ S σ T H x y v u d Q s e k => by
 unfold dj at e
 split at e
 ·rename_i w z e1 e2
  split at e
  ·rename_i hs
   cases e
   obtain ⟨rfl,_⟩:=dF s.st.tail.head e1
   obtain ⟨rfl,_⟩:=dF s.st.head e2
   exact ⟨hs,k _ _ (s.stk (.cons .mkB s.st.tail.tail))⟩
  ·cases e
 ·cases e
theorem uI:qC Jz (dj true):=fun c δ S σ T H x y v u d Q s e k => by
 unfold dj at e
 split at e
 ·rename_i w z e1 e2
  split at e
  ·rename_i hs
   cases e
   obtain ⟨rfl,_⟩:=dF s.st.tail.head e1
   obtain ⟨rfl,_⟩:=dF s.st.head e2
   exact ⟨hs,k _ _ (s.stk (.cons .mkB s.st.tail.tail))⟩
  ·cases e
 ·cases e
theorem zy (ha:DE X a fa) (hb:DE X b fb):DE X (.Compare a [.Eq] [b] pos) (m2 (dj false) fa fb):=lX wy pk ha hb
theorem h_ (ha:DE X a fa) (hb:DE X b fb):DT X (.Compare a [.Eq] [b] pos) (m2 (dj false) fa fb >>= cQ):=gp wy pk ha hb
theorem ng (ha:DE X a fa) (hb:DE X b fb):DT X (.Compare a [.NotEq] [b] pos) (m2 (dj true) fa fb >>= cQ):=gp C9 uI ha hb
end
end Jt
namespace Jt
open PySem L2
section
variable {X:Cx} {a b e:Expr} {fa fb:M D} {fs:M (List D)} {fF:M (List D)} {pos p apos cpos:Pos} {es rest:List Expr} {x:Str}
def jG:List D -> Option D
 | [.int i,.int j] => some (.int (if j < i then j else i))
 | _ => none
def lu:List D -> Option D
 | [.int i,.int j] => some (.int (if j > i then j else i))
 | _ => none
theorem CJ (g:Int -> Int -> Int) (f:List D -> Option D) (hf:∀ ds d,f ds = some d -> ∃ i j,ds = [.int i,.int j] ∧ d = .int (g i j)):iV (fun xs H Q => ∃ i j,xs = [.int i,.int j] ∧ Q (.int (g i j)) H) f:=fun c δ S σ T H ds vs d Q l s e k => by
 obtain ⟨i,j,rfl,rfl⟩:=hf _ _ e
 obtain ⟨v,u,rfl,r1,r2⟩:=Iv (s.st.left l)
 cases r1.int
 cases r2.int
 exact ⟨i,j,rfl,k _ _ (s.stk (.cons .mkI (s.st.right l)))⟩
theorem ve (ds:List D) (d:D) (h:jG ds = some d):∃ i j,ds = [.int i,.int j] ∧ d = .int (if j < i then j else i):= by
 unfold jG at h
 split at h
 ·cases h; exact ⟨_,_,rfl,rfl⟩
 ·cases h
theorem we (ds:List D) (d:D) (h:lu ds = some d):∃ i j,ds = [.int i,.int j] ∧ d = .int (if j > i then j else i):= by
 unfold lu at h
 split at h
 ·cases h; exact ⟨_,_,rfl,rfl⟩
 ·cases h
theorem pS (hm:X.mg "min" = none) (ha:DA X [a,b] fs) (hg:Gl X "min":=by rfl) (hc:X.calm = true:=by rfl) (he:starEach [a,b] X.env = (false,eval a X.env) :: starEach [b] X.env:=by rfl) (hp:(backTo pos (starEach [b] X.env)).any (·.1) = false:=by rfl):DE X (.Call (.Name "min" p) [a,b] [] pos) (mC jG fs) :=
 fV (wc hc) (CJ _ jG ve) hg hm (by decide +kernel) ha (by decide) (by decide) he hp
theorem r8 (hm:X.mg "max" = none) (ha:DA X [a,b] fs) (hg:Gl X "max":=by rfl) (hc:X.calm = true:=by rfl) (he:starEach [a,b] X.env = (false,eval a X.env) :: starEach [b] X.env:=by rfl) (hp:(backTo pos (starEach [b] X.env)).any (·.1) = false:=by rfl):DE X (.Call (.Name "max" p) [a,b] [] pos) (mC lu fs) :=
 fV (vP hc) (CJ _ lu we) hg hm (by decide +kernel) ha (by decide) (by decide) he hp
def Gu (fa fb:M D):M D:=do
 let v <- fa
 let t <- lift (cx v)
 if t = true then pure v else fb
theorem DY (ha:DE X a fa) (hb:DE X (.BoolOp .Or (b :: rest) pos) fb):DE X (.BoolOp .Or (a :: b :: rest) pos) (Gu fa fb):=fun pins s σ H Q I ⟨c,δ,S,T,d,δ',sl,e,k⟩ => by
 obtain ⟨v,δ1,e1,e⟩:=bind_some e
 obtain ⟨t,δ2,e2,e⟩:=bind_some e
 obtain ⟨e3,rfl⟩:=aA e2
 refine PyProof.Rows.BoolOp_or (cT (ha pins s σ H (fun y H1 => Sl c δ1 (v :: S) σ (y :: T) H1) I ⟨c,δ,S,T,v,δ1,sl,e1,fun y H1 s1 => s1⟩) fun u s1 ⟨y,H1,I1,r1,q1⟩ => ?_)
 refine cT (yN pins s1 σ H1 y u (fun k' H2 => k' = t ∧ H2 = H1) I1 r1 ⟨t,uO bf q1.st.head e3,rfl,rfl⟩) fun k' s2 ⟨H2,I2,ek,eH⟩ => ?_
 subst ek eH
 cases k' with
 | true =>
  rw [if_pos rfl] at e
  obtain ⟨rfl,rfl⟩:=aq e
  rw [if_pos rfl]
  exact ⟨y,H2,I2,r1,k _ _ q1⟩
 | false =>
  rw [if_neg Bool.false_ne_true] at e
  rw [if_neg Bool.false_ne_true]
  exact hb pins s2 σ H2 Q I2 ⟨c,δ1,S,T,d,δ',q1.pop,e,k⟩
def Dk:D -> D -> Option D
 | .tup (x :: xs),.tup ys => if xs.length + 1 + ys.length ≤ 100000 then some (.tup ((x :: xs) ++ ys)) else none
 | _,_ => none
theorem yj {K:PySem.W.Frag}:qC (xf K) Dk:=fun c δ S σ T H x y v u d Q s e k => by
 unfold Dk at e
 split at e
 ·rename_i x xs ys
  split at e
  ·rename_i hn
   cases e
   obtain ⟨p,ws,rfl,h1,h3⟩:=s.st.tail.head.tup
   obtain ⟨q,zs,rfl,h4,h5⟩:=s.st.head.tup
   have hl:(100000:Nat) < sizeLine:=by rw [sizeLine_eq]; decide
   have l1:=h3.length
   have l2:=h5.length
   rw [List.length_cons] at l1
   refine ⟨p,q,ws,zs,rfl,rfl,.of (bf _ _ h1),.of (bf _ _ h4),fun z => (by rw [z] at l1; simp at l1),by omega,fun z => ?_,fun z r hr => ?_⟩
   ·rw [z] at h5
    cases ys with
    | nil =>
     rw [List.append_nil] at k
     exact k _ _ (s.stk (.cons s.st.tail.head s.st.tail.tail))
    | cons y ys => obtain ⟨_,_,e,_⟩:=h5.inv; cases e
   ·have s1:=s.stk ((h3.append h5).append s.st.tail.tail)
    exact k _ _ (s1.newTup (by rw [List.length_append,List.length_append,h5.length,h3.length]) hr)
  ·cases e
 ·cases e
def d9:Nat -> D -> D -> Option Bool
 | 0,_,_ => none
 | n + 1,.tup xs,.tup ys => (go n xs ys).map fun b => b && xs.length == ys.length
 | n + 1,.lst xs,.lst ys => if xs.length = ys.length then go n xs ys else some false
 | _ + 1,x,y => match flat x,flat y with
  | some v,some u => some (wj v u)
  | _,_ => none
where
 go (n:Nat):List D -> List D -> Option Bool
  | x :: xs,y :: ys => match d9 n x y,go n xs ys with
   | some a,some b => some (a && b)
   | _,_ => none
  | _,_ => some true
mutual
theorem R.inj {H:Hp}:∀ (x y:D) (v:V),R H x v -> R H y v -> x = y
 | .non,y,v,h,g => by
  cases h.non
  cases y with
  | non => rfl
  | bl b => cases g.bl
  | int b => cases g.int
  | str b => cases g.str
  | tup b => obtain ⟨_,_,e,_⟩:=g.tup; cases e
  | lst b => obtain ⟨_,_,e,_⟩:=g.lst; cases e
  | dct => obtain ⟨_,e,_⟩:=g.dct; cases e
 | .bl x,y,v,h,g => by
  cases h.bl
  cases y with
  | non => cases g.non
  | bl b => cases g.bl; rfl
  | int b => cases g.int
  | str b => cases g.str
  | tup b => obtain ⟨_,_,e,_⟩:=g.tup; cases e
  | lst b => obtain ⟨_,_,e,_⟩:=g.lst; cases e
  | dct => obtain ⟨_,e,_⟩:=g.dct; cases e
 | .int x,y,v,h,g => by
  cases h.int
  cases y with
  | non => cases g.non
  | bl b => cases g.bl
  | int b => cases g.int; rfl
  | str b => cases g.str
  | tup b => obtain ⟨_,_,e,_⟩:=g.tup; cases e
  | lst b => obtain ⟨_,_,e,_⟩:=g.lst; cases e
  | dct => obtain ⟨_,e,_⟩:=g.dct; cases e
 | .str x,y,v,h,g => by
  cases h.str
  cases y with
  | non => cases g.non
  | bl b => cases g.bl
  | int b => cases g.int
  | str b => cases g.str; rfl
  | tup b => obtain ⟨_,_,e,_⟩:=g.tup; cases e
  | lst b => obtain ⟨_,_,e,_⟩:=g.lst; cases e
  | dct => obtain ⟨_,e,_⟩:=g.dct; cases e
 | .tup xs,y,v,h,g => by
  obtain ⟨a,vs,rfl,h1,h2⟩:=h.tup
  cases y with
  | non => cases g.non
  | bl b => cases g.bl
  | int b => cases g.int
  | str b => cases g.str
  | tup ys =>
   obtain ⟨a',vs',e,g1,g2⟩:=g.tup
   cases e
   rw [h1] at g1; cases g1
   rw [Rs.inj xs ys vs h2 g2]
  | lst ys =>
   obtain ⟨a',vs',e,g1,g2⟩:=g.lst
   cases e
   rcases g1 with g1 | ⟨o,g1⟩ <;> (rw [h1] at g1; cases g1)
  | dct =>
   obtain ⟨a',e,g1⟩:=g.dct
   cases e
   rw [h1] at g1; cases g1
 | .lst xs,y,v,h,g => by
  obtain ⟨a,vs,rfl,h1,h2⟩:=h.lst
  cases y with
  | non => cases g.non
  | bl b => cases g.bl
  | int b => cases g.int
  | str b => cases g.str
  | tup ys =>
   obtain ⟨a',vs',e,g1,g2⟩:=g.tup
   cases e
   rcases h1 with h1 | ⟨o,h1⟩ <;> (rw [h1] at g1; cases g1)
  | lst ys =>
   obtain ⟨a',vs',e,g1,g2⟩:=g.lst
   cases e
   have:vs' = vs:= by
    rcases h1 with h1 | ⟨o,h1⟩ <;> rcases g1 with g1 | ⟨o',g1⟩ <;> (rw [h1] at g1; first | (cases g1; rfl) | cases g1)
   subst this
   rw [Rs.inj xs ys _ h2 g2]
  | dct =>
   obtain ⟨a',e,g1⟩:=g.dct
   cases e
   rcases h1 with h1 | ⟨o,h1⟩ <;> (rw [h1] at g1; cases g1)
 | .dct,y,v,h,g => by
  obtain ⟨a,rfl,h1⟩:=h.dct
  cases y with
  | non => cases g.non
  | bl b => cases g.bl
  | int b => cases g.int
  | str b => cases g.str
  | tup ys =>
   obtain ⟨a',vs',e,g1,g2⟩:=g.tup
   cases e
   rw [h1] at g1; cases g1
  | lst ys =>
   obtain ⟨a',vs',e,g1,g2⟩:=g.lst
   cases e
   rcases g1 with g1 | ⟨o,g1⟩ <;> (rw [h1] at g1; cases g1)
  | dct => rfl
theorem Rs.inj {H:Hp}:∀ (xs ys:List D) (vs:List V),Rs H xs vs -> Rs H ys vs -> xs = ys
 | [],ys,vs,h,g => by
  cases h.inv0
  cases ys with
  | nil => rfl
  | cons y ys => obtain ⟨_,_,e,_⟩:=g.inv; cases e
 | x :: xs,ys,vs,h,g => by
  obtain ⟨v,r,rfl,h1,h2⟩:=h.inv
  cases ys with
  | nil => cases g.inv0
  | cons y ys => rw [R.inj x y v h1 g.head,Rs.inj xs ys r h2 g.tail]
end
theorem j5 {n:Nat}:∀ {xs ys:List D} {b:Bool},d9.go n xs ys = some b -> ∃ e:Nat -> Bool,(∀ (j:Nat) x y,xs[j]? = some x -> ys[j]? = some y -> d9 n x y = some (e j)) ∧ b = (List.range (min xs.length ys.length)).all e
 | [],ys,b,h => by
  unfold d9.go at h
  cases h; exact ⟨fun _ => true,fun j x y h1 => by simp at h1,by simp⟩
 | x :: xs,[],b,h => by
  unfold d9.go at h
  cases h; exact ⟨fun _ => true,fun j x y h1 h2 => by simp at h2,by simp⟩
 | x :: xs,y :: ys,b,h => by
  unfold d9.go at h
  split at h
  ·rename_i b1 b2 e1 e2
   cases h
   obtain ⟨e,he,hb⟩:=j5 e2
   refine ⟨fun j => match j with | 0 => b1 | j + 1 => e j,fun j x' y' h1 h2 => ?_,?_⟩
   ·cases j with
    | zero => cases h1; cases h2; exact e1
    | succ j => exact he j x' y' (by simpa using h1) (by simpa using h2)
   ·rw [List.length_cons,List.length_cons,Nat.add_min_add_right,List.range_succ_eq_map,List.all_cons,List.all_map,hb]; rfl
  ·cases h
theorem jq {v:V} (h:il v = true):wj v v = true:= by
 cases v with
 | non => rfl
 | bl b => cases b <;> rfl
 | int i => exact beq_self_eq_true i
 | str x => exact beq_self_eq_true x
 | _ => cases h
theorem yh:∀ (n:Nat) (x:D) (b:Bool),d9 n x x = some b -> b = true:= by
 intro n
 induction n with
 | zero => intro x b h; simp [d9] at h
 | succ n ih =>
  have go:∀ (xs:List D) (b:Bool),d9.go n xs xs = some b -> b = true:=fun xs b h => by
   obtain ⟨e,he,hb⟩:=j5 h
   rw [Nat.min_self] at hb
   subst hb
   rw [List.all_eq_true]
   intro j hj
   have hj':=List.mem_range.mp hj
   exact ih _ _ (he j _ _ (List.getElem?_eq_getElem hj') (List.getElem?_eq_getElem hj'))
  intro x b h
  cases x with
  | tup xs =>
   unfold d9 at h
   cases q:d9.go n xs xs with
   | none => rw [q] at h; cases h
   | some b' => rw [q] at h; cases h; rw [go xs b' q]; simp
  | lst xs => unfold d9 at h; rw [if_pos rfl] at h; exact go xs b h
  | non => simp [d9,flat] at h; rw [<- h]; exact jq rfl
  | bl q => simp [d9,flat] at h; rw [<- h]; exact jq rfl
  | int q => simp [d9,flat] at h; rw [<- h]; exact jq rfl
  | str q => simp [d9,flat] at h; rw [<- h]; exact jq rfl
  | dct => simp [d9,flat] at h
open SeqAt in
theorem wm {pins:List (Addr × Obj)} {σ:St} {H Hh:Hp} {s:Shared} (I:Inv X pins σ H s) (m:∀ b o,Hh b = some o -> H b = some o):∀ (n:Nat) (A:Around),A.units + n < cLine -> ∀ (x y:D) (v w:V) (u z:Value) (b:Bool),R Hh x v -> R Hh y w -> RelV v u -> RelV w z -> d9 n x y = some b ->
  EqAt A s u z b ∧ ((∃ xs,x = .tup xs ∨ x = .lst xs) -> RcAt A s u z b):= by
 intro n
 induction n with
 | zero => intro A _ x y v w u z b _ _ _ _ h; simp [d9] at h
 | succ n ih =>
  intro A hu x y v w u z b rx ry ru rz h
  have hu':A.units < cLine:=by omega
  have items:∀ {xs ys:List D} {vs ws:List V} {is js:List Value} {e:Nat -> Bool},Rs Hh xs vs -> Rs Hh ys ws -> Vals vs is -> Vals ws js -> (∀ (j:Nat) x y,xs[j]? = some x -> ys[j]? = some y -> d9 n x y = some (e j)) ->
    ∀ j (h1:j < is.toArray.size) (h2:j < js.toArray.size),EqAt A.in1 s is.toArray[j] js.toArray[j] (e j):=fun {xs ys vs ws is js e} r1 r2 v1 v2 he j h1 h2 => by
   have l1:j < xs.length:=by rw [<- r1.length,v1.length]; simpa using h1
   have l2:j < ys.length:=by rw [<- r2.length,v2.length]; simpa using h2
   obtain ⟨v',e1,q1⟩:=r1.get (List.getElem?_eq_getElem l1)
   obtain ⟨w',e2,q2⟩:=r2.get (List.getElem?_eq_getElem l2)
   obtain ⟨u',e3,q3⟩:=v1.get e1
   obtain ⟨z',e4,q4⟩:=v2.get e2
   have:=(ih A.in1 (by show A.units + 1 + n < _; omega) _ _ v' w' u' z' (e j) q1 q2 q3 q4 (he j _ _ (List.getElem?_eq_getElem l1) (List.getElem?_eq_getElem l2))).1
   have a1:is.toArray[j] = u':= by
    have:=(List.getElem?_eq_some_iff.mp e3).2
    simpa using this
   have a2:js.toArray[j] = z':= by
    have:=(List.getElem?_eq_some_iff.mp e4).2
    simpa using this
   rw [a1,a2]; exact this
  have refs:∀ {l k:Addr},u = .ref l -> z = .ref k -> v = .ref l -> w = .ref k -> RcAt A s u z b -> EqAt A s u z b:=fun {l k} eu ez ev ew rc => by
   by_cases hlk:l = k
   ·subst hlk
    rw [ev] at rx; rw [ew] at ry
    have:=R.inj x y _ rx ry
    subst this
    rw [yh _ _ _ h,eu,ez]
    exact EqAt.same _
   ·rw [eu,ez] at rc ⊢; exact EqAt.of_refs hlk rc
  have flatCase:∀ {p q:V},flat x = some p -> flat y = some q -> b = wj p q -> EqAt A s u z b:=fun {p q} e1 e2 eb => by
   obtain ⟨rfl,f1⟩:=dF rx e1
   obtain ⟨rfl,f2⟩:=dF ry e2
   rw [eb]; exact yM ru rz f1 f2
  have flatAll:(∀ xs,x ≠ .tup xs) -> (∀ xs,x ≠ .lst xs) -> ∀ p,flat x = some p -> EqAt A s u z b:=fun _ _ p e1 => by
   cases y with
   | tup ys => cases x <;> first | (simp [d9,flat] at h; done) | (cases e1; done)
   | lst ys => cases x <;> first | (simp [d9,flat] at h; done) | (cases e1; done)
   | dct => cases x <;> first | (simp [d9,flat] at h; done) | (cases e1; done)
   | non => exact flatCase e1 rfl (by cases x <;> first | (cases e1; simpa [d9,flat] using h.symm) | cases e1)
   | bl q => exact flatCase e1 rfl (by cases x <;> first | (cases e1; simpa [d9,flat] using h.symm) | cases e1)
   | int q => exact flatCase e1 rfl (by cases x <;> first | (cases e1; simpa [d9,flat] using h.symm) | cases e1)
   | str q => exact flatCase e1 rfl (by cases x <;> first | (cases e1; simpa [d9,flat] using h.symm) | cases e1)
  cases x with
  | dct => simp [d9,flat] at h
  | non => exact ⟨flatAll (fun _ z => nomatch z) (fun _ z => nomatch z) _ rfl,fun ⟨xs,z⟩ => by rcases z with z | z <;> cases z⟩
  | bl q => exact ⟨flatAll (fun _ z => nomatch z) (fun _ z => nomatch z) _ rfl,fun ⟨xs,z⟩ => by rcases z with z | z <;> cases z⟩
  | int q => exact ⟨flatAll (fun _ z => nomatch z) (fun _ z => nomatch z) _ rfl,fun ⟨xs,z⟩ => by rcases z with z | z <;> cases z⟩
  | str q => exact ⟨flatAll (fun _ z => nomatch z) (fun _ z => nomatch z) _ rfl,fun ⟨xs,z⟩ => by rcases z with z | z <;> cases z⟩
  | tup xs =>
   cases y with
   | tup ys =>
    obtain ⟨l,vs,rfl,h1,h2⟩:=rx.tup
    obtain ⟨k,ws,rfl,g1,g2⟩:=ry.tup
    cases ru; cases rz
    obtain ⟨is,v1,p1,_⟩:=I.tuple (.of (m _ _ h1))
    obtain ⟨js,v2,p2,_⟩:=I.tuple (.of (m _ _ g1))
    have s1:is.toArray.size = xs.length:=by rw [List.size_toArray,<- v1.length,h2.length]
    have s2:js.toArray.size = ys.length:=by rw [List.size_toArray,<- v2.length,g2.length]
    have rc:RcAt A s (.ref l) (.ref k) b:= by
     unfold d9 at h
     cases q:d9.go n xs ys with
     | none => rw [q] at h; cases h
     | some b' =>
      rw [q] at h; cases h
      obtain ⟨e,he,hb⟩:=j5 q
      have:=RcAt.tuples p1 p2 hu' (items h2 g2 v1 v2 he)
      rw [s1,s2,<- hb] at this
      exact this
    exact ⟨refs rfl rfl rfl rfl rc,fun _ => rc⟩
   | _ => simp [d9,flat] at h
  | lst xs =>
   cases y with
   | lst ys =>
    obtain ⟨l,vs,rfl,h1,h2⟩:=rx.lst
    obtain ⟨k,ws,rfl,g1,g2⟩:=ry.lst
    cases ru; cases rz
    obtain ⟨is,v1,p1,_⟩:=I.list (.inl (Rd.mono m h1))
    obtain ⟨js,v2,p2,_⟩:=I.list (.inl (Rd.mono m g1))
    have s1:is.toArray.size = xs.length:=by rw [List.size_toArray,<- v1.length,h2.length]
    have s2:js.toArray.size = ys.length:=by rw [List.size_toArray,<- v2.length,g2.length]
    have rc:RcAt A s (.ref l) (.ref k) b:= by
     unfold d9 at h
     split at h
     ·rename_i hl
      obtain ⟨e,he,hb⟩:=j5 h
      have:=RcAt.lists p1.isList p2.isList (by rw [s1,s2,hl]) hu' (items h2 g2 v1 v2 he)
      rw [hb,<- hl,Nat.min_self,<- s1]; exact this
     ·rename_i hl
      cases h
      exact RcAt.lists_lengths p1.isList p2.isList (by rw [s1,s2]; simpa using hl) hu'
    exact ⟨refs rfl rfl rfl rfl rc,fun _ => rc⟩
   | _ => simp [d9,flat] at h
theorem jf {k:Nat} {A:Around} (hr:cX k A):A.units + 20 < cLine:=by have:=hr.un; omega
def kX:D -> D -> Bool
 | .tup _,.tup _ => true
 | .lst _,.lst _ => true
 | _,_ => false
def iy (neg:Bool) (x y:D):Option D:=if kX x y = true then (d9 9 x y).map fun b => .bl (if neg then !b else b) else dj neg x y
def Gh:R2:=fun v u H Q => Ju v u H Q ∨ ∃ (Hh:Hp) (x y:D) (b:Bool),(∀ b o,Hh b = some o -> H b = some o) ∧ R Hh x v ∧ R Hh y u ∧ kX x y = true ∧ d9 9 x y = some b ∧ Q (.bl b) H
theorem p7 (hu:X.A.units + 20 < cLine):gK X (compareOp .Eq) Gh:= by
 intro pins s σ H v w u z Q I ru rz h
 rcases h with h | ⟨Hh,x,y,b,m,rx,ry,hs,e,q⟩
 ·exact wy pins s σ H v w u z Q I ru rz h
 ·have:=(wm I m 9 X.A (by omega) x y v w u z b rx ry ru rz e).2 (by
   cases x <;> first | exact ⟨_,.inl rfl⟩ | exact ⟨_,.inr rfl⟩ | (simp [kX] at hs))
  exact this _ _ _ _ ⟨.bl b,H,I,rfl,q⟩
theorem uh:qC Gh (iy false):=fun c δ S σ T H x y v u d Q s e k => by
 unfold iy at e
 split at e
 ·rename_i hs
  cases q:d9 9 x y with
  | none => rw [q] at e; cases e
  | some b =>
   rw [q] at e; cases e
   exact .inr ⟨_,x,y,b,bf,s.st.tail.head,s.st.head,hs,q,k _ _ (s.stk (.cons .mkB s.st.tail.tail))⟩
 ·exact .inl (pk c δ S σ T H x y v u d Q s e k)
theorem Gg {k:Nat} (hr:cX k X.A) (ha:DE X a fa) (hb:DE X b fb):DE X (.Compare a [.Eq] [b] pos) (m2 (iy false) fa fb):=lX (p7 (jf hr)) uh ha hb
theorem oI {k:Nat} (hr:cX k X.A) (ha:DE X a fa) (hb:DE X b fb):DT X (.Compare a [.Eq] [b] pos) (m2 (iy false) fa fb >>= cQ):=gp (p7 (jf hr)) uh ha hb
end
end Jt
namespace Jt
open PySem L2
section
variable {X:Cx} {a b e:Expr} {fa fb:M D} {fs:M (List D)} {pos p apos cpos:Pos} {es rest:List Expr} {x:Str}
open SeqAt in
theorem DJ {pins:List (Addr × Obj)} {σ:St} {H Hh:Hp} {s:Shared} (I:Inv X pins σ H s) (m:∀ b o,Hh b = some o -> H b = some o) {n:Nat} {A:Around} (hu:A.units + (n + 1) < cLine) {x y:D} {v w:V} {u z:Value} {b:Bool} (rx:R Hh x v) (ry:R Hh y w) (ru:RelV v u) (rz:RelV w z)
  (hs:kX x y = true) (h:d9 (n + 1) x y = some b):RcNeAt A s u z (!b):= by
 have hu':A.units < cLine:=by omega
 have items:∀ {xs ys:List D} {vs ws:List V} {is js:List Value} {e:Nat -> Bool},Rs Hh xs vs -> Rs Hh ys ws -> Vals vs is -> Vals ws js -> (∀ (j:Nat) x y,xs[j]? = some x -> ys[j]? = some y -> d9 n x y = some (e j)) ->
   ∀ j (h1:j < is.toArray.size) (h2:j < js.toArray.size),EqAt A.in1 s is.toArray[j] js.toArray[j] (e j):=fun {xs ys vs ws is js e} r1 r2 v1 v2 he j h1 h2 => by
  have l1:j < xs.length:=by rw [<- r1.length,v1.length]; simpa using h1
  have l2:j < ys.length:=by rw [<- r2.length,v2.length]; simpa using h2
  obtain ⟨v',e1,q1⟩:=r1.get (List.getElem?_eq_getElem l1)
  obtain ⟨w',e2,q2⟩:=r2.get (List.getElem?_eq_getElem l2)
  obtain ⟨u',e3,q3⟩:=v1.get e1
  obtain ⟨z',e4,q4⟩:=v2.get e2
  have:=(wm I m n A.in1 (by show A.units + 1 + n < _; omega) _ _ v' w' u' z' (e j) q1 q2 q3 q4 (he j _ _ (List.getElem?_eq_getElem l1) (List.getElem?_eq_getElem l2))).1
  have a1:is.toArray[j] = u':= by
   have:=(List.getElem?_eq_some_iff.mp e3).2
   simpa using this
  have a2:js.toArray[j] = z':= by
   have:=(List.getElem?_eq_some_iff.mp e4).2
   simpa using this
  rw [a1,a2]; exact this
 cases x with
 | tup xs =>
  cases y with
  | tup ys =>
   obtain ⟨l,vs,rfl,h1,h2⟩:=rx.tup
   obtain ⟨k,ws,rfl,g1,g2⟩:=ry.tup
   cases ru; cases rz
   obtain ⟨is,v1,p1,_⟩:=I.tuple (.of (m _ _ h1))
   obtain ⟨js,v2,p2,_⟩:=I.tuple (.of (m _ _ g1))
   have s1:is.toArray.size = xs.length:=by rw [List.size_toArray,<- v1.length,h2.length]
   have s2:js.toArray.size = ys.length:=by rw [List.size_toArray,<- v2.length,g2.length]
   unfold d9 at h
   cases q:d9.go n xs ys with
   | none => rw [q] at h; cases h
   | some b' =>
    rw [q] at h; cases h
    obtain ⟨e,he,hb⟩:=j5 q
    have:=RcNeAt.tuples p1 p2 hu' (items h2 g2 v1 v2 he)
    rw [s1,s2,<- hb] at this
    exact this
  | _ => simp [kX] at hs
 | lst xs =>
  cases y with
  | lst ys =>
   obtain ⟨l,vs,rfl,h1,h2⟩:=rx.lst
   obtain ⟨k,ws,rfl,g1,g2⟩:=ry.lst
   cases ru; cases rz
   obtain ⟨is,v1,p1,_⟩:=I.list (.inl (Rd.mono m h1))
   obtain ⟨js,v2,p2,_⟩:=I.list (.inl (Rd.mono m g1))
   have s1:is.toArray.size = xs.length:=by rw [List.size_toArray,<- v1.length,h2.length]
   have s2:js.toArray.size = ys.length:=by rw [List.size_toArray,<- v2.length,g2.length]
   unfold d9 at h
   split at h
   ·rename_i hl
    obtain ⟨e,he,hb⟩:=j5 h
    have:=RcNeAt.lists p1.isList p2.isList (by rw [s1,s2,hl]) hu' (items h2 g2 v1 v2 he)
    rw [hb,<- hl,Nat.min_self,<- s1]; exact this
   ·rename_i hl
    cases h
    exact RcNeAt.lists_lengths p1.isList p2.isList (by rw [s1,s2]; simpa using hl) hu'
  | _ => simp [kX] at hs
 | _ => simp [kX] at hs
def G6:R2:=fun v u H Q => Jz v u H Q ∨ ∃ (Hh:Hp) (x y:D) (b:Bool),(∀ b o,Hh b = some o -> H b = some o) ∧ R Hh x v ∧ R Hh y u ∧ kX x y = true ∧ d9 9 x y = some b ∧ Q (.bl (!b)) H
theorem tN (hu:X.A.units + 20 < cLine):gK X (compareOp .NotEq) G6:= by
 intro pins s σ H v w u z Q I ru rz h
 rcases h with h | ⟨Hh,x,y,b,m,rx,ry,hs,e,q⟩
 ·exact C9 pins s σ H v w u z Q I ru rz h
 ·exact DJ I m (n:=8) (A:=X.A) (by omega) rx ry ru rz hs e _ _ _ _ ⟨.bl (!b),H,I,rfl,q⟩
theorem BJ:qC G6 (iy true):=fun c δ S σ T H x y v u d Q s e k => by
 unfold iy at e
 split at e
 ·rename_i hs
  cases q:d9 9 x y with
  | none => rw [q] at e; cases e
  | some b =>
   rw [q] at e; cases e
   exact .inr ⟨_,x,y,b,bf,s.st.tail.head,s.st.head,hs,q,k _ _ (s.stk (.cons .mkB s.st.tail.tail))⟩
 ·exact .inl (uI c δ S σ T H x y v u d Q s e k)
theorem iX {k:Nat} (hr:cX k X.A) (ha:DE X a fa) (hb:DE X b fb):DT X (.Compare a [.NotEq] [b] pos) (m2 (iy true) fa fb >>= cQ):=gp (tN (jf hr)) BJ ha hb
def G5 (ta:TA):TE:=fun σ H Q => ta σ H fun vs H1 => ∃ j:Int,vs = [.int j] ∧ ∀ q,H1 q = none -> Q (.ref q) (upd H1 q (.rng 0 j))
theorem vT {ta:TA} (hg:Gl X "range") (hm:X.mg "range" = none) (ha:PA X [a] ta) (hs:starEach [a] X.env = [(false,eval a X.env)]:=by rfl):PE X (.Call (.Name "range" p) [a] [] pos) (G5 ta):= by
 intro pins s σ H Q I h
 refine PyProof.Rows.Call_ (gq I hg hm (show bootBuiltins "range" = some (.type "range") by decide +kernel) (PyProof.Rows.callWith_type1 (cT (ha pos pins s σ H _ I h) fun us s1 ⟨vs,H1,I1,r1,q1⟩ => ?_) hs rfl))
 obtain ⟨j,e,q⟩:=q1
 subst e
 cases r1 with
 | cons r rr =>
  cases rr
  obtain ⟨t,rfl⟩:=r
  refine call_range_1 ⟨.ref s1.heap.objs.size,upd H1 s1.heap.objs.size (.rng 0 j),I1.laid (fun b u e => Heap.get?_push_of_some _ e) (Nat.le_refl _) ?_,rfl,q _ I1.fresh⟩
  exact ⟨_,_,_,Heap.get?_push_size _ rfl⟩
theorem t7 {lo:Int} {n:Nat} {acc:Array Value} (h:ItemsOf (fun i v => ∃ t,v = .int (lo + i * 1) t) acc n):Vals ((List.range n).map fun (i:Nat) => V.int (lo + (i:Int))) acc.toList:= by
 obtain ⟨hn,hi⟩:=h
 have gen:∀ (us:List Value) (k:Nat),(∀ (j:Nat) v,us[j]? = some v -> ∃ t,v = .int (lo + ((k + j:Nat):Int)) t) -> Vals ((List.range us.length).map fun (i:Nat) => V.int (lo + ((k + i:Nat):Int))) us:= by
  intro us
  induction us with
  | nil => intro k _; exact .nil
  | cons u us ih =>
   intro k hk
   rw [List.length_cons,List.range_succ_eq_map,List.map_cons,List.map_map]
   obtain ⟨t,e⟩:=hk 0 u rfl
   refine .cons ⟨t,by simpa using e⟩ ?_
   have:=ih (k + 1) fun j v hj => by
    obtain ⟨t,e⟩:=hk (j + 1) v (by simpa using hj)
    exact ⟨t,by rw [e]; congr 2; omega⟩
   have e2:((fun (i:Nat) => V.int (lo + ((k + i:Nat):Int))) ∘ Nat.succ) = fun (i:Nat) => V.int (lo + ((k + 1 + i:Nat):Int)):= by
    funext i; show V.int _ = V.int _; congr 2; omega
   rw [e2]; exact this
 have:=gen acc.toList 0 fun j v hj => by
  obtain ⟨t,e⟩:=hi j v (by simpa using hj)
  exact ⟨t,by rw [e]; simp⟩
 simpa [hn] using this
theorem tE (hc:X.calm = true):dE X (.type "list") (fun xs H Q => ∃ q j,xs = [.ref q] ∧ H q = some (.rng 0 j) ∧ j < 100000 ∧ -(2 ^ 62) ≤ j ∧ ∀ l,H l = none -> Q (.ref l) (upd H l (.lst ((List.range j.toNat).map fun (i:Nat) => V.int (0 + (i:Int)))))):= by
 intro pins s σ H xs us Q I r h
 obtain ⟨q,j,rfl,hq,hj,hj2,k⟩:=h
 obtain ⟨u,rfl,rx⟩:=r.one
 cases rx
 obtain ⟨t,u',v,hr⟩:=I.hok q _ hq
 refine call_list_range (n:=j.toNat) (I.ok.hd hc) hr (small_one (by omega) (by omega) hj2 (by omega)) (by rw [rangeSize_one]; split <;> omega) (by omega) fun h' tk acc' c' kp e hi => ?_
 refine ⟨.ref s.heap.objs.size,_,I.laid (t':=tk) kp (Nat.le_refl _) (show dM X.prog X.w _ h' _ (.lst _) from ⟨?_,acc'.toList,c',t7 hi,by simpa using e⟩),rfl,k _ I.fresh⟩
 have:(100000:Nat) < sizeLine:=by rw [sizeLine_eq]; decide
 simp; omega
def nI:List D -> Option (List D)
 | [.int j] => if j < 100000 ∧ -(2 ^ 62) ≤ j then some (bP 0 j.toNat) else none
 | _ => none
theorem ym {H:Hp} {lo:Int} {n:Nat}:Rs H (bP lo n) ((List.range n).map fun (i:Nat) => V.int (lo + (i:Int))):= by
 unfold bP
 induction (List.range n) with
 | nil => exact .nil
 | cons i r ih => exact .cons .mkI ih
theorem mX {p2 pos2:Pos} (hml:X.mg "list" = none) (hmr:X.mg "range" = none) (ha:DA X [a] fs) (hgl:Gl X "list":=by rfl) (hgr:Gl X "range":=by rfl) (hc:X.calm = true:=by rfl) (hs:starEach [a] X.env = [(false,eval a X.env)]:=by rfl) :
  DF X (.Call (.Name "list" p) [.Call (.Name "range" p2) [a] [] pos2] [] pos) (mC nI fs) :=
 cG (fT (tE hc) hgl hml (by decide +kernel) (dY (vT hgr hmr ha hs) g8) (by decide) (by decide) rfl rfl) fun σ H Q ⟨c,δ,S,T,d,δ',s,e,k⟩ => by
  obtain ⟨ds,δ1,e1,e⟩:=bind_some e
  obtain ⟨e2,rfl⟩:=aA e
  refine ⟨c,δ,S,T,ds,δ1,s,e1,fun vs H1 l s1 => ?_⟩
  unfold nI at e2
  split at e2
  ·rename_i j
   split at e2
   ·rename_i hj
    cases e2
    obtain ⟨v,rfl,r⟩:=r6 (s1.st.left l)
    cases r.int
    refine ⟨j,rfl,fun q hq => ⟨q,j,rfl,aQ,hj.1,hj.2,fun m hm => ?_⟩⟩
    have s2:=(s1.drop l).grow (gZ hq (.rng 0 j))
    obtain ⟨f1,f2,f3⟩:=s2.fresh hm
    refine k m _ _ (ym (H:=H)).length ((s2.hide hm).stk ?_) f1 f2 f3
    exact ym.append (s2.hide hm).st
   ·cases e2
  ·cases e2
end
end Jt
namespace Jt
open PySem L2
section
variable {prog:Program} {w:World} {A:Around} {E:Value -> Shared -> Prop} {s:Shared}
end
section
variable {X:Cx} {a b e:Expr} {fa fb:M D} {fs:M (List D)} {pos p apos cpos:Pos}
end
end Jt
namespace Jt
open PySem L2
section
variable {X:Cx} {a b e:Expr} {fa fb:M D} {fs:M (List D)} {pos p apos cpos:Pos}
inductive Ty where
 | int | bool | tup | lst | str
def Ty.name:Ty -> String
 | .int => "int"
 | .bool => "bool"
 | .tup => "tuple"
 | .lst => "list"
 | .str => "str"
def pZ:Ty -> D -> Option Bool
 | .int,.int _ => some true
 | .int,.bl _ => some true
 | .bool,.bl _ => some true
 | .tup,.tup _ => some true
 | .lst,.lst _ => some true
 | .str,.str _ => some true
 | _,_ => some false
theorem dictAt {pins:List (Addr × Obj)} {σ:St} {H:Hp} {s:Shared} {a:Addr} (I:Inv X pins σ H s) (h:H a = some (mR a)):∃ o,s.heap.get? a = some o ∧ o.cls = .type "dict":= by
 obtain ⟨⟨_,o,_,h1,h2,_⟩,_⟩:=I.hok a _ h
 exact ⟨o,h1,h2⟩
theorem yf:dE X (.builtin "isinstance") (fun xs H Q => ∃ (Hh:Hp) (d:D) (v:V) (T:Ty) (k:Bool),xs = [v,.ty T.name] ∧ (∀ b o,Hh b = some o -> H b = some o) ∧ R Hh d v ∧ pZ T d = some k ∧ Q (.bl k) H):= by
 intro pins s σ H xs us Q I r h
 obtain ⟨Hh,d,v,T,k,rfl,m,rd,ek,q⟩:=h
 obtain ⟨u,z,rfl,ru,rz⟩:=r.two
 cases rz
 have fin:∀ tk,EP X pins σ Q (.bool k) { s with toks:=tk }:=fun tk => ⟨.bl k,H,I.tok _,rfl,q⟩
 have fin0:EP X pins σ Q (.bool k) s:=⟨.bl k,H,I,rfl,q⟩
 cases d with
 | non =>
  cases rd.non
  cases ru
  cases T <;> cases ek
  ·exact IsiPair.NoneType_int (fin _)
  ·exact IsiPair.NoneType_bool (fin _)
  ·exact IsiPair.NoneType_tuple (fin _)
  ·exact IsiPair.NoneType_list (fin _)
  ·exact IsiPair.NoneType_str (fin _)
 | int i =>
  cases rd.int
  obtain ⟨t,rfl⟩:=ru
  cases T <;> cases ek
  ·exact IsiPair.int_int fin0
  ·exact IsiPair.int_bool (fin _)
  ·exact IsiPair.int_tuple (fin _)
  ·exact IsiPair.int_list (fin _)
  ·exact IsiPair.int_str (fin _)
 | bl i =>
  cases rd.bl
  cases ru
  cases T <;> cases ek
  ·exact IsiPair.bool_int fin0
  ·exact IsiPair.bool_bool fin0
  ·exact IsiPair.bool_tuple (fin _)
  ·exact IsiPair.bool_list (fin _)
  ·exact IsiPair.bool_str (fin _)
 | str i =>
  cases rd.str
  obtain ⟨t,rfl⟩:=ru
  cases T <;> cases ek
  ·exact IsiPair.str_int (fin _)
  ·exact IsiPair.str_bool (fin _)
  ·exact IsiPair.str_tuple (fin _)
  ·exact IsiPair.str_list (fin _)
  ·exact IsiPair.str_str fin0
 | tup ds =>
  obtain ⟨q',vs,rfl,h1,h2⟩:=rd.tup
  cases ru
  obtain ⟨its,_,⟨o,ho,hc,_⟩,_⟩:=I.tuple (.of (m _ _ h1))
  cases T <;> cases ek
  ·exact IsiPair.tuple_int ho hc (fin _)
  ·exact IsiPair.tuple_bool ho hc (fin _)
  ·exact IsiPair.tuple_tuple ho hc fin0
  ·exact IsiPair.tuple_list ho hc (fin _)
  ·exact IsiPair.tuple_str ho hc (fin _)
 | lst ds =>
  obtain ⟨q',vs,rfl,h1,h2⟩:=rd.lst
  cases ru
  obtain ⟨its,_,pl,_⟩:=I.list (.inl (Rd.mono m h1))
  obtain ⟨o,ho,hc,_⟩:=pl.isList
  cases T <;> cases ek
  ·exact IsiPair.list_int ho hc (fin _)
  ·exact IsiPair.list_bool ho hc (fin _)
  ·exact IsiPair.list_tuple ho hc (fin _)
  ·exact IsiPair.list_list ho hc fin0
  ·exact IsiPair.list_str ho hc (fin _)
 | dct =>
  obtain ⟨q',rfl,h1⟩:=rd.dct
  cases ru
  obtain ⟨o,ho,hc⟩:=dictAt I (m _ _ h1)
  cases T <;> cases ek
  ·exact IsiPair.dict_int ho hc (fin _)
  ·exact IsiPair.dict_bool ho hc (fin _)
  ·exact IsiPair.dict_tuple ho hc (fin _)
  ·exact IsiPair.dict_list ho hc (fin _)
  ·exact IsiPair.dict_str ho hc (fin _)
def iR (T:Ty) (fa:M D):M D:=do
 let d <- fa
 let k <- lift (pZ T d)
 pure (.bl k)
theorem Gw (T:Ty) {y:Str} {py:Pos} (hg:Gl X y) (hm:X.mg y = none) (hv:bootBuiltins y = some (.type T.name)) (hn:y ≠ "__name__":=by decide) (hd:(y == ("__debug__":Str)) = false:=by decide):PE X (.Name y py) (tC (.ty T.name)):=Cc hg hm hv rfl hn hd
theorem fE (T:Ty) {y:Str} {py:Pos} (hmi:X.mg "isinstance" = none) (hmy:X.mg y = none) (ha:DE X a fa) (hv:bootBuiltins y = some (.type T.name):=by decide +kernel) (hgi:Gl X "isinstance":=by rfl) (hgy:Gl X y:=by rfl) (hn:y ≠ "__name__":=by decide) (hd:(y == ("__debug__":Str)) = false:=by decide)
  (he:starEach [a,.Name y py] X.env = (false,eval a X.env) :: starEach [.Name y py] X.env:=by rfl):DE X (.Call (.Name "isinstance" p) [a,.Name y py] [] pos) (iR T fa) :=
 cG (h9 yf hgi hmi (by decide +kernel) (dY ha (dY (Gw T hgy hmy hv hn hd) g8) he) (by decide) (by decide) he rfl) fun σ H Q ⟨c,δ,S,TT,d,δ',s,e,k⟩ => by
  obtain ⟨x,δ1,e1,e⟩:=bind_some e
  obtain ⟨b,δ2,e2,e⟩:=bind_some e
  obtain ⟨e3,rfl⟩:=aA e2
  obtain ⟨rfl,rfl⟩:=aq e
  exact ⟨c,δ,S,TT,x,δ1,s,e1,fun v H1 s1 => ⟨_,x,v,T,b,rfl,bf,s1.st.head,e3,k _ _ (s1.stk (.cons .mkB s1.st.tail))⟩⟩
end
end Jt
namespace Jt
open PySem L2
def v7 (x:Int):List Int -> List Int
 | [] => [x]
 | y :: r => if x ≤ y then x :: y :: r else y :: v7 x r
def dk:List Int -> List Int
 | [] => []
 | x :: r => v7 x (dk r)
theorem kf (x:Int):∀ l,(v7 x l).Perm (x :: l)
 | [] => List.Perm.refl _
 | y :: r => by
  unfold v7
  split
  ·exact List.Perm.refl _
  ·exact ((kf x r).cons y).trans (List.Perm.swap _ _ _)
theorem eR:∀ l,(dk l).Perm l
 | [] => List.Perm.refl _
 | x :: r => (kf x _).trans ((eR r).cons x)
theorem uF (x:Int):∀ l:List Int,l.Pairwise (· ≤ ·) -> (v7 x l).Pairwise (· ≤ ·)
 | [],_ => List.pairwise_singleton _ _
 | y :: r,h => by
  obtain ⟨h1,h2⟩:=List.pairwise_cons.mp h
  unfold v7
  split
  ·rename_i hx
   refine List.pairwise_cons.mpr ⟨fun z hz => ?_,h⟩
   rcases List.mem_cons.mp hz with e | hz
   ·rw [e]; exact hx
   ·exact Int.le_trans hx (h1 z hz)
  ·rename_i hx
   refine List.pairwise_cons.mpr ⟨fun z hz => ?_,uF x r h2⟩
   rcases List.mem_cons.mp ((kf x r).mem_iff.mp hz) with e | hz
   ·rw [e]; omega
   ·exact h1 z hz
theorem lJ:∀ l,(dk l).Pairwise (· ≤ ·)
 | [] => List.Pairwise.nil
 | x :: r => uF x _ (lJ r)
theorem ot:∀ {a b:List Int},a.Perm b -> a.Pairwise (· ≤ ·) -> b.Pairwise (· ≤ ·) -> a = b
 | [],b,p,_,_ => (List.nil_perm.mp p).symm
 | x :: a,[],p,_,_ => absurd p (by simp)
 | x :: a,y :: b,p,ha,hb => by
  obtain ⟨a1,a2⟩:=List.pairwise_cons.mp ha
  obtain ⟨b1,b2⟩:=List.pairwise_cons.mp hb
  have e:x = y:= by
   have hx:x ∈ y :: b:=p.mem_iff.mp List.mem_cons_self
   have hy:y ∈ x :: a:=p.mem_iff.mpr List.mem_cons_self
   rcases List.mem_cons.mp hx with e | hx
   ·exact e
   ·rcases List.mem_cons.mp hy with e | hy
    ·exact e.symm
    ·exact Int.le_antisymm (a1 y hy) (b1 x hx)
  subst e
  rw [ot ((List.perm_cons x).mp p) a2 b2]
theorem wY {a b:List Int} (p:a.Perm b) (h:a.Pairwise (· ≤ ·)):a = dk b:=ot (p.trans (eR b).symm) h (lJ b)
def i4:List Int -> List Int
 | [] => []
 | x :: r => if x ∈ i4 r then i4 r else x :: i4 r
theorem dI {z:Int}:∀ {l:List Int},z ∈ i4 l ↔ z ∈ l
 | [] => Iff.rfl
 | x :: r => by
  unfold i4
  split
  ·rename_i h
   rw [dI,List.mem_cons]
   exact ⟨.inr,fun q => q.elim (fun e => e ▸ dI.mp h) id⟩
  ·rw [List.mem_cons,List.mem_cons,dI]
theorem dQ:∀ (l:List Int),(i4 l).Nodup
 | [] => List.nodup_nil
 | x :: r => by
  unfold i4
  split
  ·exact dQ r
  ·rename_i h; exact List.nodup_cons.mpr ⟨h,dQ r⟩
theorem zI {a b:List Int} (nd:a.Nodup) (h:∀ z,z ∈ a ↔ z ∈ b):a.Perm (i4 b):= by
 refine (List.perm_ext_iff_of_nodup nd (dQ b)).mpr fun z => ?_
 rw [h z,dI]
inductive JF (K:PySem.W.Frag) (f:M (List D)) (σ:St) (H:Hp) (Q:VK):Prop
 | mk (c:Ct) (δ:DS) (S:List D) (T:List V) (xs:List D) (δ':DS) (s:Sl c δ S σ T H) (e:f δ = some (xs,δ')) (q:∀ p vs H',vs.length = xs.length -> (ip K H' p vs ∨ iP K H' p vs) -> Sl c δ' (xs ++ S) σ (vs ++ T) H' -> Q (.ref p) H'):JF K f σ H Q
abbrev DQ (X:Cx) (e:Expr) (f:M (List D)):Prop:=PE X e (JF X.K f)
section
variable {X:Cx} {a b e:Expr} {fa fb:M D} {fs fF fq:M (List D)} {pos p apos cpos:Pos} {es rest:List Expr} {x:Str}
theorem oO (h:DE X e fa):DQ X e (do let x <- fa; lift (fS x)):=cG h fun σ H Q ⟨c,δ,S,T,xs,δ',s,e,k⟩ => by
 obtain ⟨d,δ1,e1,e⟩:=bind_some e
 obtain ⟨e2,rfl⟩:=aA e
 refine ⟨c,δ,S,T,d,δ1,s,e1,fun v H' s' => ?_⟩
 cases d with
 | tup ds =>
  cases e2
  obtain ⟨q,vs,rfl,h1,h2⟩:=s'.st.head.tup
  exact k q vs H' h2.length (.inr (.of (bf _ _ h1))) (s'.stk (h2.append s'.st.tail))
 | lst ds =>
  cases e2
  obtain ⟨q,vs,rfl,h1,h2⟩:=s'.st.head.lst
  exact k q vs H' h2.length (.inl (.inl (Rd.mono bf h1))) (s'.stk (h2.append s'.st.tail))
 | _ => cases e2
theorem Inv.kd {pins:List (Addr × Obj)} {σ:St} {H:Hp} {s:Shared} {h':Heap} {t':Nat} {d':Drawn} (I:Inv X pins σ H s) (k:∀ b u,s.heap.get? b = some u -> h'.get? b = some u):Inv X pins σ H { s with heap:=h',toks:=t',drawn:=d' }:= by
 have I1:=I.kept (t':=t') k
 exact ⟨I1.ok,I1.os,I1.bare,I1.base,I1.loc,I1.cell,I1.free,I1.freeC,I1.pin,I1.hok,I1.len⟩
theorem iK {ns:List Int}:∀ {us:List Value},PyProof.Rows.IntsAre us ns -> Vals (ns.map V.int) us:= by
 induction ns with
 | nil => intro us h; cases h; exact .nil
 | cons n ns ih =>
  intro us h
  cases h with
  | cons _ t h => exact .cons ⟨t,rfl⟩ (ih h)
theorem r_ {pins:List (Addr × Obj)} {σ:St} {H:Hp} {s:Shared} {ns ms:List Int} {Q:VK} {h1 h':Heap} {tk:Nat} {d:Drawn} {out:List Value} {e:Nat} (I:Inv X pins σ H s) (k:∀ b o,s.heap.get? b = some o -> h1.get? b = some o) (k2:∀ b o,h1.get? b = some o -> h'.get? b = some o)
  (hg:h'.get? h1.objs.size = some { cls:=.type "list",data:=.seq out.toArray e }) (hi:PyProof.Rows.IntsAre out ms) (hp:ms.Perm ns) (hu:ms.Pairwise (· ≤ ·)) (hl:ns.length < 64) (q:∀ l,H l = none -> Q (.ref l) (upd H l (.lst ((dk ns).map V.int)))) :
  EP X pins σ Q (.ref h1.objs.size) { s with heap:=h',toks:=tk,drawn:=d }:= by
 have I1:Inv X pins σ H { s with heap:=h1,toks:=tk,drawn:=d }:=Inv.kd I k
 have em:=wY hp hu
 refine ⟨.ref h1.objs.size,_,I1.laid (t':=tk) (o:=.lst ((dk ns).map V.int)) k2 (Nat.le_refl _) ⟨?_,out,e,em ▸ iK hi,hg⟩,rfl,q _ (I1.hok.fresh (Nat.le_refl _))⟩
 rw [List.length_map,<- em,hp.length_eq,sizeLine_eq]
 omega
theorem qQ:dE X (.builtin "sorted") (fun xs H Q => ∃ p ns,xs = [.ref p] ∧ (ip X.K H p (ns.map V.int) ∨ iP X.K H p (ns.map V.int)) ∧ ns.length < 64 ∧ ∀ l,H l = none -> Q (.ref l) (upd H l (.lst ((dk ns).map V.int)))):= by
 intro pins s σ H xs us Q I r h
 obtain ⟨p,ns,rfl,hq,hl,q⟩:=h
 obtain ⟨u,rfl,ru⟩:=r.one
 cases ru
 refine qW (ns:=ns) (fun A' Q' E' hA hQ' => ?_) hl fun h1 h' tk d out ms e k k2 hg hi hp hu => r_ I k k2 hg hi hp hu hl q
 rcases hq with hq | hq
 ·obtain ⟨its,rv,pl,hz⟩:=I.list hq
  obtain ⟨o,ho,hc,n,hd⟩:=pl.isList
  exact wpAny_collect_seq p (.inl rfl) ho hc hd (fun h' k => hQ' _ ns h' s.toks s.drawn (by simpa using intsAre_of rv) (List.Perm.refl _) k) (by rw [List.size_toArray,<- rv.length]; exact hz)
 ·obtain ⟨its,rv,⟨o,ho,hc,n,hd⟩,hz⟩:=I.tuple hq
  exact wpAny_collect_seq p (.inr rfl) ho hc hd (fun h' k => hQ' _ ns h' s.toks s.drawn (by simpa using intsAre_of rv) (List.Perm.refl _) k) (by rw [List.size_toArray,<- rv.length]; exact hz)
def dC:List D -> Option (List Int)
 | [] => some []
 | .int i :: r => (dC r).map (i :: ·)
 | _ => none
theorem jm {H:Hp}:∀ {ds:List D} {vs:List V} {ns:List Int},Rs H ds vs -> dC ds = some ns -> vs = ns.map V.int
 | [],vs,ns,h,e => by cases e; exact h.inv0
 | d :: ds,vs,ns,h,e => by
  obtain ⟨v,r,ev,h1,h2⟩:=h.inv
  cases d with
  | int b =>
   unfold dC at e
   cases q:dC ds with
   | none => rw [q] at e; cases e
   | some bs' =>
    rw [q] at e; cases e
    rw [ev,h1.int,jm h2 q]; rfl
  | _ => cases e
theorem jY {H:Hp}:∀ (ns:List Int),Rs H (ns.map D.int) (ns.map V.int)
 | [] => .nil
 | n :: ns => .cons .mkI (jY ns)
def sortI (xs:List D):Option (List D):=match dC xs with
 | some ns => if ns.length < 64 then some ((dk ns).map D.int) else none
 | none => none
def mQ {α:Type} (g:List D -> Option α) (f:M (List D)):M α:=do
 let xs <- f
 lift (g xs)
theorem kl (hm:X.mg "sorted" = none) (h:DQ X e fq) (hg:Gl X "sorted":=by rfl) (he:starEach [e] X.env = [(false,eval e X.env)]:=by rfl):DF X (.Call (.Name "sorted" p) [e] [] pos) (mQ sortI fq) :=
 cG (h9 qQ hg hm PyProof.Rows.boot_sorted (dY h g8 he) (by decide) (by decide) he rfl) fun σ H Q ⟨c,δ,S,T,xs,δ',s,e,k⟩ => by
  obtain ⟨ds,δ1,e1,e⟩:=bind_some e
  obtain ⟨e2,rfl⟩:=aA e
  refine ⟨c,δ,S,T,ds,δ1,s,e1,fun q vs H1 l hq s1 => ?_⟩
  unfold sortI at e2
  split at e2
  ·rename_i ns en
   split at e2
   ·rename_i hn
    cases e2
    have ev:=jm (s1.st.left l) en
    subst ev
    refine ⟨q,ns,rfl,hq,hn,fun m hm => ?_⟩
    obtain ⟨f1,f2,f3⟩:=s1.fresh hm
    have s2:=(s1.drop l).hide (o:=.lst ((dk ns).map V.int)) hm
    exact k m _ _ (by simp) (s2.stk ((jY _).append s2.st)) f1 f2 f3
   ·cases e2
  ·cases e2
def qK (w:World) (S:Addr) (ns:List Int):HO:=.ext fun h => ∃ l ep t,ff w h S l ep t ∧ (l.map (·.1)).Perm (i4 ns)
theorem x_ (hc:X.calm = true):dE X (.type "set") (fun xs H Q => ∃ p ns,xs = [.ref p] ∧ (ip X.K H p (ns.map V.int) ∨ iP X.K H p (ns.map V.int)) ∧ ns.length < 4000 ∧ ∀ l,H l = none -> Q (.ref l) (upd H l (qK X.w l ns))):= by
 intro pins s σ H xs us Q I r h
 obtain ⟨p,ns,rfl,hq,hl,q⟩:=h
 obtain ⟨u,rfl,ru⟩:=r.one
 cases ru
 have fin:∀ (h':Heap) (tk:Nat) (ls:List (Int × Tok)) (ep:Nat) (t:SetTable),ff X.w h' s.heap.objs.size ls ep t -> (ls.map (·.1)).Nodup -> (∀ z,z ∈ ls.map (·.1) ↔ z ∈ ns) -> (∀ b o,s.heap.get? b = some o -> h'.get? b = some o) ->
   EP X pins σ Q (.ref s.heap.objs.size) { s with heap:=h',toks:=tk }:=fun h' tk ls ep t x nd mem k => by
  refine ⟨.ref s.heap.objs.size,_,I.laid (t':=tk) (o:=qK X.w s.heap.objs.size ns) k (Nat.le_refl _) ⟨⟨ls,ep,t,x,zI nd mem⟩,?_,fun h1 h2 ⟨l,ep,t,x,p⟩ k => ⟨l,ep,t,x.at k,p⟩⟩,rfl,q _ I.fresh⟩
  obtain ⟨o,ho,_⟩:=x.obj
  exact ⟨o,ho⟩
 rcases hq with hq | hq
 ·obtain ⟨its,rv,pl,hz⟩:=I.list hq
  have hn:its.toArray.size = ns.length:=by rw [List.size_toArray,<- rv.length,List.length_map]
  exact vK (ns:=ns) (I.ok.hd hc) pl.isList (by simpa using intsAre_of rv) (by rw [hn]; show _ < 4096; omega) fin
 ·obtain ⟨its,rv,pl,hz⟩:=I.tuple hq
  have hn:its.toArray.size = ns.length:=by rw [List.size_toArray,<- rv.length,List.length_map]
  exact v3 (ns:=ns) (I.ok.hd hc) (show s.heap.IsTuple p its.toArray from pl) (by simpa using intsAre_of rv) (by rw [hn]; show _ < 4096; omega) fin
theorem q_:dE X (.builtin "len") (fun xs H Q => ∃ p ns,xs = [.ref p] ∧ H p = some (qK X.w p ns) ∧ Q (.int (i4 ns).length) H):= by
 intro pins s σ H xs us Q I r h
 obtain ⟨p,ns,rfl,hq,q⟩:=h
 obtain ⟨u,rfl,ru⟩:=r.one
 cases ru
 obtain ⟨⟨l,ep,t,x,pm⟩,_⟩:=I.hok p _ hq
 obtain ⟨o,ho,hx,hd⟩:=x.obj
 have hs:(l.map eo).toArray.size = l.length:=by simp
 have hn:l.length = (i4 ns).length:=by rw [<- pm.length_eq,List.length_map]
 have hf:=x.few
 have hb:scanBound = 4096:=rfl
 refine call_len_set ho hx hd (by rw [hs]; exact x.fits) (by rw [hs]; omega) ?_
 rw [hs,hn]
 exact ⟨.int _,H,I.tok _,⟨_,rfl⟩,q⟩
def eO (xs:List D):Option D:=match dC xs with
 | some ns => if ns.length < 4000 then some (.int (i4 ns).length) else none
 | none => none
def Gb (K:PySem.W.Frag) (w:World) (te:TE):TE:=fun σ H Q => te σ H fun x H1 => ∃ p ns,[x] = [V.ref p] ∧ (ip K H1 p (ns.map V.int) ∨ iP K H1 p (ns.map V.int)) ∧ ns.length < 4000 ∧ ∀ l,H1 l = none -> Q (.ref l) (upd H1 l (qK w l ns))
theorem DU {te:TE} (hm:X.mg "set" = none) (h:PE X e te) (hg:Gl X "set":=by rfl) (hc:X.calm = true:=by rfl) (he:starEach [e] X.env = [(false,eval e X.env)]:=by rfl):PE X (.Call (.Name "set" p) [e] [] pos) (Gb X.K X.w te) :=
 cG (fT (x_ hc) hg hm (by decide +kernel) (dY h g8 he) (by decide) (by decide) he rfl) fun σ H Q h => h
theorem jU {p2 pos2:Pos} (hm:X.mg "len" = none) (hm2:X.mg "set" = none) (h:DQ X e fq) (hg:Gl X "len":=by rfl) (hg2:Gl X "set":=by rfl) (hc:X.calm = true:=by rfl) (he:starEach [e] X.env = [(false,eval e X.env)]:=by rfl) :
  DE X (.Call (.Name "len" p) [.Call (.Name "set" p2) [e] [] pos2] [] pos) (mQ eO fq) :=
 cG (h9 q_ hg hm PySem.boot_len (dY (DU hm2 h hg2 hc he) g8 rfl) (by decide) (by decide) rfl rfl) fun σ H Q ⟨c,δ,S,T,xs,δ',s,e,k⟩ => by
  obtain ⟨ds,δ1,e1,e⟩:=bind_some e
  obtain ⟨e2,rfl⟩:=aA e
  refine ⟨c,δ,S,T,ds,δ1,s,e1,fun q vs H1 l hq s1 => ?_⟩
  unfold eO at e2
  split at e2
  ·rename_i ns en
   split at e2
   ·rename_i hn
    cases e2
    have ev:=jm (s1.st.left l) en
    subst ev
    refine ⟨q,ns,rfl,hq,by omega,fun m hm => ⟨m,ns,rfl,aQ,?_⟩⟩
    have s2:=(s1.drop l).grow (gZ hm (qK X.w m ns))
    exact k _ _ (s2.stk (.cons .mkI s2.st))
   ·cases e2
  ·cases e2
def vG (xs ys:List D):Option (List D):=if xs.length + ys.length ≤ 100000 then some (xs ++ ys) else none
end
end Jt
namespace Jt
open PySem L2
inductive Hn where
 | th (x:D) | ls (j:Nat)
def Eg (c:Ct) (δ:DS) (S:List D) (σ:St) (T:List V) (H:Hp) (v:V):Hn -> Prop
 | .th d => Sl c δ (d :: S) σ (v :: T) H
 | .ls i => Sl c δ S σ T H ∧ σ[i]? = some (some v)
inductive Dh (f:M Hn) (σ:St) (H:Hp) (Q:VK):Prop
 | mk (c:Ct) (δ:DS) (S:List D) (T:List V) (h:Hn) (δ':DS) (s:Sl c δ S σ T H) (e:f δ = some (h,δ')) (q:∀ v H',Eg c δ' S σ T H' v h -> Q v H'):Dh f σ H Q
abbrev DH (X:Cx) (e:Expr) (f:M Hn):Prop:=PE X e (Dh f)
def Hn.ds:Hn -> List D
 | .th z => [z]
 | .ls _ => []
def Hn.vs (v:V):Hn -> List V
 | .th _ => [v]
 | .ls _ => []
theorem Hn.len (v:V) (h:Hn):(h.vs v).length = h.ds.length:=by cases h <;> rfl
def zM (h:Hn):M D:=fun δ => match h with
 | .th d => some (d,δ)
 | .ls i => match δ[i]? with
  | some (.ow _ xs) => some (.lst xs,δ)
  | _ => none
theorem Eg.sl {c:Ct} {δ:DS} {S:List D} {σ:St} {T:List V} {H:Hp} {v:V} {h:Hn} (k:Eg c δ S σ T H v h):Sl c δ (h.ds ++ S) σ (h.vs v ++ T) H:= by
 cases h with
 | th d => exact k
 | ls i => exact k.1
theorem rV {c:Ct} {δ δ':DS} {S:List D} {σ:St} {T:List V} {H:Hp} {v:V} {h:Hn} {d:D} (s:Sl c δ S σ T H) (hs:∀ d',h = .th d' -> R (fI c δ σ H) d' v) (ho:∀ i,h = .ls i -> σ[i]? = some (some v)) (e:zM h δ = some (d,δ')):δ = δ' ∧ R H d v ∧
  (∀ xs,d = .lst xs -> ∃ p vs,v = .ref p ∧ Rd H p (.lst vs) ∧ Rs (fI c δ σ H) xs vs) ∧ ((∀ xs,d ≠ .lst xs) -> R (fI c δ σ H) d v):= by
 cases h with
 | th d0 =>
  cases e
  have r:=hs d rfl
  refine ⟨rfl,r.mono bf,fun xs ex => ?_,fun _ => r⟩
  subst ex
  obtain ⟨p,vs,ev,h1,h2⟩:=r.lst
  exact ⟨p,vs,ev,Rd.mono bf h1,h2⟩
 | ls i =>
  unfold zM at e
  dsimp only at e
  split at e
  ·rename_i b xs hx
   cases e
   obtain ⟨p,vs,ev,hp,hr⟩:=s.own hx
   rw [ho i rfl] at ev
   cases ev
   exact ⟨rfl,.mkL (.inl hp) (hr.mono bf),fun ys ey => by cases ey; exact ⟨p,vs,rfl,.inl hp,hr⟩,fun z => absurd rfl (z xs)⟩
  ·cases e
section
variable {X:Cx} {a b e:Expr} {fa fb:M D} {ha' hb':M Hn} {fs fF fq:M (List D)} {pos p apos cpos:Pos} {es rest:List Expr} {x:Str}
theorem fm (h:DE X e fa):DH X e (do let x <- fa; pure (.th x)):=cG h fun σ H Q ⟨c,δ,S,T,h,δ',s,e,k⟩ => by
 obtain ⟨d,δ1,e1,e⟩:=bind_some e
 obtain ⟨rfl,rfl⟩:=aq e
 exact ⟨c,δ,S,T,d,δ1,s,e1,fun v H' s' => k v H' s'⟩
def pV (i:Nat):M Hn:=do
 let _ <- aF i
 pure (.ls i)
theorem kv (i:Nat) {px:Pos} (hN:X.N[i]? = some x:=by rfl) (hv:ug X.env.scope x:=by first | exact Or.inl rfl | exact Or.inr (Or.inl rfl) | exact Or.inr (Or.inr rfl)) (hd:(x == ("__debug__":Str)) = false:=by decide) (hcd:(x == ("__classdict__":Str)) = false:=by decide) :
  DH X (.Name x px) (pV i):=cG (eJ hN hv hd hcd) fun σ H Q ⟨c,δ,S,T,h,δ',s,e,k⟩ => by
 obtain ⟨xs,δ1,e1,e⟩:=bind_some e
 obtain ⟨rfl,rfl⟩:=aq e
 obtain ⟨⟨b,hi⟩,rfl⟩:=bO e1
 obtain ⟨q,vs,ev,hq,hx⟩:=s.own hi
 exact ⟨_,ev,k _ H ⟨s,ev⟩⟩
def lL {α:Type} (g:D -> D -> Option α) (fa fb:M Hn):M α:=do
 let h1 <- fa
 let h2 <- fb
 let x <- zM h1
 let y <- zM h2
 lift (g x y)
structure pj (c:Ct) (δ:DS) (S:List D) (σ:St) (T:List V) (H:Hp) (x y:D) (v u:V):Prop where
 sl:Sl c δ S σ T H
 rx:R H x v
 ry:R H y u
 lx:∀ xs,x = .lst xs -> ∃ p vs,v = .ref p ∧ Rd H p (.lst vs) ∧ Rs (fI c δ σ H) xs vs
 ly:∀ xs,y = .lst xs -> ∃ p vs,u = .ref p ∧ Rd H p (.lst vs) ∧ Rs (fI c δ σ H) xs vs
theorem t9 {α:Type} {r:R2} {g:D -> D -> Option α} {W:Ct -> DS -> List D -> St -> List V -> VK -> α -> Prop}
  (hr:∀ c δ S σ T H x y v u z Q,pj c δ S σ T H x y v u -> g x y = some z -> W c δ S σ T Q z -> r v u H Q) :
  ∀ σ H Q,(∃ c δ S T z δ',Sl c δ S σ T H ∧ lL g ha' hb' δ = some (z,δ') ∧ W c δ' S σ T Q z) -> CT r (Dh ha') (Dh hb') σ H Q:=fun σ H Q ⟨c,δ,S,T,z,δ',s,e,k⟩ => by
 obtain ⟨h1,δ1,e1,e⟩:=bind_some e
 obtain ⟨h2,δ2,e2,e⟩:=bind_some e
 obtain ⟨x,δ3,e3,e⟩:=bind_some e
 obtain ⟨y,δ4,e4,e⟩:=bind_some e
 obtain ⟨e5,rfl⟩:=aA e
 refine ⟨c,δ,S,T,h1,δ1,s,e1,fun v H1 k1 => ?_⟩
 refine ⟨c,δ1,h1.ds ++ S,h1.vs v ++ T,h2,δ2,k1.sl,e2,fun u H2 k2 => ?_⟩
 have s2:=k2.sl
 have s3:Sl c δ2 S σ T H2:=(s2.drop (Hn.len u h2)).drop (Hn.len v h1)
 obtain ⟨rfl,r1,l1,_⟩:=rV s3 (v:=v) (h:=h1) (fun d' ed => by
  subst ed
  exact (s2.drop (Hn.len u h2)).st.head) (fun i ei => by subst ei; exact k1.2) e3
 obtain ⟨rfl,r2,l2,_⟩:=rV s3 (v:=u) (h:=h2) (fun d' ed => by
  subst ed
  exact s2.st.head) (fun i ei => by subst ei; exact k2.2) e4
 exact hr c δ2 S σ T H2 x y v u z Q ⟨s3,r1,r2,l1,l2⟩ e5 k
def Gr:R2:=fun x y H Q => ∃ l b xs zs,x = .ref l ∧ y = .ref b ∧ Rd H l (.lst xs) ∧ Rd H b (.lst zs) ∧ xs.length + zs.length ≤ sizeLine ∧ ∀ p,H p = none -> Q (.ref p) (upd H p (.lst (xs ++ zs)))
theorem Bk:gK X (binaryOp .Add) Gr:= by
 intro pins s σ H x y v u Q I rx ry h
 obtain ⟨l,b,xs,zs,rfl,rfl,hH,hB,hz,q⟩:=h
 cases rx
 cases ry
 obtain ⟨z,its,n,r,e⟩:=hH.ok I.hok
 obtain ⟨z2,its2,n2,r2,e2⟩:=hB.ok I.hok
 refine PySem.P.add_list e e2 ?_ (by rw [List.size_toArray,List.size_toArray,<- r.length,<- r2.length]; exact hz)
 rw [show its.toArray ++ its2.toArray = (its ++ its2).toArray by simp]
 exact ⟨.ref _,_,I.lnew (t':=s.toks) (r.append r2) (by rw [List.length_append]; exact hz),rfl,q _ I.fresh⟩
def j9:D -> D -> Option (List D)
 | .lst xs,.lst ys => vG xs ys
 | _,_ => none
theorem mG (ha:DH X a ha') (hb:DH X b hb'):DF X (.BinOp a .Add b pos) (lL j9 ha' hb'):=cG (C5 Bk ha hb) fun σ H Q ⟨c,δ,S,T,z,δ',s,e,k⟩ => by
 refine t9 (W:=fun c δ' S σ T Q z => ∀ l vs H',vs.length = z.length -> Sl { c with Z:=upd c.Z l (.lst vs) } δ' (z ++ S) σ (vs ++ T) H' -> c.Z l = none -> l ∉ c.B -> c.H0 l = none -> Q (.ref l) H') (fun c δ S σ T H x y v u z Q t eg w => ?_) σ H Q ⟨c,δ,S,T,z,δ',s,e,k⟩
 cases x with
 | lst xs =>
  cases y with
  | lst ys =>
   have eg':(if xs.length + ys.length ≤ 100000 then some (xs ++ ys) else none) = some z:=eg
   split at eg'
   ·rename_i hn
    cases eg'
    obtain ⟨p1,vs,rfl,a1,a2⟩:=t.lx xs rfl
    obtain ⟨p2,us,rfl,b1,b2⟩:=t.ly ys rfl
    have hl:(100000:Nat) < sizeLine:=by rw [sizeLine_eq]; decide
    refine ⟨p1,p2,vs,us,rfl,rfl,a1,b1,by rw [a2.length,b2.length]; omega,fun q hq => ?_⟩
    have s1:=t.sl.stk ((a2.append b2).append t.sl.st)
    obtain ⟨f1,f2,f3⟩:=s1.fresh hq
    exact w q _ _ (by rw [List.length_append,List.length_append,a2.length,b2.length]) (s1.hide hq) f1 f2 f3
   ·cases eg'
  | _ => cases eg
 | _ => cases eg
def zR (neg:Bool) (x y:D):Option D:=if kX x y = true then (d9 9 x y).map fun b => .bl (if neg then !b else b) else dj neg x y
theorem kZ {c:Ct} {δ:DS} {S:List D} {σ:St} {T:List V} {H:Hp} {x y:D} {v u:V} {z:D} {Q:VK} {neg:Bool} {r:R2} (t:pj c δ S σ T H x y v u) (eg:zR neg x y = some z) (w:∀ v H',Sl c δ (z :: S) σ (v :: T) H' -> Q v H')
  (hs:∀ (b:Bool),kX x y = true -> d9 9 x y = some b -> Q (.bl (if neg then !b else b)) H -> r v u H Q) (hf:qZ v u = true -> Q (.bl (if neg then !decide (v = u) else decide (v = u))) H -> r v u H Q):r v u H Q:= by
 unfold zR at eg
 split at eg
 ·rename_i hq
  cases q:d9 9 x y with
  | none => rw [q] at eg; cases eg
  | some b =>
   rw [q] at eg; cases eg
   exact hs b hq q (w _ _ (t.sl.stk (.cons .mkB t.sl.st)))
 ·unfold dj at eg
  split at eg
  ·rename_i w1 z1 e1 e2
   split at eg
   ·rename_i hsc
    cases eg
    obtain ⟨rfl,_⟩:=dF t.rx e1
    obtain ⟨rfl,_⟩:=dF t.ry e2
    exact hf hsc (w _ _ (t.sl.stk (.cons .mkB t.sl.st)))
   ·cases eg
  ·cases eg
theorem I_ {k:Nat} (hr:cX k X.A) (ha:DH X a ha') (hb:DH X b hb'):DE X (.Compare a [.Eq] [b] pos) (lL (zR false) ha' hb'):=cG (lh (p7 (jf hr)) ha hb (jW _)) fun σ H Q ⟨c,δ,S,T,z,δ',s,e,k⟩ =>
 t9 (W:=fun c δ' S σ T Q z => ∀ v H',Sl c δ' (z :: S) σ (v :: T) H' -> Q v H') (fun c δ S σ T H x y v u z Q t eg w => kZ t eg w (fun b hs he q => .inr ⟨H,x,y,b,fun _ _ h => h,t.rx,t.ry,hs,he,q⟩) fun hs q => .inl ⟨hs,q⟩) σ H Q ⟨c,δ,S,T,z,δ',s,e,k⟩
theorem IP {k:Nat} (hr:cX k X.A) (ha:DH X a ha') (hb:DH X b hb'):DE X (.Compare a [.NotEq] [b] pos) (lL (zR true) ha' hb'):=cG (lh (tN (jf hr)) ha hb (jW _)) fun σ H Q ⟨c,δ,S,T,z,δ',s,e,k⟩ =>
 t9 (W:=fun c δ' S σ T Q z => ∀ v H',Sl c δ' (z :: S) σ (v :: T) H' -> Q v H') (fun c δ S σ T H x y v u z Q t eg w => kZ t eg w (fun b hs he q => .inr ⟨H,x,y,b,fun _ _ h => h,t.rx,t.ry,hs,he,q⟩) fun hs q => .inl ⟨hs,q⟩) σ H Q ⟨c,δ,S,T,z,δ',s,e,k⟩
theorem Jk {g:D -> D -> Option D} {r:R2} (w:∀ σ H Q,tM (lL g ha' hb') σ H Q -> CT r (Dh ha') (Dh hb') σ H Q):∀ σ H Q,z_ (lL g ha' hb' >>= cQ) σ H Q -> xg (CT r (Dh ha') (Dh hb')) σ H Q:=fun σ H Q ⟨c,δ,S,T,d,δ',s,e,k⟩ => by
 obtain ⟨x,δ1,e1,e⟩:=bind_some e
 obtain ⟨rfl,rfl⟩:=jC e
 exact w σ H _ ⟨c,δ,S,T,.bl d,δ1,s,e1,fun v H' s' => ⟨d,s'.st.head.bl,k _ s'.pop⟩⟩
theorem xD {k:Nat} (hr:cX k X.A) (ha:DH X a ha') (hb:DH X b hb'):DT X (.Compare a [.Eq] [b] pos) (lL (zR false) ha' hb' >>= cQ):=t8 (k9 (p7 (jf hr)) ha hb (jW _)) (Jk fun σ H Q ⟨c,δ,S,T,z,δ',s,e,k⟩ =>
 t9 (W:=fun c δ' S σ T Q z => ∀ v H',Sl c δ' (z :: S) σ (v :: T) H' -> Q v H') (fun c δ S σ T H x y v u z Q t eg w => kZ t eg w (fun b hs he q => .inr ⟨H,x,y,b,fun _ _ h => h,t.rx,t.ry,hs,he,q⟩) fun hs q => .inl ⟨hs,q⟩) σ H Q ⟨c,δ,S,T,z,δ',s,e,k⟩)
theorem Ey {k:Nat} (hr:cX k X.A) (ha:DH X a ha') (hb:DH X b hb'):DT X (.Compare a [.NotEq] [b] pos) (lL (zR true) ha' hb' >>= cQ):=t8 (k9 (tN (jf hr)) ha hb (jW _)) (Jk fun σ H Q ⟨c,δ,S,T,z,δ',s,e,k⟩ =>
 t9 (W:=fun c δ' S σ T Q z => ∀ v H',Sl c δ' (z :: S) σ (v :: T) H' -> Q v H') (fun c δ S σ T H x y v u z Q t eg w => kZ t eg w (fun b hs he q => .inr ⟨H,x,y,b,fun _ _ h => h,t.rx,t.ry,hs,he,q⟩) fun hs q => .inl ⟨hs,q⟩) σ H Q ⟨c,δ,S,T,z,δ',s,e,k⟩)
def flatOnly (d:D):Option D:=match flat d with
 | some _ => some d
 | none => none
def JL (n:Nat) (mf:List D -> Option D) (ds:List D):Option D:=if ds.length = n then (mf ds).bind flatOnly else none
variable {k:Nat} {f:Addr} {fd:FuncData} {ps:List Str}
def cutD (xs:List D) (lo hi:Option Int):List D:=(xs.drop (HT.sIx xs.length 0 lo)).take (HT.sIx xs.length xs.length hi - HT.sIx xs.length 0 lo)
theorem wx {H:Hp} {ds:List D} {vs:List V} (h:Rs H ds vs) (lo hi:Option Int):Rs H (cutD ds lo hi) (pN vs lo hi):= by
 unfold cutD pN
 rw [h.length]
 have dr:∀ (n:Nat) {ds:List D} {vs:List V},Rs H ds vs -> Rs H (ds.drop n) (vs.drop n):= by
  intro n
  induction n with
  | zero => intro ds vs h; exact h
  | succ n ih =>
   intro ds vs h
   cases ds with
   | nil => rw [h.inv0]; exact .nil
   | cons d ds => obtain ⟨v,r,e,h1,h2⟩:=h.inv; subst e; exact ih h2
 have tk:∀ (n:Nat) {ds:List D} {vs:List V},Rs H ds vs -> Rs H (ds.take n) (vs.take n):= by
  intro n
  induction n with
  | zero => intro ds vs h; rw [List.take_zero,List.take_zero]; exact .nil
  | succ n ih =>
   intro ds vs h
   cases ds with
   | nil => rw [h.inv0]; exact .nil
   | cons d ds => obtain ⟨v,r,e,h1,h2⟩:=h.inv; subst e; exact .cons h1 (ih h2)
 exact tk _ (dr _ h)
theorem qI {t sl:Addr} {items:Array Value} {vl vu:Value} {lo hi:Option Int} {prog:Program} {w:World} {A:Around} {E:Value -> Shared -> Prop} {s:Shared} {Q:Value -> Shared -> Prop} (ht:PyProof.Rows.IsTup s.heap t items) (hs:s.heap.IsSliceOf sl vl vu .none) (pl:IsPart vl lo) (pu:IsPart vu hi)
  (hw:HT.sIx items.size 0 lo = 0 ∧ HT.sIx items.size items.size hi = items.size) (h:Q (.ref t) s):wpAny (model prog w) A (getItem (.ref t) (.ref sl)) Q E s:= by
 obtain ⟨os,hos,hcs,hds⟩:=id hs
 have hTs:s.TypeIs (.ref sl) "slice":=⟨os,hos,hcs⟩
 unfold getItem
 try with_reducible refine wpAny_holding ?_
 first | refine wpAny_bind (wpAny_pure ?_) | skip
 refine wpAny_bind (wpAny_sequenceKey ht.typeIs (by decide) ?_)
 refine wpAny_bind (wpAny_callSpecial?_slot (name:=Str.ofString "__getitem__") ht.typeIs PyProof.Rows.slot_tuple_getitem (wpAny_call_entry PyProof.Rows.slot_tuple_getitem ht.typeIs PyProof.Rows.entry_tuple_getitem ?_ (PyProof.Rows.args_tuple_getitem _ _)))
 show wpAny (model prog w) _ (Builtin.Tuple.tupleItemsOf (.ref t) >>= _) _ _ s
 refine wpAny_bind (PyProof.Rows.tupleItemsOf_ ht (wpAny_bind (wpAny_typeOf hTs ?_)))
 rw [if_pos (by decide)]
 refine wpAny_bind (HT.sliceApplied_gen hs pl pu ?_)
 have hyes:(((HT.sIx items.size 0 lo:Nat):Int) == 0 && (1:Int) == 1 && (HT.sIx items.size items.size hi - HT.sIx items.size 0 lo) == items.size) = true:= by
  rw [hw.1,hw.2]; simp
 show wpAny (model prog w) _ (if (((HT.sIx items.size 0 lo:Nat):Int) == 0 && (1:Int) == 1 && (HT.sIx items.size items.size hi - HT.sIx items.size 0 lo) == items.size) = true then _ else _) _ _ s
 rw [if_pos hyes]
 refine wpAny_bind ?_
 unfold Builtin.Tuple.tupleIsExact
 refine wpAny_bind (wpAny_typeOf ht.typeIs (wpAny_pure ?_))
 rw [if_pos (by decide)]
 exact wpAny_bind (wpAny_rule (wpAny_bind (wpAny_pure (wpAny_pure ⟨_,rfl,wpAny_pure h⟩))))
end
end Jt
namespace Jt
open PySem L2
section
variable {X:Cx} {pins:List (Addr × Obj)} {σ:St} {H:Hp} {s:Shared} {h':Heap}
theorem _root_.L2.Inv.turnedN {t':Nat} {fp:List Addr} {p:Addr} {o:HO} (I:Inv X pins σ H s) (k:∀ b o,b ∉ fp -> s.heap.get? b = some o -> h'.get? b = some o) (hf:∀ b ∈ fp,jd X pins H b) (hp:s.heap.objs.size ≤ p) (new:dM X.prog X.w (upd H p o) h' p o) :
  Inv X pins σ (upd H p o) { s with heap:=h',toks:=t' }:= by
 have hn:H p = none:=I.hok.fresh hp
 have nit:∀ b u,H b = some u -> b ∉ fp:=fun b u e z => by rw [(hf b z).1] at e; cases e
 refine I.step (g':=s.gens) (d':=s.drawn) (ch:=fp) (fun b hb => ?_) (fun b o _ _ hc e _ => k b o hc e) (fun b o _ _ hc e _ => ⟨o.slots,k b o hc e⟩) (fun b o _ e n => ?_)
  (fun b o hc e => ⟨o,k b o hc e⟩) (fun b xs e => by rw [az (cm e hn)]; exact e) (fun b o u e => by rw [az (cm e hn)]; exact e) (fun b ps e => ⟨#[],by rw [az (cm e hn),e]; simp⟩) (fun m hm => ?_) (fun b u e => ?_) I.bare
 ·obtain ⟨_,f1,_,f3,f4,f5⟩:=hf b hb
  exact ⟨f3,f1,f4,f5⟩
 ·rw [az fun z => by subst z; exact Nat.lt_irrefl _ (Nat.lt_of_lt_of_le (Heap.lt_size e) hp)]; exact n
 ·obtain ⟨o',es,ep,ho,r⟩:=hm
  exact ⟨o',es,ep,k _ o' (fun z => (hf _ z).2.1 rfl) ho,r⟩
 ·by_cases hb:b = p
  ·subst hb; rw [aQ] at e; cases e; exact new
  ·rw [az hb] at e
   refine (I.hok b u e).stay (fun c v hc q => k c v ?_ q) (fun c q => by rw [az (cm q hn)]; exact q) fun c xs q => by rw [az (cm q hn)]; exact q
   rcases hc with z | z
   ·rw [z]; exact nit b u e
   ·exact nit c _ z
theorem _root_.L2.Inv.turnedL {t':Nat} {fp:List Addr} (I:Inv X pins σ H s) (k:∀ b o,b ∉ fp -> s.heap.get? b = some o -> h'.get? b = some o) (hf:∀ b ∈ fp,jd X pins H b):Inv X pins σ H { s with heap:=h',toks:=t' }:= by
 have nit:∀ b u,H b = some u -> b ∉ fp:=fun b u e z => by rw [(hf b z).1] at e; cases e
 refine I.step (g':=s.gens) (d':=s.drawn) (ch:=fp) (fun b hb => ?_) (fun b o _ _ hc e _ => k b o hc e) (fun b o _ _ hc e _ => ⟨o.slots,k b o hc e⟩) (fun _ _ _ _ n => n)
  (fun b o hc e => ⟨o,k b o hc e⟩) (fun _ _ e => e) (fun _ _ _ e => e) (fun b ps e => ⟨#[],by rw [e]; simp⟩) (fun m hm => ?_) (fun b u e => ?_) I.bare
 ·obtain ⟨_,f1,_,f3,f4,f5⟩:=hf b hb
  exact ⟨f3,f1,f4,f5⟩
 ·obtain ⟨o',es,ep,ho,r⟩:=hm
  exact ⟨o',es,ep,k _ o' (fun z => (hf _ z).2.1 rfl) ho,r⟩
 ·refine (I.hok b u e).stay (fun c v hc q => k c v ?_ q) (fun _ q => q) fun _ _ q => q
  rcases hc with z | z
  ·rw [z]; exact nit b u e
  ·exact nit c _ z
def Sq (b:Bool) (K:PySem.W.Frag) (H:Hp) (q:Addr) (xs:List V):Prop:=match b with
 | true => iP K H q xs
 | false => ip K H q xs
theorem _root_.L2.Inv.sq {b:Bool} {q:Addr} {xs:List V} (I:Inv X pins σ H s) (h:Sq b X.K H q xs):∃ its:List Value,Vals xs its ∧ ka b s.heap q its.toArray:= by
 cases b with
 | true => obtain ⟨its,r,p,_⟩:=I.tuple h; exact ⟨its,r,p⟩
 | false => obtain ⟨its,r,p,_⟩:=I.list h; exact ⟨its,r,p.isList⟩
theorem _root_.L2.Inv.sq_inj {b:Bool} {q:Addr} {xs ys:List V} (I:Inv X pins σ H s) (h:Sq b X.K H q xs) (h':Sq b X.K H q ys):xs = ys:= by
 cases b with
 | true => exact I.tuple_inj h h'
 | false => exact I.list_inj h h'
def IE (K:PySem.W.Frag) (b1 b2:Bool) (l1 l2:Addr):It :=
 ⟨fun i H => ∃ xs ys x y,Sq b1 K H l1 xs ∧ Sq b2 K H l2 ys ∧ xs[i]? = some x ∧ ys[i]? = some y,
   fun i H x H' => ∃ p v u,x = .ref p ∧ H p = none ∧ H' = upd H p (.tup [v,u]) ∧ (∀ xs,Sq b1 K H l1 xs -> xs[i]? = some v) ∧ ∀ ys,Sq b2 K H l2 ys -> ys[i]? = some u,
   fun i H => ∃ xs ys,Sq b1 K H l1 xs ∧ Sq b2 K H l2 ys ∧ (xs.length ≤ i ∨ ys.length ≤ i)⟩
def Zt (b1 b2:Bool) (z TI TO i1 i2 l1 l2:Addr) (k:Nat) (h:Heap):Prop:=IsZip h z TI TO .none ∧ IsPair h TI (.ref i1) (.ref i2) ∧ (∃ a c,IsPair h TO a c) ∧ kM b1 h i1 l1 k ∧ kM b2 h i2 l2 k
theorem yn {P:Program} {w:World} {K:PySem.W.Frag} {es:List Expr} {x1} {pt:Pos} (b1 b2:Bool) {z TI TO i1 i2 l1 l2:Addr} (D:uD z TI TO i1 i2 l1 l2) (hfl1:l1 ∉ [z,TI,TO,i1,i2]) (hfl2:l2 ∉ [z,TI,TO,i1,i2]) :
  Turn P w K (.Tuple es x1 pt) (IE K b1 b2 l1 l2) [z,TI,TO,i1,i2] z (Zt b1 b2 z TI TO i1 i2 l1 l2) where
 mem:=by simp
 obj:=fun i h st b hb => by
  obtain ⟨s1,s2,⟨a,c,s3⟩,s4,s5⟩:=st
  have itc:∀ {bb:Bool} {it l:Addr},kM bb h it l i -> ∃ o,h.get? it = some o ∧ ∀ v,o.data ≠ .cell v:=fun {bb it l} q => by
   cases bb with
   | true => obtain ⟨o,e,_,d⟩:=q; exact ⟨o,e,fun v z => by rw [d] at z; cases z⟩
   | false => obtain ⟨o,e,_,d⟩:=q; exact ⟨o,e,fun v z => by rw [d] at z; cases z⟩
  simp only [List.mem_cons,List.not_mem_nil,or_false] at hb
  rcases hb with e | e | e | e | e <;> subst e
  ·exact ⟨_,s1,fun v q => by cases q⟩
  ·exact ⟨_,s2,fun v q => by cases q⟩
  ·exact ⟨_,s3,fun v q => by cases q⟩
  ·exact itc s4
  ·exact itc s5
 keep:=fun i h h' st k => by
  obtain ⟨s1,s2,⟨a,c,s3⟩,s4,s5⟩:=st
  exact ⟨k z (by simp) _ s1,k TI (by simp) _ s2,⟨a,c,k TO (by simp) _ s3⟩,s4.at (k i1 (by simp)),s5.at (k i2 (by simp))⟩
 item:= by
  intro X hP hw hK hc i pins s σ H E I hf st hg
  subst hP hw hK
  obtain ⟨xs,ys,x,y,hq1,hq2,hx,hy⟩:=hg
  obtain ⟨it1,r1,p1⟩:=I.sq hq1
  obtain ⟨it2,r2,p2⟩:=I.sq hq2
  obtain ⟨u1,e1,ru1⟩:=r1.get hx
  obtain ⟨u2,e2,ru2⟩:=r2.get hy
  obtain ⟨s1,s2,s3,s4,s5⟩:=st
  refine rJ D ⟨s1,s2,s3,s4,s5,p1,p2⟩ (by simpa using e1) (by simpa using e2) fun h' st' hp kp => ?_
  obtain ⟨t1,t2,⟨a,c,t3⟩,t4,t5,_,_⟩:=st'
  have kp':∀ b o,b ∉ [z,TI,TO,i1,i2] -> s.heap.get? b = some o -> h'.get? b = some o:=fun b o hb e => kp b o (fun hm => hb (by
   simp only [List.mem_cons,List.not_mem_nil,or_false] at hm ⊢
   rcases hm with e | e | e | e <;> simp [e])) e
  refine ⟨.ref s.heap.objs.size,rfl,wpAny_letOwnedTupleGo_zip (s:={ s with heap:=h' }) t1 fun h2 z2 sb => ?_⟩
  obtain ⟨n1,n2,n3,n4,n5,n6,n7,n8,n9,n10,m1,m2,m3,m4,m5,m6,m7,m8⟩:=D.ne
  have hzl:z < s.heap.objs.size:=Heap.lt_size s1
  have new2:IsPair h2 s.heap.objs.size u1 u2:=sb.extBut _ _ (Nat.ne_of_gt hzl) hp
  refine ⟨.ref s.heap.objs.size,upd H s.heap.objs.size (.tup [x,y]),I.turnedN (t':=s.toks) (fp:=[z,TI,TO,i1,i2]) (fun b o hb e => sb.extBut _ _ (fun q => hb (by rw [q]; simp)) (kp' b o hb e)) hf (Nat.le_refl _) ⟨by rw [sizeLine_eq]; show 2 ≤ _; decide,[u1,u2],.cons ru1 (.cons ru2 .nil),⟨_,new2,rfl,_,rfl⟩,_,new2,rfl⟩,rfl,
   ⟨_,x,y,rfl,I.fresh,rfl,fun zs hz => by rw [I.sq_inj hz hq1]; exact hx,fun zs hz => by rw [I.sq_inj hz hq2]; exact hy⟩,⟨z2,sb.extBut _ _ n1 t2,⟨a,c,sb.extBut _ _ n2 t3⟩,t4.at fun o e => sb.extBut _ _ n3 e,t5.at fun o e => sb.extBut _ _ n4 e⟩,fun b hb => ?_⟩
  have hb0:=(hf b hb).1
  rw [az fun q => ?_]
  ·exact hb0
  ·have:b < s.heap.objs.size:= by
    simp only [List.mem_cons,List.not_mem_nil,or_false] at hb
    rcases hb with e | e | e | e | e <;> subst e
    ·exact hzl
    ·exact Heap.lt_size s2
    ·obtain ⟨_,_,s3⟩:=s3; exact Heap.lt_size s3
    ·exact s4.lt
    ·exact s5.lt
   rw [q] at this
   exact Nat.lt_irrefl _ this
 done:= by
  intro X hP hw hK hc i pins s σ H E I hf st hg
  subst hP hw hK
  obtain ⟨xs,ys,hq1,hq2,hx⟩:=hg
  obtain ⟨it1,r1,p1⟩:=I.sq hq1
  obtain ⟨it2,r2,p2⟩:=I.sq hq2
  obtain ⟨s1,s2,s3,s4,s5⟩:=st
  have l1:=r1.length
  have l2:=r2.length
  refine uo (I.ok.hd hc) D ⟨s1,s2,s3,s4,s5,p1,p2⟩ (hx.elim (fun q => .inl (by simp; omega)) fun q => .inr (by simp; omega)) fun h' kp => ⟨rfl,I.turnedL (t':=s.toks) (fp:=[z,TI,TO,i1,i2]) (fun b o hb e => kp b o (fun hm => hb (by
   simp only [List.mem_cons,List.not_mem_nil,or_false] at hm ⊢
   rcases hm with e | e | e | e <;> simp [e])) e) hf⟩
 self:=fun A i s Q E st h => wpAny_pyIter_zip st.1 h
def IK (K:PySem.W.Frag) (b:Bool) (l:Addr):It :=
 ⟨fun i H => ∃ xs x,Sq b K H l xs ∧ xs[i]? = some x,
   fun i H x H' => ∃ p v,x = .ref p ∧ H p = none ∧ H' = upd H p (.tup [.int i,v]) ∧ ∀ xs,Sq b K H l xs -> xs[i]? = some v,
   fun i H => ∃ xs,Sq b K H l xs ∧ xs.length ≤ i⟩
def Et (b:Bool) (e it l:Addr) (k:Nat) (h:Heap):Prop:=(∃ old,IsEnum h e it k old) ∧ kM b h it l k
theorem Ax {prog:Program} {w:World} {A:Around} {E:Value -> Shared -> Prop} {s:Shared} {es:List Expr} {x1} {pos:Pos} {e it T:Addr} {i:Int} {v:Value} {Q:Unit -> Shared -> Prop} (he:IsEnumOut s.heap e it i v T)
  (hQ:∀ h',(∃ old,IsEnum h' e it i old) -> Heap.SameBut e s.heap h' -> Q () { s with heap:=h' }):wpAny (model prog w) A (letOwnedTupleGo (.Tuple es x1 pos) (.ref e) (.ref T)) Q E s:= by
 unfold letOwnedTupleGo
 refine wpAny_bind (wpAny_load he ?_)
 dsimp only
 split
 ·refine wpAny_bind (wpAny_rule ?_)
  refine wpAny_setField_rec he (by simp) fun h' he' sb => hQ h' ⟨v,he'⟩ sb
 ·rename_i hno
  exact absurd (by simp) hno
theorem wd {P:Program} {w:World} {K:PySem.W.Frag} {es:List Expr} {x1} {pt:Pos} (b:Bool) {e it l:Addr} (hne:e ≠ it) (hqe:l ≠ e) (hqi:l ≠ it):Turn P w K (.Tuple es x1 pt) (IK K b l) [e,it] e (Et b e it l) where
 mem:=by simp
 obj:=fun i h st c hc => by
  obtain ⟨⟨old,s1⟩,s2⟩:=st
  simp only [List.mem_cons,List.not_mem_nil,or_false] at hc
  rcases hc with q | q <;> subst q
  ·exact ⟨_,s1,fun v q => by cases q⟩
  ·cases b with
   | true => obtain ⟨o,e,_,d⟩:=s2; exact ⟨o,e,fun v z => by rw [d] at z; cases z⟩
   | false => obtain ⟨o,e,_,d⟩:=s2; exact ⟨o,e,fun v z => by rw [d] at z; cases z⟩
 keep:=fun i h h' st k => by
  obtain ⟨⟨old,s1⟩,s2⟩:=st
  exact ⟨⟨old,k e (by simp) _ s1⟩,s2.at (k it (by simp))⟩
 item:= by
  intro X hP hw hK hc i pins s σ H E I hf st hg
  subst hP hw hK
  obtain ⟨xs,x,hq1,hx⟩:=hg
  obtain ⟨it1,r1,p1⟩:=I.sq hq1
  obtain ⟨u1,e1,ru1⟩:=r1.get hx
  obtain ⟨s1,s2⟩:=st
  refine vz hne hqe hqi ⟨s1,s2,p1⟩ (by simpa using e1) fun h' t1 t2 t3 hp kp => ?_
  have hel:e < s.heap.objs.size:=by obtain ⟨_,s1⟩:=s1; exact Heap.lt_size s1
  refine ⟨.ref s.heap.objs.size,rfl,Ax (s:={ s with heap:=h',toks:=s.toks + 1 }) t1 fun h2 z2 sb => ?_⟩
  have new2:IsPair h2 s.heap.objs.size (.int i s.toks) u1:=sb.extBut _ _ (Nat.ne_of_gt hel) hp
  refine ⟨.ref s.heap.objs.size,upd H s.heap.objs.size (.tup [.int i,x]),I.turnedN (t':=s.toks + 1) (fp:=[e,it]) (fun c o hb q => sb.extBut _ _ (fun z => hb (by rw [z]; simp)) (kp c o (fun z => hb (by rw [z]; simp)) (fun z => hb (by rw [z]; simp)) q)) hf (Nat.le_refl _) ⟨by rw [sizeLine_eq]; show 2 ≤ _; decide,[.int i s.toks,u1],.cons ⟨_,rfl⟩ (.cons ru1 .nil),⟨_,new2,rfl,_,rfl⟩,_,new2,rfl⟩,rfl,
   ⟨_,x,rfl,I.fresh,rfl,fun zs hz => by rw [I.sq_inj hz hq1]; exact hx⟩,⟨by obtain ⟨old,z2⟩:=z2; exact ⟨old,by simpa using z2⟩,t2.at fun o q => sb.extBut _ _ hne.symm q⟩,fun c hb => ?_⟩
  have hb0:=(hf c hb).1
  rw [az fun q => ?_]
  ·exact hb0
  ·have:c < s.heap.objs.size:= by
    simp only [List.mem_cons,List.not_mem_nil,or_false] at hb
    rcases hb with e | e <;> subst e
    ·exact hel
    ·exact s2.lt
   rw [q] at this
   exact Nat.lt_irrefl _ this
 done:= by
  intro X hP hw hK hc i pins s σ H E I hf st hg
  subst hP hw hK
  obtain ⟨xs,hq1,hx⟩:=hg
  obtain ⟨it1,r1,p1⟩:=I.sq hq1
  obtain ⟨s1,s2⟩:=st
  have l1:=r1.length
  exact ye (I.ok.hd hc) ⟨s1,s2,p1⟩ (by simp; omega) fun h' kp => ⟨rfl,I.turnedL (t':=s.toks) (fp:=[e,it]) (fun c o hb q => kp c o (fun z => hb (by rw [z]; simp)) q) hf⟩
 self:=fun A i s Q E st h => by
  obtain ⟨⟨old,s1⟩,_⟩:=st
  exact wpAny_pyIter_enum s1 h
end
end Jt
namespace Jt
open PySem L2
section
variable {X:Cx} {a b c0 e tg:Expr} {fa fb fc:M D} {fs fF fq:M (List D)} {pos p p2 apos cpos pt:Pos} {es rest:List Expr} {x:Str} {x1:Nat}
def ny:D -> Option (Bool × List D)
 | .tup ds => some (true,ds)
 | .lst ds => some (false,ds)
 | _ => none
theorem ft {c:Ct} {δ:DS} {σ:St} {H:Hp} {K:PySem.W.Frag} {d:D} {v:V} {b:Bool} {xs:List D} (r:R (fI c δ σ H) d v) (e:ny d = some (b,xs)):∃ p vs,v = .ref p ∧ Sq b K H p vs ∧ Rs (fI c δ σ H) xs vs:= by
 cases d with
 | tup ds =>
  cases e
  obtain ⟨p,vs,ev,h1,h2⟩:=r.tup
  exact ⟨p,vs,ev,.of (bf _ _ h1),h2⟩
 | lst ds =>
  cases e
  obtain ⟨p,vs,ev,h1,h2⟩:=r.lst
  exact ⟨p,vs,ev,.inl (Rd.mono bf h1),h2⟩
 | _ => cases e
def d8:List D -> List D -> List D
 | x :: xs,y :: ys => .tup [x,y] :: d8 xs ys
 | _,_ => []
theorem rb:∀ {xs ys:List D} {i:Nat} {d:D},(d8 xs ys)[i]? = some d -> ∃ x y,xs[i]? = some x ∧ ys[i]? = some y ∧ d = .tup [x,y]
 | x :: xs,y :: ys,0,d,h => by cases h; exact ⟨x,y,rfl,rfl,rfl⟩
 | x :: xs,y :: ys,i + 1,d,h => by
  obtain ⟨x',y',h1,h2,h3⟩:=rb (xs:=xs) (ys:=ys) (i:=i) (by simpa [d8] using h)
  exact ⟨x',y',by simpa using h1,by simpa using h2,h3⟩
 | [],_,i,d,h => by simp [d8] at h
 | _ :: _,[],i,d,h => by simp [d8] at h
theorem jD:∀ (xs ys:List D),(d8 xs ys).length = min xs.length ys.length
 | x :: xs,y :: ys => by simp [d8,jD xs ys,Nat.add_min_add_right]
 | [],_ => by simp [d8]
 | _ :: _,[] => by simp [d8]
theorem FH {ta:TA} (hg:Gl X "zip") (hm:X.mg "zip" = none) (ha:PA X [a,b] ta) (hs:starEach [a,b] X.env = [(false,eval a X.env),(false,eval b X.env)]:=by rfl) (hs2:starEach [b] X.env = [(false,eval b X.env)]:=by rfl) :
  PI X (.Tuple es x1 pt) (.Call (.Name "zip" p) [a,b] [] pos) (fun σ H R => ta σ H fun vs H1 => ∃ b1 b2 l1 l2 xs ys,vs = [.ref l1,.ref l2] ∧ Sq b1 X.K H1 l1 xs ∧ Sq b2 X.K H1 l2 ys ∧ R (IE X.K b1 b2 l1 l2) H1):= by
 intro pins s σ H R I h
 refine PyProof.Rows.Call_ (gq I hg hm (show bootBuiltins "zip" = some (.type "zip") by decide +kernel) (PyProof.Rows.callWith_type1 (cT (ha pos pins s σ H _ I h) fun us s1 ⟨vs,H1,I1,r1,q1⟩ => ?_) (by rw [hs,hs2]) (by rw [hs2]; rfl)))
 obtain ⟨b1,b2,l1,l2,xs,ys,e,h1,h2,q⟩:=q1
 subst e
 obtain ⟨u1,u2,rfl,ru1,ru2⟩:=r1.two
 cases ru1
 cases ru2
 obtain ⟨i1s,rv1,p1⟩:=I1.sq h1
 obtain ⟨i2s,rv2,p2⟩:=I1.sq h2
 refine uW p1 p2 fun h' z TI TO i1 i2 D st kp hnew => ?_
 have I2:Inv X pins σ H1 { s1 with heap:=h' }:=I1.kept (t':=s1.toks) kp
 obtain ⟨t1,t2,t3,t4,t5,_,_⟩:=st
 refine wpAny_pyIter_zip (s:={ s1 with heap:=h' }) t1 ⟨z,[z,TI,TO,i1,i2],_,_,H1,rfl,I2,yn b1 b2 D ?_ ?_,⟨t1,t2,t3,t4,t5⟩,fun c hc => ?_,q⟩
 ·intro hc
  exact Nat.lt_irrefl _ (Nat.lt_of_lt_of_le p1.lt (hnew _ hc))
 ·intro hc
  exact Nat.lt_irrefl _ (Nat.lt_of_lt_of_le p2.lt (hnew _ hc))
 ·exact I1.fpOk (hnew c hc) (I1.hok.fresh (hnew c hc))
def kn:List D -> Option k_
 | [x,y] => match ny x,ny y with
  | some (_,xs),some (_,ys) => some (aR (d8 xs ys))
  | _,_ => none
 | _ => none
theorem B_ {K:PySem.W.Frag} {b1 b2:Bool} {dx dy:D} {xs ys:List D} {l1 l2:Addr} (e1:ny dx = some (b1,xs)) (e2:ny dy = some (b2,ys)):F3 (IE K b1 b2 l1 l2) (aR (d8 xs ys)) [dx,dy] [.ref l1,.ref l2]:=fun c δ S σ T H i s => by
 obtain ⟨p1,vs,q1,h1,r1⟩:=ft (K:=K) s.st.head e1
 obtain ⟨p2,us,q2,h2,r2⟩:=ft (K:=K) s.st.tail.head e2
 cases q1
 cases q2
 refine ⟨fun act d ha hd => ?_,fun ei _ => ⟨vs,us,h1,h2,?_⟩⟩
 ·obtain ⟨x,y,g1,g2,rfl⟩:=rb (fW ha hd)
  obtain ⟨v,gv,rv⟩:=r1.get g1
  obtain ⟨u,gu,ru⟩:=r2.get g2
  refine ⟨⟨vs,us,v,u,h1,h2,gv,gu⟩,fun z H' yl => ?_⟩
  obtain ⟨q,v',u',rfl,hq,rfl,y1,y2⟩:=yl
  have ev:=y1 vs h1
  have eu:=y2 us h2
  rw [gv] at ev; cases ev
  rw [gu] at eu; cases eu
  exact (s.stk (.cons rv (.cons ru s.st))).newTup (ds:=[x,y]) (vs:=[v,u]) rfl hq
 ·rw [r1.length,r2.length]
  have:(aR (d8 xs ys)).1.length = min xs.length ys.length:=by simp [aR,jD]
  omega
theorem w4 (hm:X.mg "zip" = none) (ha:DA X [a,b] fs) (hg:Gl X "zip":=by rfl) (hs:starEach [a,b] X.env = [(false,eval a X.env),(false,eval b X.env)]:=by rfl) (hs2:starEach [b] X.env = [(false,eval b X.env)]:=by rfl) :
  DI X (.Tuple es x1 pt) (.Call (.Name "zip" p) [a,b] [] pos) (mC kn fs):=v9 (FH hg hm ha hs hs2) fun σ H Rr ⟨c,δ,S,T,it,δ',s,e,k⟩ => by
 obtain ⟨ds,δ1,e1,e⟩:=bind_some e
 obtain ⟨e2,rfl⟩:=aA e
 refine ⟨c,δ,S,T,ds,δ1,s,e1,fun vs H1 l s1 => ?_⟩
 unfold kn at e2
 split at e2
 ·rename_i dx dy
  split at e2
  ·rename_i b1 xs b2 ys q1 q2
   cases e2
   obtain ⟨v,u,rfl,r1,r2⟩:=Iv (s1.st.left l)
   obtain ⟨p1,vs,rfl,h1,_⟩:=ft (K:=X.K) r1 q1
   obtain ⟨p2,us,rfl,h2,_⟩:=ft (K:=X.K) r2 q2
   exact ⟨b1,b2,p1,p2,vs,us,rfl,h1,h2,k _ [dx,dy] [.ref p1,.ref p2] H1 rfl (B_ q1 q2) s1⟩
  ·cases e2
 ·cases e2
def kP:Nat -> List D -> List D
 | _,[] => []
 | n,x :: xs => .tup [.int n,x] :: kP (n + 1) xs
theorem rM:∀ {xs:List D} {n i:Nat} {d:D},(kP n xs)[i]? = some d -> ∃ x,xs[i]? = some x ∧ d = .tup [.int ((n + i:Nat):Int),x]
 | x :: xs,n,0,d,h => by cases h; exact ⟨x,rfl,rfl⟩
 | x :: xs,n,i + 1,d,h => by
  obtain ⟨x',h1,h2⟩:=rM (xs:=xs) (n:=n + 1) (i:=i) (by simpa [kP] using h)
  exact ⟨x',by simpa using h1,by rw [h2]; congr 4; omega⟩
 | [],n,i,d,h => by simp [kP] at h
theorem rn:∀ (xs:List D) (n:Nat),(kP n xs).length = xs.length
 | [],_ => rfl
 | x :: xs,n => by simp [kP,rn xs]
theorem Cz {ta:TA} (hg:Gl X "enumerate") (hm:X.mg "enumerate" = none) (ha:PA X [a] ta) (hs:starEach [a] X.env = [(false,eval a X.env)]:=by rfl) :
  PI X (.Tuple es x1 pt) (.Call (.Name "enumerate" p) [a] [] pos) (fun σ H R => ta σ H fun vs H1 => ∃ b1 l1 xs,vs = [.ref l1] ∧ Sq b1 X.K H1 l1 xs ∧ R (IK X.K b1 l1) H1):= by
 intro pins s σ H R I h
 refine PyProof.Rows.Call_ (gq I hg hm (show bootBuiltins "enumerate" = some (.type "enumerate") by decide +kernel) (PyProof.Rows.callWith_type1 (cT (ha pos pins s σ H _ I h) fun us s1 ⟨vs,H1,I1,r1,q1⟩ => ?_) hs rfl))
 obtain ⟨b1,l1,xs,e,h1,q⟩:=q1
 subst e
 obtain ⟨u1,rfl,ru1⟩:=r1.one
 cases ru1
 obtain ⟨i1s,rv1,p1⟩:=I1.sq h1
 refine yL p1 fun h' e it n1 n2 n3 st kp f1 f2 => ?_
 have I2:Inv X pins σ H1 { s1 with heap:=h' }:=I1.kept (t':=s1.toks) kp
 obtain ⟨⟨old,t1⟩,t2,_⟩:=st
 refine wpAny_pyIter_enum (s:={ s1 with heap:=h' }) t1 ⟨e,[e,it],_,_,H1,rfl,I2,wd b1 n1 n2 n3,⟨⟨old,t1⟩,t2⟩,fun c hc => ?_,q⟩
 have hc':s1.heap.objs.size ≤ c:= by
  simp only [List.mem_cons,List.not_mem_nil,or_false] at hc
  rcases hc with z | z <;> rw [z] <;> assumption
 exact I1.fpOk hc' (I1.hok.fresh hc')
def kc:List D -> Option k_
 | [x] => match ny x with
  | some (_,xs) => some (aR (kP 0 xs))
  | _ => none
 | _ => none
theorem B1 {K:PySem.W.Frag} {b1:Bool} {dx:D} {xs:List D} {l1:Addr} (e1:ny dx = some (b1,xs)):F3 (IK K b1 l1) (aR (kP 0 xs)) [dx] [.ref l1]:=fun c δ S σ T H i s => by
 obtain ⟨p1,vs,q1,h1,r1⟩:=ft (K:=K) s.st.head e1
 cases q1
 refine ⟨fun act d ha hd => ?_,fun ei _ => ⟨vs,h1,?_⟩⟩
 ·obtain ⟨x,g1,rfl⟩:=rM (fW ha hd)
  obtain ⟨v,gv,rv⟩:=r1.get g1
  refine ⟨⟨vs,v,h1,gv⟩,fun z H' yl => ?_⟩
  obtain ⟨q,v',rfl,hq,rfl,y1⟩:=yl
  have ev:=y1 vs h1
  rw [gv] at ev; cases ev
  rw [Nat.zero_add]
  exact (s.stk (.cons .mkI (.cons rv s.st))).newTup (ds:=[.int i,x]) (vs:=[.int i,v]) rfl hq
 ·rw [r1.length]
  have:(aR (kP 0 xs)).1.length = xs.length:=by simp [aR,rn]
  omega
theorem vc (hm:X.mg "enumerate" = none) (ha:DA X [a] fs) (hg:Gl X "enumerate":=by rfl) (hs:starEach [a] X.env = [(false,eval a X.env)]:=by rfl) :
  DI X (.Tuple es x1 pt) (.Call (.Name "enumerate" p) [a] [] pos) (mC kc fs):=v9 (Cz hg hm ha hs) fun σ H Rr ⟨c,δ,S,T,it,δ',s,e,k⟩ => by
 obtain ⟨ds,δ1,e1,e⟩:=bind_some e
 obtain ⟨e2,rfl⟩:=aA e
 refine ⟨c,δ,S,T,ds,δ1,s,e1,fun vs H1 l s1 => ?_⟩
 unfold kc at e2
 split at e2
 ·rename_i dx
  split at e2
  ·rename_i b1 xs q1
   cases e2
   obtain ⟨v,rfl,r1⟩:=r6 (s1.st.left l)
   obtain ⟨p1,vs,rfl,h1,_⟩:=ft (K:=X.K) r1 q1
   exact ⟨b1,p1,vs,rfl,h1,k _ [dx] [.ref p1] H1 rfl (B1 q1) s1⟩
  ·cases e2
 ·cases e2
def cJ (T:Ty) (d:D):Bool:=(pZ T d).getD false
theorem wg (T:Ty) (d:D):pZ T d = some (cJ T d):=by cases T <;> cases d <;> rfl
def zU (r1 r2:D -> D -> Option D) (fa fb fc:M D):M D:=do
 let x <- fa
 let y <- fb
 let z <- lift (r1 x y)
 match z with
 | .bl true => do
  let w <- fc
  lift (r2 y w)
 | .bl false => pure (.bl false)
 | _ => lift none
theorem y4 {op op':CmpOp} {g g':Int -> Int -> V} {h h':Int -> Int -> D} (ho:gK X (compareOp op) (uE g)) (ho':gK X (compareOp op') (uE g')) (hg:∀ H i j,R H (h i j) (g i j)) (hg':∀ H i j,R H (h' i j) (g' i j)) (ha:DE X a fa) (hb:DE X b fb) (hc:DE X c0 fc)
  (hm:lastMarks [op,op'] [b,c0] = false:=by with_unfolding_all rfl):DE X (.Compare a [op,op'] [b,c0] pos) (zU (b9 (fun _ _ => true) h) (b9 (fun _ _ => true) h') fa fb fc):=cG (yy ho ho' ha hb hc hm) fun σ H Q ⟨c,δ,S,T,d,δ',s,e,k⟩ => by
 obtain ⟨x,δ1,e1,e⟩:=bind_some e
 obtain ⟨y,δ2,e2,e⟩:=bind_some e
 obtain ⟨z,δ3,e3,e⟩:=bind_some e
 obtain ⟨e4,rfl⟩:=aA e3
 obtain ⟨i,j,rfl,rfl,_,rfl⟩:=eF e4
 refine ⟨c,δ,S,T,.int i,δ1,s,e1,fun v H1 s1 => ⟨c,δ1,.int i :: S,v :: T,.int j,δ2,s1,e2,fun u H2 s2 => ?_⟩⟩
 refine ⟨i,j,s2.st.tail.head.int,s2.st.head.int,?_⟩
 have rg:=hg (fI c δ2 σ H2) i j
 cases hz:h i j with
 | bl q =>
  rw [hz] at e rg
  refine ⟨q,rg.bl,?_⟩
  cases q with
  | true =>
   obtain ⟨w,δ4,e5,e⟩:=bind_some e
   obtain ⟨e6,rfl⟩:=aA e
   rw [if_pos rfl]
   obtain ⟨i',j',ei,rfl,_,rfl⟩:=eF e6
   cases ei
   exact ⟨c,δ2,.int j :: .int i :: S,u :: v :: T,.int j',δ4,s2,e5,fun w' H4 s4 => ⟨j,j',s4.st.tail.head.int,s4.st.head.int,k _ _ (s4.stk (.cons (hg' _ _ _) s4.st.tail.tail.tail))⟩⟩
  | false =>
   obtain ⟨rfl,rfl⟩:=aq e
   rw [if_neg Bool.false_ne_true]
   exact k _ _ (s2.stk (.cons .mkB s2.st.tail.tail))
 | _ => rw [hz] at e; cases e
theorem Cv (ha:DE X a fa) (hb:DE X b fb) (hc:DE X c0 fc) (hm:lastMarks [.LtE,.Lt] [b,c0] = false:=by with_unfolding_all rfl):DE X (.Compare a [.LtE,.Lt] [b,c0] pos) (zU zX oG fa fb fc):=y4 De xM (fun _ _ _ => .mkB) (fun _ _ _ => .mkB) ha hb hc hm
def lU:D -> Bool
 | .non => true
 | _ => false
theorem qS {H:Hp} {d:D} {v:V} (r:R H d v):decide (v = .non) = lU d:= by
 cases d with
 | non => rw [r.non]; rfl
 | bl b => rw [r.bl]; rfl
 | int b => rw [r.int]; rfl
 | str b => rw [r.str]; rfl
 | tup b => obtain ⟨_,_,rfl,_⟩:=r.tup; rfl
 | lst b => obtain ⟨_,_,rfl,_⟩:=r.lst; rfl
 | dct => obtain ⟨_,rfl,_⟩:=r.dct; rfl
def jI (neg:Bool):D -> D -> Option D
 | x,.non => some (.bl (if neg then !lU x else lU x))
 | _,_ => none
theorem Ao:qC (fun x y H Q => y = .non ∧ Q (.bl (decide (x = .non))) H) (jI false):=fun c δ S σ T H x y v u d Q s e k => by
 cases y with
 | non =>
  cases e
  refine ⟨s.st.head.non,?_⟩
  rw [qS s.st.tail.head]
  exact k _ _ (s.stk (.cons .mkB s.st.tail.tail))
 | _ => cases e
theorem xT:qC (fun x y H Q => y = .non ∧ Q (.bl (!decide (x = .non))) H) (jI true):=fun c δ S σ T H x y v u d Q s e k => by
 cases y with
 | non =>
  cases e
  refine ⟨s.st.head.non,?_⟩
  rw [qS s.st.tail.head]
  exact k _ _ (s.stk (.cons .mkB s.st.tail.tail))
 | _ => cases e
theorem EE (ha:DE X a fa) (hb:DE X b fb):DE X (.Compare a [.Is] [b] pos) (m2 (jI false) fa fb):=lX Ef Ao ha hb
theorem qg (ha:DE X a fa) (hb:DE X b fb):DT X (.Compare a [.IsNot] [b] pos) (m2 (jI true) fa fb >>= cQ):=gp CC xT ha hb
def CY (tt:M Bool) (body:M Fl):Nat -> M Fl
 | 0 => lift none
 | n + 1 => do
  let b <- tt
  if b = true then do
   let fl <- body
   match fl with
   | .nx => CY tt body n
   | .ct => CY tt body n
   | .bk => pure .nx
   | .rt d => pure (.rt d)
   | .rf d => pure (.rf d)
  else pure .nx
theorem xA {t:Expr} {sts:List Stmt} {tt:M Bool} {body:M Fl} (n:Nat) (ht:DT X t tt) (hb:rZ X sts body) (hp:PassesOwn (model X.prog X.w) X.A X.env X.xe:=by exact PassesOwn.never):ql X (.While t sts [] pos) (CY tt body n) :=
 j7 (zD hp ht hb) fun E σ0 H0 ⟨c,δ0,S,T,fl,δ',s0,e0,k⟩ => by
  refine ⟨fun m σ H => ∃ δ,Sl c δ S σ T H ∧ CY tt body m δ = some (fl,δ'),⟨n,δ0,s0,e0⟩,?_⟩
  rintro m σ H ⟨δ,s,e⟩
  cases m with
  | zero => cases e
  | succ m =>
   obtain ⟨b,δ1,e1,e⟩:=bind_some e
   refine ⟨c,δ,S,T,b,δ1,s,e1,fun H1 s1 => ?_⟩
   cases b with
   | false =>
    rw [if_neg Bool.false_ne_true] at e ⊢
    obtain ⟨rfl,rfl⟩:=aq e
    exact k _ _ s1
   | true =>
    rw [if_pos rfl] at e ⊢
    obtain ⟨fl1,δ2,e2,e⟩:=bind_some e
    refine ⟨fun σ' H' => ∃ δi,Sl c δi S σ' T H' ∧ CY tt body m δi = some (fl,δ'),fun σ' H' q => ⟨m,Nat.lt_succ_self m,q⟩,c,δ1,S,T,fl1,δ2,s1,e2,?_⟩
    cases fl1 with
    | nx => exact fun σ' H' s' => ⟨δ2,s',e⟩
    | ct => exact fun σ' H' s' => ⟨δ2,s',e⟩
    | bk => obtain ⟨rfl,rfl⟩:=aq e; exact k
    | rt d' => obtain ⟨rfl,rfl⟩:=aq e; exact k
    | rf xs => obtain ⟨rfl,rfl⟩:=aq e; exact k
inductive JG (f:M (Option Int)) (σ:St) (H:Hp) (Q:Option Int -> Hp -> Prop):Prop
 | mk (c:Ct) (δ:DS) (S:List D) (T:List V) (o:Option Int) (δ':DS) (s:Sl c δ S σ T H) (e:f δ = some (o,δ')) (q:∀ H',Sl c δ' S σ T H' -> Q o H'):JG f σ H Q
abbrev DO (X:Cx) (e:Option Expr) (f:M (Option Int)):Prop:=PO X e (JG f)
theorem HR {e:Option Expr} {t t':TO} (h:PO X e t) (w:∀ σ H Q,t' σ H Q -> t σ H Q):PO X e t':=fun pins s σ H Q I q => h pins s σ H Q I (w σ H Q q)
theorem bH:DO X none (pure none):=HR A9 fun σ H Q ⟨c,δ,S,T,o,δ',s,e,k⟩ => by
 obtain ⟨rfl,rfl⟩:=aq e
 exact k _ s
def kQ:D -> M (Option Int)
 | .int i => pure (some i)
 | _ => lift none
theorem bK (h:DE X e fa):DO X (some e) (fa >>= kQ):=HR (AH h) fun σ H Q ⟨c,δ,S,T,o,δ',s,e,k⟩ => by
 obtain ⟨d,δ1,e1,e⟩:=bind_some e
 refine ⟨c,δ,S,T,d,δ1,s,e1,fun v H' s' => ?_⟩
 cases d with
 | int i =>
  obtain ⟨rfl,rfl⟩:=aq e
  exact ⟨i,s'.st.head.int,k _ s'.pop⟩
 | _ => cases e
def JA (K:PySem.W.Frag):V -> Option Int -> Option Int -> Hp -> VK -> Prop:=fun x lo hi H Q => ∃ a xs,x = .ref a ∧ iP K H a xs ∧ (HT.sIx xs.length 0 lo = 0 ∧ HT.sIx xs.length xs.length hi = xs.length) ∧ Q (.ref a) H
theorem xc:C0 X (JA X.K):= by
 intro pins s σ H x v vl vu lo hi sl Q I rx hs pl pu h
 obtain ⟨a,xs,rfl,hx,hw,q⟩:=h
 cases rx
 obtain ⟨its,r,ht,hz⟩:=I.tuple hx
 have hlen:its.toArray.size = xs.length:=by rw [List.size_toArray]; exact r.length.symm
 refine ⟨"tuple",_,PyProof.Rows.slot_tuple_getitem.lookup,ht.typeIs,?_⟩
 exact qI ht hs pl pu (by rw [hlen]; exact hw) ⟨.ref a,H,I,rfl,q⟩
def Aw (x:D) (lo hi:Option Int):Option D:=match x with
 | .tup xs => some (.tup (cutD xs lo hi))
 | .lst xs => some (.lst (cutD xs lo hi))
 | _ => none
def kS (fa:M D) (fl fh:M (Option Int)):M D:=do
 let x <- fa
 let lo <- fl
 let hi <- fh
 lift (Aw x lo hi)
theorem v8 {α:Type} (xs:List α) (lo hi:Option Int) (h1:HT.sIx xs.length 0 lo = 0) (h2:HT.sIx xs.length xs.length hi = xs.length):(xs.drop (HT.sIx xs.length 0 lo)).take (HT.sIx xs.length xs.length hi - HT.sIx xs.length 0 lo) = xs:= by
 rw [h1,h2]; simp
theorem bu {lo hi:Option Expr} {fl fh:M (Option Int)} (he:DE X e fa) (hl:DO X lo fl) (hh:DO X hi fh):DE X (.Subscript e (.Slice lo hi none p2) pos) (kS fa fl fh):=cG (yD ((Ek.or xc).or CF) he hl hh) fun σ H Q ⟨c,δ,S,T,d,δ',s,e,k⟩ => by
 obtain ⟨x,δ1,e1,e⟩:=bind_some e
 obtain ⟨l,δ2,e2,e⟩:=bind_some e
 obtain ⟨h,δ3,e3,e⟩:=bind_some e
 obtain ⟨e4,rfl⟩:=aA e
 refine ⟨c,δ,S,T,x,δ1,s,e1,fun v H1 s1 => ⟨c,δ1,x :: S,v :: T,l,δ2,s1,e2,fun H2 s2 => ⟨c,δ2,x :: S,v :: T,h,δ3,s2,e3,fun H3 s3 => ?_⟩⟩⟩
 cases x with
 | tup xs =>
  cases e4
  obtain ⟨q,vs,rfl,h1,h2⟩:=s3.st.head.tup
  by_cases hw:HT.sIx vs.length 0 l = 0 ∧ HT.sIx vs.length vs.length h = vs.length
  ·refine .inl (.inr ⟨q,vs,rfl,.of (bf _ _ h1),hw,k _ _ ?_⟩)
   rw [h2.length] at hw
   rw [show cutD xs l h = xs from v8 xs l h hw.1 hw.2]
   exact s3
  ·refine .inl (.inl ⟨q,vs,rfl,.of (bf _ _ h1),hw,fun m hm => k _ _ ?_⟩)
   have rc:=wx h2 l h
   exact (s3.stk (rc.append s3.st.tail)).newTup rc.length hm
 | lst xs =>
  cases e4
  obtain ⟨q,vs,rfl,h1,h2⟩:=s3.st.head.lst
  refine .inr ⟨q,vs,rfl,.inl (Rd.mono bf h1),fun m hm => k _ _ ?_⟩
  have rc:=wx h2 l h
  have s4:=s3.stk (rc.append s3.st.tail)
  obtain ⟨f1,f2,f3⟩:=s4.fresh hm
  exact (s4.hide (o:=.lst (pN vs l h)) hm).unhideL rc.length f1
 | _ => cases e4
end
end Jt
namespace Jt
open PySem L2
section
variable {X:Cx} {a b e:Expr} {fa fb:M D} {ha' hb':M Hn} {fs fF fq:M (List D)} {pos p p2 apos cpos pt:Pos} {es rest:List Expr} {x:Str}
theorem dP (i:Nat) {px:Pos} (hm:X.mg "tuple" = none) (hg:Gl X "tuple":=by rfl) (hN:X.N[i]? = some x:=by rfl) (hv:ug X.env.scope x:=by first | exact Or.inl rfl | exact Or.inr (Or.inl rfl) | exact Or.inr (Or.inr rfl)) (hd:(x == ("__debug__":Str)) = false:=by decide) (hcd:(x == ("__classdict__":Str)) = false:=by decide) :
  DE X (.Call (.Name "tuple" p) [.Name x px] [] pos) (do let xs <- aF i; pure (.tup xs)):=cG (fT i6 hg hm (by decide +kernel) (dY (eJ hN hv hd hcd) g8) (by decide) (by decide) rfl rfl) fun σ H Q ⟨c,δ,S,T,fl,δ',s,e,k⟩ => by
 obtain ⟨xs,δ1,e1,e⟩:=bind_some e
 obtain ⟨rfl,rfl⟩:=aq e
 obtain ⟨⟨b,hi⟩,rfl⟩:=bO e1
 obtain ⟨q,vs,ev,hq,hx⟩:=s.own hi
 exact ⟨_,ev,q,vs,rfl,.inl ⟨.of hq,fun m hm => k _ _ ((s.stk (hx.append s.st)).newTup hx.length hm)⟩⟩
def Dj (neg:Bool) (x y:D):Option D:=jR neg x y
theorem u0 {c:Ct} {δ:DS} {S:List D} {σ:St} {T:List V} {H:Hp} {K:PySem.W.Frag} {x y:D} {v u:V} {z:D} {Q:VK} {neg:Bool} (t:pj c δ S σ T H x y v u) (eg:Dj neg x y = some z) (w:∀ v H',Sl c δ (z :: S) σ (v :: T) H' -> Q v H'):HY K neg v u H Q:= by
 unfold Dj jR at eg
 split at eg
 ·rename_i w0 ds e1 e2
  cases e3:kD ds with
  | none => rw [e3] at eg; cases eg
  | some vs =>
   rw [e3] at eg; cases eg
   obtain ⟨rfl,f1⟩:=dF t.rx e1
   cases y with
   | tup es =>
    cases e2
    obtain ⟨p,ws,rfl,h1,h3⟩:=t.ry.tup
    obtain ⟨rfl,f2⟩:=iA h3 e3
    exact ⟨p,ws,rfl,.inr (.of h1),f1,f2,w _ _ (t.sl.stk (.cons .mkB t.sl.st))⟩
   | lst es =>
    cases e2
    obtain ⟨p,ws,rfl,h1,h3⟩:=t.ry.lst
    obtain ⟨rfl,f2⟩:=iA h3 e3
    exact ⟨p,ws,rfl,.inl (.inl h1),f1,f2,w _ _ (t.sl.stk (.cons .mkB t.sl.st))⟩
   | _ => cases e2
 ·cases eg
theorem FX (ha:DH X a ha') (hb:DH X b hb') (hm:behindInMarks .NotIn b = false:=by rfl):DE X (.Compare a [.NotIn] [b] pos) (lL (Dj true) ha' hb'):=cG (lh gg ha hb hm) fun σ H Q ⟨c,δ,S,T,z,δ',s,e,k⟩ =>
 t9 (W:=fun c δ' S σ T Q z => ∀ v H',Sl c δ' (z :: S) σ (v :: T) H' -> Q v H') (fun c δ S σ T H x y v u z Q t eg w => u0 t eg w) σ H Q ⟨c,δ,S,T,z,δ',s,e,k⟩
theorem oj (ha:DH X a ha') (hb:DH X b hb') (hm:behindInMarks .NotIn b = false:=by rfl):DT X (.Compare a [.NotIn] [b] pos) (lL (Dj true) ha' hb' >>= cQ):=t8 (k9 gg ha hb hm) (Jk fun σ H Q ⟨c,δ,S,T,z,δ',s,e,k⟩ =>
 t9 (W:=fun c δ' S σ T Q z => ∀ v H',Sl c δ' (z :: S) σ (v :: T) H' -> Q v H') (fun c δ S σ T H x y v u z Q t eg w => u0 t eg w) σ H Q ⟨c,δ,S,T,z,δ',s,e,k⟩)
end
abbrev aE {α:Type} (n:Nat) (mf:List D -> Option α):List D -> Option α:=fun ds => if ds.length = n then mf ds else none
section
variable {P:Program} {w:World} {K:PySem.W.Frag} {mg:Str -> Option Value} {base:Heap} {f:Addr} {fd:FuncData} {ps:List Str} {k n:Nat}
theorem AB:dW P w K mg base dg k f fd ps (iZ n fun _ => none):= by
 have no:∀ vs H Q E,¬ iZ n (fun _ => none) vs H Q E:=fun vs H Q E h => by
  obtain ⟨_,_,_,_,_,_,e,_⟩:=h
  cases e
 exact ⟨fun vs H Q E h => absurd h (no vs H Q E),fun A outer s H args us vs Q E _ _ _ _ h => absurd h (no vs H Q E)⟩
def CQ (K:PySem.W.Frag):Bool:=K.all fun p => !(p.2.cls == Value.type "list")
theorem Gk {H:Hp} {a:Addr} {xs:List V} (hK:CQ K = true) (h:ip K H a xs):Rd H a (.lst xs):= by
 rcases h with h | ⟨o,its,n,hk,hc,_⟩
 ·exact h
 ·have hm:∃ p ∈ K,p.2 = o:= by
   clear hK
   induction K with
   | nil => cases hk
   | cons q r ih =>
    rw [List.lookup_cons] at hk
    split at hk
    ·cases hk; exact ⟨q,List.mem_cons_self,rfl⟩
    ·obtain ⟨p,hp,e⟩:=ih hk
     exact ⟨p,List.mem_cons_of_mem _ hp,e⟩
  obtain ⟨p,hp,e⟩:=hm
  have:=List.all_eq_true.mp hK p hp
  rw [e,hc] at this
  simp at this
end
end Jt
namespace Jt
open PySem L2
def Ok {α:Type} (m:M α) (δ:DS) (Q:α -> DS -> Prop):Prop:=∃ a δ',m δ = some (a,δ') ∧ Q a δ'
theorem Ok.mono {α:Type} {m:M α} {δ:DS} {Q Q':α -> DS -> Prop} (h:Ok m δ Q) (k:∀ a δ',Q a δ' -> Q' a δ'):Ok m δ Q':=let ⟨a,δ',e,q⟩:=h; ⟨a,δ',e,k a δ' q⟩
section
variable {α β:Type} {δ:DS} {Q:α -> DS -> Prop}
@[simp] theorem ar {m:M β} {f:β -> M α}:Ok (m >>= f) δ Q ↔ Ok m δ fun a δ' => Ok (f a) δ' Q:= by
 constructor
 ·rintro ⟨a,δ',e,q⟩
  obtain ⟨b,δ1,e1,e2⟩:=bind_some e
  exact ⟨b,δ1,e1,a,δ',e2,q⟩
 ·rintro ⟨b,δ1,e1,a,δ',e2,q⟩
  exact ⟨a,δ',by rw [M.bind_def,e1]; exact e2,q⟩
@[simp] theorem au {a:α}:Ok (pure a) δ Q ↔ Q a δ:= by
 constructor
 ·rintro ⟨b,δ',e,q⟩
  obtain ⟨rfl,rfl⟩:=aq e
  exact q
 ·exact fun q => ⟨a,δ,rfl,q⟩
@[simp] theorem cv {a:α}:Ok (lift (some a)) δ Q ↔ Q a δ:= by
 constructor
 ·rintro ⟨b,δ',e,q⟩
  obtain ⟨e1,rfl⟩:=aA e
  cases e1; exact q
 ·exact fun q => ⟨a,δ,rfl,q⟩
@[simp] theorem Ae:Ok (lift (none:Option α)) δ Q ↔ False:=⟨fun ⟨_,_,e,_⟩ => (by cases e),False.elim⟩
theorem cC {o:Option α} {a:α} (h:o = some a) (q:Q a δ):Ok (lift o) δ Q:=by subst h; exact cv.mpr q
@[simp] theorem Iz {c:Prop} [Decidable c] {m n:M α}:Ok (if c then m else n) δ Q ↔ (if c then Ok m δ Q else Ok n δ Q):=by split <;> exact Iff.rfl
end
section
variable {δ:DS}
@[simp] theorem bG {i:Nat} {Q:D -> DS -> Prop}:Ok (ah i) δ Q ↔ ∃ d,δ[i]? = some (.pu d) ∧ Q d δ:= by
 constructor
 ·rintro ⟨d,δ',e,q⟩
  obtain ⟨e1,rfl⟩:=oA e
  exact ⟨d,e1,q⟩
 ·rintro ⟨d,e,q⟩
  exact ⟨d,δ,by unfold ah; rw [e],q⟩
@[simp] theorem bF {i:Nat} {d:D} {Q:Unit -> DS -> Prop}:Ok (ba i d) δ Q ↔ i < δ.length ∧ Q () (δ.set i (.pu d)):= by
 constructor
 ·rintro ⟨u,δ',e,q⟩
  obtain ⟨h,rfl⟩:=ke e
  exact ⟨h,q⟩
 ·rintro ⟨h,q⟩
  exact ⟨(),_,by unfold ba; rw [if_pos h],q⟩
@[simp] theorem Iq {i:Nat} {d:List D} {Q:Unit -> DS -> Prop}:Ok (wO i d) δ Q ↔ i < δ.length ∧ Q () (δ.set i (.ow false d)):= by
 constructor
 ·rintro ⟨u,δ',e,q⟩
  obtain ⟨h,rfl⟩:=pd e
  exact ⟨h,q⟩
 ·rintro ⟨h,q⟩
  exact ⟨(),_,by unfold wO; rw [if_pos h],q⟩
@[simp] theorem e9 {i:Nat} {Q:List D -> DS -> Prop}:Ok (aF i) δ Q ↔ ∃ b xs,δ[i]? = some (.ow b xs) ∧ Q xs δ:= by
 constructor
 ·rintro ⟨d,δ',e,q⟩
  obtain ⟨⟨b,e1⟩,rfl⟩:=bO e
  exact ⟨b,d,e1,q⟩
 ·rintro ⟨b,d,e,q⟩
  exact ⟨d,δ,by unfold aF; rw [e],q⟩
@[simp] theorem rm {i:Nat} {xs:List D} {Q:Unit -> DS -> Prop}:Ok (setOw i xs) δ Q ↔ ∃ b ys,δ[i]? = some (.ow b ys) ∧ Q () (δ.set i (.ow b xs)):= by
 constructor
 ·rintro ⟨u,δ',e,q⟩
  obtain ⟨b,ys,h,rfl⟩:=gB e
  exact ⟨b,ys,h,q⟩
 ·rintro ⟨b,ys,h,q⟩
  exact ⟨(),_,by unfold setOw; rw [h],q⟩
@[simp] theorem Hc {i:Nat} {Q:List D -> DS -> Prop}:Ok (pb i) δ Q ↔ ∃ xs,δ[i]? = some (.ow false xs) ∧ Q xs (δ.set i .un):= by
 constructor
 ·rintro ⟨d,δ',e,q⟩
  unfold pb at e
  split at e
  ·rename_i ys h; cases e; exact ⟨d,h,q⟩
  ·cases e
 ·rintro ⟨d,e,q⟩
  exact ⟨d,_,by unfold pb; rw [e],q⟩
@[simp] theorem dR {i:Nat} {fa:M D} {Q:Fl -> DS -> Prop}:Ok (dD i fa) δ Q ↔ Ok fa δ fun d δ1 => i < δ1.length ∧ Q .nx (δ1.set i (.pu d)):= by
 unfold dD; simp
@[simp] theorem E6 {i:Nat} {fa:M (List D)} {Q:Fl -> DS -> Prop}:Ok (sx i fa) δ Q ↔ Ok fa δ fun d δ1 => i < δ1.length ∧ Q .nx (δ1.set i (.ow false d)):= by
 unfold sx; simp
@[simp] theorem cM {f g:M Fl} {Q:Fl -> DS -> Prop}:Ok (aB f g) δ Q ↔ Ok f δ fun fl δ1 => match fl with
  | .nx => Ok g δ1 Q
  | fl => Q fl δ1:= by
 unfold aB
 rw [ar]
 constructor <;>
 ·intro h
  refine h.mono fun fl δ1 q => ?_
  cases fl <;> simpa using q
theorem aI {f g:M Fl} {Q:Fl -> DS -> Prop} (P:DS -> Prop) (h:Ok f δ fun fl δ1 => fl = .nx ∧ P δ1) (k:∀ δ1,P δ1 -> Ok g δ1 Q):Ok (aB f g) δ Q:= by
 rw [cM]
 refine h.mono fun fl δ1 ⟨e,p⟩ => ?_
 subst e
 exact k δ1 p
theorem bW {t:M Bool} {fa g:M Fl} {Q:Fl -> DS -> Prop} (b:Bool) (ht:Ok t δ fun b' δ1 => b' = b ∧ δ1 = δ) (h1:b = true -> Ok fa δ fun fl δ1 => ∃ d,fl = .rt d ∧ Q (.rt d) δ1) (h2:b = false -> Ok g δ Q):Ok (aB (fz t fa (pure .nx)) g) δ Q:= by
 rw [cM]
 unfold fz
 rw [ar]
 refine ht.mono fun b' δ1 ⟨e1,e2⟩ => ?_
 subst e1; subst e2
 cases b' with
 | true =>
  refine Ok.mono (m:=fa) (h1 rfl) fun fl δ2 ⟨d,e,q⟩ => ?_
  subst e
  exact q
 | false => exact (au (Q:=fun fl δ1 => _)).mpr (h2 rfl)
theorem gP {α:Type} {t:M Bool} {fa fb:M α} {Q:α -> DS -> Prop} (P:Bool -> DS -> Prop) (ht:Ok t δ P) (h1:∀ δ1,P true δ1 -> Ok fa δ1 Q) (h2:∀ δ1,P false δ1 -> Ok fb δ1 Q):Ok (fz t fa fb) δ Q:= by
 unfold fz
 rw [ar]
 refine ht.mono fun b δ1 p => ?_
 cases b with
 | true => exact h1 δ1 p
 | false => exact h2 δ1 p
@[simp] theorem wJ {α:Type} {t:M Bool} {fa fb:M α} {Q:α -> DS -> Prop}:Ok (fz t fa fb) δ Q ↔ Ok t δ fun b δ1 => if b = true then Ok fa δ1 Q else Ok fb δ1 Q:= by
 unfold fz; simp
@[simp] theorem lq {ta tb:M Bool} {Q:Bool -> DS -> Prop}:Ok (qh ta tb) δ Q ↔ Ok ta δ fun b δ1 => if b = true then Ok tb δ1 Q else Q false δ1:= by
 unfold qh; simp
@[simp] theorem pA {ta tb:M Bool} {Q:Bool -> DS -> Prop}:Ok (n_ ta tb) δ Q ↔ Ok ta δ fun b δ1 => if b = true then Q true δ1 else Ok tb δ1 Q:= by
 unfold n_; simp
@[simp] theorem pD {ta:M Bool} {Q:Bool -> DS -> Prop}:Ok (fK ta) δ Q ↔ Ok ta δ fun b δ1 => Q (!b) δ1:= by
 unfold fK; simp
@[simp] theorem eW {f:D -> D -> Option D} {fa fb:M D} {Q:D -> DS -> Prop}:Ok (m2 f fa fb) δ Q ↔ Ok fa δ fun x δ1 => Ok fb δ1 fun y δ2 => Ok (lift (f x y)) δ2 Q:= by
 unfold m2; simp
@[simp] theorem eS {α:Type} {f:List D -> Option α} {fs:M (List D)} {Q:α -> DS -> Prop}:Ok (mC f fs) δ Q ↔ Ok fs δ fun ds δ1 => Ok (lift (f ds)) δ1 Q:= by
 unfold mC; simp
@[simp] theorem za {α:Type} {f:List D -> Option α} {fs:M (List D)} {Q:α -> DS -> Prop}:Ok (mQ f fs) δ Q ↔ Ok fs δ fun ds δ1 => Ok (lift (f ds)) δ1 Q:= by
 unfold mQ; simp
@[simp] theorem bC {fa:M D} {fs:M (List D)} {Q:List D -> DS -> Prop}:Ok (ae fa fs) δ Q ↔ Ok fa δ fun x δ1 => Ok fs δ1 fun xs δ2 => Q (x :: xs) δ2:= by
 unfold ae; simp
@[simp] theorem uV {fs:M (List D)} {Q:D -> DS -> Prop}:Ok (bL fs) δ Q ↔ Ok fs δ fun xs δ1 => Ok (lift (few xs.length)) δ1 fun _ δ2 => Q (.tup xs) δ2:= by
 unfold bL; simp
@[simp] theorem fg {fs:M (List D)} {Q:List D -> DS -> Prop}:Ok (cV fs) δ Q ↔ Ok fs δ fun xs δ1 => Ok (lift (few xs.length)) δ1 fun _ δ2 => Q xs δ2:= by
 unfold cV; simp
@[simp] theorem dN {n:Nat} {Q:Unit -> DS -> Prop}:Ok (lift (few n)) δ Q ↔ n ≤ 100000 ∧ Q () δ:= by
 unfold few
 split
 ·rename_i h; rw [cv]; exact ⟨fun q => ⟨h,q⟩,fun q => q.2⟩
 ·rename_i h; rw [Ae]; exact ⟨False.elim,fun q => h q.1⟩
@[simp] theorem fJ {d:D} {Q:Bool -> DS -> Prop}:Ok (cQ d) δ Q ↔ ∃ b,d = .bl b ∧ Q b δ:= by
 constructor
 ·rintro ⟨b,δ',e,q⟩
  obtain ⟨e1,rfl⟩:=jC e
  exact ⟨b,e1,q⟩
 ·rintro ⟨b,rfl,q⟩
  exact ⟨b,δ,rfl,q⟩
@[simp] theorem I0 {d:D} {Q:Option Int -> DS -> Prop}:Ok (kQ d) δ Q ↔ ∃ i,d = .int i ∧ Q (some i) δ:= by
 cases d <;> simp [kQ]
@[simp] theorem Il {i:Nat} {fb:M D} {Q:D -> DS -> Prop}:Ok (pJ i fb) δ Q ↔ (∃ b xs,δ[i]? = some (.ow b xs)) ∧ Ok fb δ fun y δ1 => ∃ b xs,δ1[i]? = some (.ow b xs) ∧ Ok (lift (b_ (.lst xs) y)) δ1 Q:= by
 unfold pJ
 simp only [ar,e9]
 constructor
 ·rintro ⟨b,xs,e,h⟩; exact ⟨⟨b,xs,e⟩,h⟩
 ·rintro ⟨⟨b,xs,e⟩,h⟩; exact ⟨b,xs,e,h⟩
@[simp] theorem Hv {i:Nat} {Q:D -> DS -> Prop}:Ok (jO i) δ Q ↔ ∃ b xs,δ[i]? = some (.ow b xs) ∧ Q (.int xs.length) δ:= by
 unfold jO; simp
@[simp] theorem FZ {i:Nat} {fa:M D} {k:Int} {Q:Fl -> DS -> Prop}:Ok (pQ i fa k) δ Q ↔ Ok fa δ fun d δ1 => ∃ b xs,δ1[i]? = some (.ow b xs) ∧ Ok (lift (sY xs.length k)) δ1 fun j δ2 => ∃ b ys,δ2[i]? = some (.ow b ys) ∧ Q .nx (δ2.set i (.ow b (xs.set j d))):= by
 unfold pQ; simp
theorem dX {i:Nat} {fs:M (List D)} {Q:Fl -> DS -> Prop} (h0:∃ b xs,δ[i]? = some (.ow b xs)) (h:Ok fs δ fun ds δ1 => ∃ d b xs,ds = [d] ∧ δ1[i]? = some (.ow b xs) ∧ xs.length ≤ 100000 ∧ Q .nx (δ1.set i (.ow b (xs ++ [d])))):Ok (c5 i fs) δ Q:= by
 unfold c5
 obtain ⟨b,xs,e⟩:=h0
 simp only [ar,e9]
 refine ⟨b,xs,e,h.mono fun ds δ1 q => ?_⟩
 obtain ⟨d,b',ys,rfl,e1,hn,q⟩:=q
 simp only [ar,e9,dN,rm,au]
 exact ⟨b',ys,e1,hn,b',ys,e1,q⟩
theorem u3 {i:Nat} {fs:M (List D)} {Q:D -> DS -> Prop} (h0:∃ b xs,δ[i]? = some (.ow b xs)) (h:Ok fs δ fun ds δ1 => ∃ (j:Nat) (b:Bool) (xs:List D) (d:D),ds = [.int j] ∧ δ1[i]? = some (.ow b xs) ∧ j < 100000 ∧ xs[j]? = some d ∧ Q d (δ1.set i (.ow b (xs.eraseIdx j)))):Ok (wA i fs) δ Q:= by
 unfold wA
 obtain ⟨b,xs,e⟩:=h0
 simp only [ar,e9]
 refine ⟨b,xs,e,h.mono fun ds δ1 q => ?_⟩
 obtain ⟨j,b',ys,d,rfl,e1,hn,e2,q⟩:=q
 simp only [ar,e9,rm,au]
 refine ⟨b',ys,e1,cC (a:=d) ?_ ⟨b',ys,e1,?_⟩⟩
 ·rw [if_pos (by omega),Int.toNat_natCast]; exact e2
 ·rw [Int.toNat_natCast]; exact q
@[simp] theorem Iw {fa fb:M D} {Q:D -> DS -> Prop}:Ok (qy fa fb) δ Q ↔ Ok fa δ fun x δ1 => match x with
  | .bl true => Ok fb δ1 Q
  | .bl false => Q (.bl false) δ1
  | _ => False:= by
 unfold qy
 rw [ar]
 constructor <;>
 ·intro h
  refine h.mono fun x δ1 q => ?_
  cases x with
  | bl b => cases b <;> simpa using q
  | _ => simpa using q
@[simp] theorem HV {fa:M D} {Q:D -> DS -> Prop}:Ok (y8 fa) δ Q ↔ Ok fa δ fun x δ1 => match x with
  | .bl b => Q (.bl (!b)) δ1
  | _ => False:= by
 unfold y8
 rw [ar]
 constructor <;>
 ·intro h
  refine h.mono fun x δ1 q => ?_
  cases x <;> simpa using q
@[simp] theorem pG {T:Ty} {fa:M D} {Q:D -> DS -> Prop}:Ok (iR T fa) δ Q ↔ Ok fa δ fun d δ1 => Q (.bl (cJ T d)) δ1:= by
 unfold iR; simp [wg]
@[simp] theorem DN {fa fb:M D} {Q:D -> DS -> Prop}:Ok (Gu fa fb) δ Q ↔ Ok fa δ fun v δ1 => Ok (lift (cx v)) δ1 fun t δ2 => if t = true then Q v δ2 else Ok fb δ2 Q:= by
 unfold Gu; simp
@[simp] theorem Iy {fa:M D} {fl fh:M (Option Int)} {Q:D -> DS -> Prop}:Ok (kS fa fl fh) δ Q ↔ Ok fa δ fun x δ1 => Ok fl δ1 fun l δ2 => Ok fh δ2 fun h δ3 => Ok (lift (Aw x l h)) δ3 Q:= by
 unfold kS; simp
@[simp] theorem zk {α:Type} {g:D -> D -> Option α} {fa fb:M Hn} {Q:α -> DS -> Prop}:Ok (lL g fa fb) δ Q ↔ Ok fa δ fun h1 δ1 => Ok fb δ1 fun h2 δ2 => Ok (zM h1) δ2 fun x δ3 => Ok (zM h2) δ3 fun y δ4 => Ok (lift (g x y)) δ4 Q:= by
 unfold lL; simp
@[simp] theorem zd {x:D} {Q:D -> DS -> Prop}:Ok (zM (.th x)) δ Q ↔ Q x δ:= by
 constructor
 ·rintro ⟨b,δ',e,q⟩; cases e; exact q
 ·exact fun q => ⟨x,δ,rfl,q⟩
@[simp] theorem wM {i:Nat} {Q:D -> DS -> Prop}:Ok (zM (.ls i)) δ Q ↔ ∃ b xs,δ[i]? = some (.ow b xs) ∧ Q (.lst xs) δ:= by
 constructor
 ·rintro ⟨d,δ',e,q⟩
  unfold zM at e
  dsimp only at e
  split at e
  ·rename_i b xs h; cases e; exact ⟨b,xs,h,q⟩
  ·cases e
 ·rintro ⟨b,xs,h,q⟩
  exact ⟨_,δ,by unfold zM; dsimp only; rw [h],q⟩
@[simp] theorem uw {i:Nat} {Q:Hn -> DS -> Prop}:Ok (pV i) δ Q ↔ ∃ b xs,δ[i]? = some (.ow b xs) ∧ Q (.ls i) δ:= by
 unfold pV; simp
@[simp] theorem uY {i n:Nat} {mf:List D -> List D -> Option (D × List D)} {fs:M (List D)} {Q:D -> DS -> Prop}:Ok (bR i n mf fs) δ Q ↔ Ok fs δ fun ds δ1 => ∃ b xs,δ1[i]? = some (.ow b xs) ∧ ds.length + 1 = n ∧ ∃ r,mf xs ds = some r ∧ Q r.1 (δ1.set i (.ow b r.2)):= by
 constructor
 ·rintro ⟨d,δ',e,q⟩
  unfold bR at e
  split at e
  ·cases e
  ·rename_i ds δ1 e1
   split at e
   ·rename_i b xs e2
    split at e
    ·rename_i hn
     split at e
     ·cases e
     ·rename_i d' xs' e3
      cases e
      exact ⟨ds,δ1,e1,b,xs,e2,hn,(d,xs'),e3,q⟩
    ·cases e
   ·cases e
 ·rintro ⟨ds,δ1,e,b,xs,e1,hn,⟨d,xs'⟩,e2,q⟩
  exact ⟨d,_,by unfold bR; rw [e]; dsimp only; rw [e1]; dsimp only; rw [if_pos hn,e2],q⟩
@[simp] theorem dG {gt:D -> M Unit} {tt:M Bool} {te:M D} {d:D} {Q:Option D -> DS -> Prop}:Ok (bh gt tt te d) δ Q ↔ Ok (gt d) δ fun _ δ1 => Ok tt δ1 fun b δ2 => if b = true then Ok te δ2 fun x δ3 => Q (some x) δ3 else Q none δ2:= by
 unfold bh; simp
@[simp] theorem pE {n:Nat} {g:List D -> M Unit} {ds:List D} {Q:Unit -> DS -> Prop}:Ok (gN n g (.tup ds)) δ Q ↔ (if ds.length = n then Ok (g ds) δ Q else False):= by
 show Ok (if ds.length = n then g ds else lift none) δ Q ↔ _
 split <;> simp
@[simp] theorem kj {f:D -> M Unit} {g:List D -> M Unit} {d:D} {ds:List D} {Q:Unit -> DS -> Prop}:Ok (cw f g (d :: ds)) δ Q ↔ Ok (f d) δ fun _ δ1 => Ok (g ds) δ1 Q:= by
 show Ok (f d >>= fun _ => g ds) δ Q ↔ _
 simp
@[simp] theorem mV {Q:Unit -> DS -> Prop}:Ok (gM []) δ Q ↔ Q () δ:= by
 show Ok (pure ()) δ Q ↔ _
 simp
end
section
variable {δ:DS}
theorem Ih {lo own:Nat} {fi:M k_} {turn:D -> M (Option D)} {Q:List D -> DS -> Prop} (ds:List D) (g:D -> Option D) (hl:δ.length = lo) (hi:Ok fi δ fun it δ' => it = aR ds ∧ δ' = δ) (hn:ds.length ≤ 100000)
  (ht:∀ d ∈ ds,Ok (turn d) (δ ++ List.replicate own .un) fun o δ2 => o = g d ∧ δ2.take lo = δ) (hQ:Q (ds.filterMap g) δ):Ok (aX lo own fi turn) δ Q:= by
 have gen:∀ es:List D,(∀ d ∈ es,d ∈ ds) -> dJ own turn (fun _ => true) (aR es).1 δ = some (es.filterMap g,δ):= by
  intro es
  induction es with
  | nil => intro _; rfl
  | cons d es ih =>
   intro hs
   obtain ⟨o,δ2,e,rfl,e2⟩:=ht d (hs d List.mem_cons_self)
   show dJ own turn (fun _ => true) ((fun _ => some d) :: (aR es).1) δ = _
   unfold dJ
   dsimp only
   rw [e]
   dsimp only
   rw [hl,e2,ih fun x hx => hs x (List.mem_cons_of_mem _ hx)]
   dsimp only
   rw [List.filterMap_cons]
   cases g d <;> rfl
 unfold aX
 simp only [ar]
 refine ⟨(),δ,by unfold iU; rw [if_pos hl],hi.mono fun it δ' ⟨e1,e2⟩ => ?_⟩
 subst e1; subst e2
 refine dN.mpr ⟨by simpa [aR] using hn,ds.filterMap g,δ',gen ds fun _ h => h,hQ⟩
theorem a_ {α:Type} {lo own:Nat} {fi:M k_} {turn:D -> M (Option D)} {Q:List D -> DS -> Prop} (as:List α) (e:α -> D) (g:α -> Option D) (hl:δ.length = lo) (hi:Ok fi δ fun it δ' => it = aR (as.map e) ∧ δ' = δ) (hn:as.length ≤ 100000)
  (ht:∀ a ∈ as,Ok (turn (e a)) (δ ++ List.replicate own .un) fun o δ2 => o = g a ∧ δ2.take lo = δ) (hQ:Q (as.filterMap g) δ):Ok (aX lo own fi turn) δ Q:= by
 have gen:∀ es:List α,(∀ d ∈ es,d ∈ as) -> dJ own turn (fun _ => true) (aR (es.map e)).1 δ = some (es.filterMap g,δ):= by
  intro es
  induction es with
  | nil => intro _; rfl
  | cons d es ih =>
   intro hs
   obtain ⟨o,δ2,e1,e0,e2⟩:=ht d (hs d List.mem_cons_self)
   show dJ own turn (fun _ => true) ((fun _ => some (e d)) :: (aR (es.map e)).1) δ = _
   unfold dJ
   dsimp only
   rw [e1]
   dsimp only
   rw [hl,e2,ih fun x hx => hs x (List.mem_cons_of_mem _ hx)]
   dsimp only
   rw [List.filterMap_cons,<- e0]
   cases o <;> rfl
 unfold aX
 simp only [ar]
 refine ⟨(),δ,by unfold iU; rw [if_pos hl],hi.mono fun it δ' ⟨e1,e2⟩ => ?_⟩
 subst e1; subst e2
 refine dN.mpr ⟨by simpa [aR] using hn,as.filterMap g,δ',gen as fun _ h => h,hQ⟩
theorem aY {α β:Type} (p:α -> Bool) (f:α -> β) (as:List α):(as.filterMap fun a => if p a = true then some (f a) else none) = (as.filter p).map f:= by
 induction as with
 | nil => rfl
 | cons a r ih =>
  rw [List.filterMap_cons,List.filter_cons,ih]
  cases p a <;> rfl
theorem d5 {lo own:Nat} {fi:M k_} {turn:D -> M (Option D)} {Q:List D -> DS -> Prop} (ds:List D) (I:Nat -> List D -> DS -> Prop) (hl:δ.length = lo) (hi:Ok fi δ fun it δ' => it = aR ds ∧ δ' = δ) (hn:ds.length ≤ 100000) (h0:I 0 [] δ)
  (ht:∀ k (hk:k < ds.length) acc δ,acc.length ≤ k -> δ.length = lo -> I k acc δ -> Ok (turn ds[k]) (δ ++ List.replicate own .un) fun o δ2 => (δ2.take lo).length = lo ∧ I (k + 1) (acc ++ o.toList) (δ2.take lo)) (hQ:∀ xs δ',xs.length ≤ ds.length -> δ'.length = lo -> I ds.length xs δ' -> Q xs δ'):Ok (aX lo own fi turn) δ Q:= by
 have gen:∀ (n k:Nat) (acc:List D) (δ:DS),ds.length - k = n -> k ≤ ds.length -> acc.length ≤ k -> δ.length = lo -> I k acc δ -> ∃ xs δ',dJ own turn (fun _ => true) (aR (ds.drop k)).1 δ = some (xs,δ') ∧ δ'.length = lo ∧ I ds.length (acc ++ xs) δ' ∧ (acc ++ xs).length ≤ ds.length:= by
  intro n
  induction n with
  | zero =>
   intro k acc δ hk hk2 h0 h1 h2
   have:k = ds.length:=by omega
   subst this
   rw [List.drop_length]
   exact ⟨[],δ,rfl,h1,by simpa using h2,by simpa using h0⟩
  | succ n ih =>
   intro k acc δ hk hk2 h0 h1 h2
   have hlt:k < ds.length:=by omega
   rw [List.drop_eq_getElem_cons hlt]
   obtain ⟨o,δ2,e,q1,q2⟩:=ht k hlt acc δ h0 h1 h2
   have ho:o.toList.length ≤ 1:=by cases o <;> simp
   obtain ⟨xs,δ',e',r1,r2,r3⟩:=ih (k + 1) (acc ++ o.toList) (δ2.take lo) (by omega) hlt (by rw [List.length_append]; omega) q1 q2
   refine ⟨o.toList ++ xs,δ',?_,r1,by simpa using r2,by simpa using r3⟩
   show dJ own turn (fun _ => true) ((fun _ => some ds[k]) :: (aR (ds.drop (k + 1))).1) δ = _
   unfold dJ
   dsimp only
   rw [e]
   dsimp only
   rw [h1,e']
 unfold aX
 simp only [ar]
 refine ⟨(),δ,by unfold iU; rw [if_pos hl],hi.mono fun it δ' ⟨e1,e2⟩ => ?_⟩
 subst e1; subst e2
 obtain ⟨xs,δ2,e,r1,r2,r3⟩:=gen ds.length 0 [] δ' (by omega) (Nat.zero_le _) (Nat.le_refl _) hl h0
 rw [List.drop_zero] at e
 exact dN.mpr ⟨by simpa [aR] using hn,xs,δ2,e,hQ xs δ2 (by simpa using r3) r1 (by simpa using r2)⟩
theorem r9 {i n k:Nat} {b:Bool} {xs:List D} (h:k < (c9 i n).1.length) (hx:δ[i]? = some (.ow b xs)) (hn:xs.length = n):(c9 i n).1[k] δ = xs[k]?:= by
 have e:=List.getElem_map (fun (j:Nat) (δ:DS) => (match δ[i]? with | some (.ow _ xs) => if xs.length = n then xs[j]? else none | _ => none:Option D)) (l:=List.range n) (i:=k) (h:=by simpa [c9] using h)
 refine Eq.trans (congrFun e δ) ?_
 rw [List.getElem_range,hx]
 simp [hn]
theorem w6 {α:Type} {lo own i:Nat} {b:Bool} {fi:M k_} {turn:D -> M (Option D)} {Q:List D -> DS -> Prop} (as:List α) (e:α -> D) (g:α -> Option D) (hl:δ.length = lo) (hx:δ[i]? = some (.ow b (as.map e))) (hi:Ok fi δ fun it δ' => it = c9 i as.length ∧ δ' = δ) (hn:as.length ≤ 100000)
  (ht:∀ a ∈ as,Ok (turn (e a)) (δ ++ List.replicate own .un) fun o δ2 => o = g a ∧ δ2.take lo = δ) (hQ:Q (as.filterMap g) δ):Ok (aX lo own fi turn) δ Q:= by
 have gen:∀ (n k:Nat),as.length - k = n -> k ≤ as.length -> dJ own turn (c9 i as.length).2 ((c9 i as.length).1.drop k) δ = some ((as.drop k).filterMap g,δ):= by
  intro n
  induction n with
  | zero =>
   intro k hk hk2
   have:k = as.length:=by omega
   subst this
   rw [List.drop_length,List.drop_eq_nil_of_le (by simp [c9])]
   have ef:(c9 i as.length).2 δ = true:=by simp [c9,hx]
   unfold dJ
   rw [if_pos ef]
   rfl
  | succ n ih =>
   intro k hk hk2
   have hlt:k < as.length:=by omega
   have hlt2:k < (c9 i as.length).1.length:=by simpa [c9] using hlt
   rw [List.drop_eq_getElem_cons hlt,List.drop_eq_getElem_cons hlt2]
   obtain ⟨o,δ2,e1,e0,e2⟩:=ht as[k] (List.getElem_mem hlt)
   unfold dJ
   have ea:(c9 i as.length).1[k] δ = some (e as[k]):= by
    rw [r9 hlt2 hx (by simp)]
    simp [hlt]
   rw [ea]
   dsimp only
   rw [e1]
   dsimp only
   rw [hl,e2,ih (k + 1) (by omega) hlt]
   dsimp only
   rw [List.filterMap_cons,<- e0]
   cases o <;> rfl
 unfold aX
 simp only [ar]
 refine ⟨(),δ,by unfold iU; rw [if_pos hl],hi.mono fun it δ' ⟨e1,e2⟩ => ?_⟩
 subst e1; subst e2
 refine dN.mpr ⟨by simpa [c9] using hn,as.filterMap g,δ',?_,hQ⟩
 have:=gen as.length 0 (by omega) (Nat.zero_le _)
 rwa [List.drop_zero,List.drop_zero] at this
def HP (gt:D -> M Unit) (body:M Fl) (its:List (DS -> Option D)) (fl:Fl):M Fl:=match fl with
 | .nx => forM gt body (fun _ => true) its
 | .ct => forM gt body (fun _ => true) its
 | .bk => pure .nx
 | .rt d => pure (.rt d)
 | .rf d => pure (.rf d)
theorem vD (gt:D -> M Unit) (body:M Fl) (its:List (DS -> Option D)) {d:D} {δ δ1 δ2:DS} {u:Unit} {fl:Fl} (e1:gt d δ = some (u,δ1)) (e2:body δ1 = some (fl,δ2)):forM gt body (fun _ => true) ((fun _ => some d) :: its) δ = HP gt body its fl δ2:= by
 rw [forM]
 dsimp only
 rw [M.bind_def,e1]
 dsimp only
 rw [M.bind_def,e2]
 cases fl <;> rfl
theorem ua {gt:D -> M Unit} {body:M Fl} {Q:Fl -> DS -> Prop} (ds:List D) (I:Nat -> DS -> Prop) (h0:I 0 δ)
  (ht:∀ k (hk:k < ds.length) δ,I k δ -> Ok (gt ds[k]) δ fun _ δ1 => Ok body δ1 fun fl δ2 => match fl with
   | .nx => I (k + 1) δ2
   | .ct => I (k + 1) δ2
   | .bk => Q .nx δ2
   | .rt d => Q (.rt d) δ2
   | .rf d => Q (.rf d) δ2) (hQ:∀ δ,I ds.length δ -> Q .nx δ):Ok (forM gt body (aR ds).2 (aR ds).1) δ Q:= by
 have gen:∀ (n k:Nat) (δ:DS),ds.length - k = n -> k ≤ ds.length -> I k δ -> Ok (forM gt body (fun _ => true) (aR (ds.drop k)).1) δ Q:= by
  intro n
  induction n with
  | zero =>
   intro k δ hk hk2 h
   have:k = ds.length:=by omega
   subst this
   rw [List.drop_length]
   exact ⟨.nx,δ,rfl,hQ δ h⟩
  | succ n ih =>
   intro k δ hk hk2 h
   have hlt:k < ds.length:=by omega
   rw [List.drop_eq_getElem_cons hlt]
   have ht':=ht k hlt δ h
   obtain ⟨u,δ1,e1,fl,δ2,e2,q⟩:=ht'
   have st:forM gt body (fun _ => true) (aR (ds[k] :: ds.drop (k + 1))).1 δ = HP gt body (aR (ds.drop (k + 1))).1 fl δ2:= by
    show forM gt body (fun _ => true) ((fun _ => some ds[k]) :: (aR (ds.drop (k + 1))).1) δ = _
    exact vD gt body _ e1 e2
   cases fl with
   | nx => obtain ⟨a,δ',e,q'⟩:=ih (k + 1) δ2 (by omega) hlt q; exact ⟨a,δ',st.trans e,q'⟩
   | ct => obtain ⟨a,δ',e,q'⟩:=ih (k + 1) δ2 (by omega) hlt q; exact ⟨a,δ',st.trans e,q'⟩
   | bk => exact ⟨.nx,δ2,st,q⟩
   | rt d => exact ⟨.rt d,δ2,st,q⟩
   | rf d => exact ⟨.rf d,δ2,st,q⟩
 have:=gen ds.length 0 δ (by omega) (Nat.zero_le _) h0
 rwa [List.drop_zero] at this
theorem fO {fi:M k_} {gt:D -> M Unit} {body:M Fl} {Q:Fl -> DS -> Prop} (ds:List D) (I:Nat -> DS -> Prop) (hi:Ok fi δ fun it δ' => it = aR ds ∧ δ' = δ) (h0:I 0 δ)
  (ht:∀ k (hk:k < ds.length) δ,I k δ -> Ok (gt ds[k]) δ fun _ δ1 => Ok body δ1 fun fl δ2 => match fl with
   | .nx => I (k + 1) δ2
   | .ct => I (k + 1) δ2
   | .bk => Q .nx δ2
   | .rt d => Q (.rt d) δ2
   | .rf d => Q (.rf d) δ2) (hQ:∀ δ,I ds.length δ -> Q .nx δ):Ok (do let it <- fi; Jt.forM gt body it.2 it.1) δ Q:= by
 rw [ar]
 refine hi.mono fun it δ' ⟨e1,e2⟩ => ?_
 subst e1; subst e2
 exact ua ds I h0 ht hQ
end
theorem cu {N:List Str} {body:M Fl} {ds:List D} {d:D} (h:Ok body (entry N ds) fun fl _ => fl = .rt d):aW N body ds = some d:= by
 obtain ⟨fl,δ',e,rfl⟩:=h
 unfold aW
 rw [e]
theorem u_ {N:List Str} {body:M Fl} {ds:List D} {d:List D} (h:Ok body (entry N ds) fun fl _ => fl = .rf d):fY N body ds = some d:= by
 obtain ⟨fl,δ',e,rfl⟩:=h
 unfold fY
 rw [e]
theorem d_ {N:List Str} {body:M Fl} {xs ds:List D} {Q:D -> List D -> Prop} (h:Ok body (eG N xs ds) fun fl δ => ∃ d xs',fl = .rt d ∧ δ[0]? = some (.ow true xs') ∧ Q d xs'):∃ d xs',bp N body xs ds = some (d,xs') ∧ Q d xs':= by
 obtain ⟨fl,δ',e,d,xs',rfl,e1,q⟩:=h
 refine ⟨d,xs',?_,q⟩
 unfold bp
 rw [e]
 dsimp only
 rw [e1]
theorem pw {N:List Str} {body:M Fl} {ds:List D} {Q:D -> Prop} (h:Ok body (entry N ds) fun fl _ => ∃ d,fl = .rt d ∧ Q d):∃ d,aW N body ds = some d ∧ Q d:= by
 obtain ⟨fl,δ',e,d,rfl,q⟩:=h
 exact ⟨d,by unfold aW; rw [e],q⟩
theorem uX {N:List Str} {body:M Fl} {ds:List D} {Q:List D -> Prop} (h:Ok body (entry N ds) fun fl _ => ∃ d,fl = .rf d ∧ Q d):∃ d,fY N body ds = some d ∧ Q d:= by
 obtain ⟨fl,δ',e,d,rfl,q⟩:=h
 exact ⟨d,by unfold fY; rw [e],q⟩
end Jt
namespace Jt
open PySem L2 PySem.Spec PyProof.Rows
section
variable {prog:Program} {w:World} {A:Around} {E:Value -> Shared -> Prop} {s:Shared}
end
section
variable {X:Cx}
end
section
variable {X:Cx} {e:Expr} {fq:M (List D)} {p pos:Pos}
end
end Jt
namespace Jt
open PySem L2
section
variable {X:Cx}
def never {α:Type}:M α:=fun _ => none
theorem qA {st:Stmt}:ql X st never:=fun pins s σ H E I h => by
 obtain ⟨c,δ,S,T,fl,δ',s,e,k⟩:=h
 cases e
end
section
variable {X:Cx} {a:Expr} {fs:M (List D)} {pos p apos cpos:Pos} {x:Str}
def HZ (i:Nat) (fs:M (List D)):M Fl:=do
 let _ <- aF i
 let ds <- fs
 match ds with
 | [.int j] => do
  let xs <- aF i
  let ns <- lift (dC xs)
  let _ <- lift (if j ∈ ns then some () else none)
  setOw i ((ns.eraseIdx (ns.idxOf j)).map .int)
  pure .nx
 | _ => lift none
end
def Hl (c:Ct) (δ:DS) (σ:L2.St) (L:List Addr) (a:Addr):Prop:=Hd c δ σ a ∧ a ∉ L
section
variable {X:Cx} {a:Expr} {ha':M Hn} {fs:M (List D)} {pos p:Pos} {es:List Expr} {x:Str}
variable {k:Nat} {f:Addr} {fd:FuncData} {ps:List Str}
open Classical in
end
end Jt
namespace Jt
open PySem L2
section
variable {X:Cx} {a:Expr} {fa:M D} {pos:Pos}
def jN:D -> Option D
 | .int i => some (.int (-i))
 | _ => none
def m1 (f:D -> Option D) (fa:M D):M D:=do
 let x <- fa
 lift (f x)
theorem mI (ha:DE X a fa):DE X (.UnaryOp .USub a pos) (m1 jN fa):=cG (C_ yA ha) fun σ H Q ⟨c,δ,S,T,d,δ',s,e,k⟩ => by
 obtain ⟨x,δ1,e1,e⟩:=bind_some e
 obtain ⟨e2,rfl⟩:=aA e
 refine ⟨c,δ,S,T,x,δ1,s,e1,fun v H' s' => ?_⟩
 cases x with
 | int i =>
  cases e2
  exact ⟨i,s'.st.head.int,k _ _ (s'.pop.stk (.cons .mkI s'.pop.st))⟩
 | _ => cases e2
end
end Jt
namespace Jt
open PySem L2
section
variable {δ:DS}
@[simp] theorem JI {f:D -> Option D} {fa:M D} {Q:D -> DS -> Prop}:Ok (m1 f fa) δ Q ↔ Ok fa δ fun x δ1 => Ok (lift (f x)) δ1 Q:= by
 unfold m1; simp
@[simp] theorem IV {r1 r2:D -> D -> Option D} {fa fb fc:M D} {Q:D -> DS -> Prop}:Ok (zU r1 r2 fa fb fc) δ Q ↔ Ok fa δ fun x δ1 => Ok fb δ1 fun y δ2 => Ok (lift (r1 x y)) δ2 fun z δ3 => match z with
  | .bl true => Ok fc δ3 fun w δ4 => Ok (lift (r2 y w)) δ4 Q
  | .bl false => Q (.bl false) δ3
  | _ => False:= by
 unfold zU
 simp only [ar]
 constructor <;>
 ·intro h
  refine h.mono fun x δ1 h => h.mono fun y δ2 h => h.mono fun z δ3 h => ?_
  cases z with
  | bl b => cases b <;> simpa using h
  | _ => simpa using h
theorem uu {tt:M Bool} {body:M Fl} {Q:Fl -> DS -> Prop} (I:Nat -> DS -> Prop) (h:∀ k δ,I k δ -> Ok tt δ fun b δ1 => (b = true -> ∃ j,k = j + 1 ∧ Ok body δ1 fun fl δ2 => fl = .nx ∧ I j δ2) ∧ (b = false -> Q .nx δ1)) :
  ∀ (f n:Nat) (δ:DS),n < f -> I n δ -> Ok (CY tt body f) δ Q
 | 0,n,δ,hf,_ => by omega
 | f + 1,n,δ,hf,hI => by
  unfold CY
  rw [ar]
  refine (h n δ hI).mono fun b δ1 hb => ?_
  cases b with
  | false => exact au.mpr (hb.2 rfl)
  | true =>
   obtain ⟨j,rfl,hj⟩:=hb.1 rfl
   show Ok (body >>= _) δ1 Q
   rw [ar]
   refine hj.mono fun fl δ2 ⟨e,hI2⟩ => ?_
   subst e
   exact uu I h f j δ2 (by omega) hI2
end
end Jt
namespace Jt
open PySem L2 PySem.Spec PyProof.Rows
section
variable {prog:Program} {w:World} {A:Around} {E:Value -> Shared -> Prop} {s:Shared}
theorem zo {t b:Addr} {ws:List Value} {Q:Value -> Shared -> Prop} (ht:IsTup s.heap t #[]) (hb:IsTup s.heap b ws.toArray) (h:Q (.ref b) s):wpAny (model prog w) A (binaryOp .Add (.ref t) (.ref b)) Q E s:= by
 obtain ⟨⟨cls,dd,data,sl⟩,ho,hc,n,hd⟩:=id ht
 obtain ⟨⟨cls2,dd2,data2,sl2⟩,ho2,hc2,n2,hd2⟩:=id hb
 simp only at hc hd hc2 hd2
 subst hc hd hc2 hd2
 exact concat_meets ⟨_,ho,rfl⟩ ⟨_,ho2,rfl⟩ noFill_tuple_add seq_tuple_add PySem.F.slot_tuple_add PySem.F.entry_tuple_add (PySem.F.args_tuple_add_2 _ _) (tuple_addW0 t b #[] ws.toArray n n2 dd dd2 sl sl2 rfl) ⟨ho,ho2,h⟩
end
section
variable {X:Cx} {a b e:Expr} {fa fb:M D} {pos:Pos}
def C7 (K:PySem.W.Frag):R2:=fun x y H Q => xf K x y H Q ∨ ∃ p q ys,x = .ref p ∧ y = .ref q ∧ iP K H p [] ∧ iP K H q ys ∧ Q (.ref q) H
theorem Az:gK X (binaryOp .Add) (C7 X.K):= by
 intro pins s σ H x y v u Q I rx ry h
 rcases h with h | ⟨p,q,ys,rfl,rfl,hp,hq,k⟩
 ·exact Bo pins s σ H x y v u Q I rx ry h
 ·cases rx
  cases ry
  obtain ⟨its,r1,p1,_⟩:=I.tuple hp
  obtain ⟨its2,r2,p2,_⟩:=I.tuple hq
  have e:its = []:=r1.nil_iff.mpr rfl
  subst e
  exact zo p1 p2 ⟨.ref q,H,I,rfl,k⟩
def b4:D -> D -> Option D
 | .tup xs,.tup ys => if xs.length + ys.length ≤ 100000 then some (.tup (xs ++ ys)) else none
 | _,_ => none
theorem zw {K:PySem.W.Frag}:qC (C7 K) b4:=fun c δ S σ T H x y v u d Q s e k => by
 unfold b4 at e
 split at e
 ·rename_i xs ys
  split at e
  ·rename_i hn
   cases e
   cases xs with
   | cons x xs =>
    refine .inl (yj c δ S σ T H (.tup (x :: xs)) (.tup ys) v u _ Q s ?_ k)
    show (if xs.length + 1 + ys.length ≤ 100000 then _ else _) = _
    rw [if_pos (by simpa using hn)]
   | nil =>
    obtain ⟨p,ws,rfl,h1,h3⟩:=s.st.tail.head.tup
    obtain ⟨q,zs,rfl,h4,h5⟩:=s.st.head.tup
    rw [h3.inv0] at h1
    exact .inr ⟨p,q,zs,rfl,rfl,.of (bf _ _ h1),.of (bf _ _ h4),k _ _ (s.stk (.cons s.st.head s.st.tail.tail))⟩
  ·cases e
 ·cases e
theorem cK (ha:DE X a fa) (hb:DE X b fb):DE X (.BinOp a .Add b pos) (m2 b4 fa fb):=kO Az zw ha hb
theorem Ej {pins:List (Addr × Obj)} {σ:L2.St} {H:Hp} {s:Shared} (I:L2.Inv X pins σ H s):s.heap.objs.size ≠ sysModules:=fun e => by
 obtain ⟨_,_,_,ho,_⟩:=I.mod.glob
 have:=Heap.lt_size (I.bk _ _ ho)
 rw [e] at this
 exact absurd this (by decide)
theorem ze:PE X (.Dict [] [] pos) (fun σ H Q => ∀ l,H l = none -> Q (.ref l) (upd H l (mR l))):= by
 intro pins s σ H Q I h
 refine wpAny_Dict_empty ?_
 have g:(s.heap.push { cls:=.type "dict",data:=.dict #[] }).get? s.heap.objs.size = some { cls:=.type "dict",data:=.dict #[] }:=Heap.get?_push_size _ rfl
 refine ⟨.ref s.heap.objs.size,_,I.laid (t':=s.toks) (o:=mR s.heap.objs.size) (fun b ob q => Heap.get?_push_of_some _ q) (Nat.le_refl _) ⟨⟨Ej I,_,_,g,rfl,rfl⟩,⟨_,g⟩,fun h1 h2 ⟨hn,o,n,e1,e2,e3⟩ k => ⟨hn,o,n,k o e1,e2,e3⟩⟩,rfl,h _ (I.hok.fresh (Nat.le_refl _))⟩
theorem wo:DE X (.Dict [] [] pos) (pure .dct):=cG ze fun σ H Q ⟨c,δ,S,T,d,δ',s,e,k⟩ => by
 obtain ⟨rfl,rfl⟩:=aq e
 intro l hl
 have s':=s.grow (gZ hl (mR l))
 exact k _ _ (s'.stk (.cons (.mkD (eY.mpr ⟨s.hdNew hl,aQ⟩)) s'.st))
end
end Jt
namespace Jt
open PySem L2 PySem.Spec PyProof.Rows
section
variable {prog:Program} {w:World} {A:Around} {E:Value -> Shared -> Prop} {s:Shared}
theorem kq {sl:Addr} {t:Tok} {n:Nat} {Q:Int × Int × Nat -> Shared -> Prop} (hs:s.heap.IsSliceOf sl .none .none (.int (-1) t)) (h:Q ((n:Int) - 1,-1,n) s):wpAny (model prog w) A (Builtin.Slice.sliceApplied (.ref sl) (pure (n:Int))) Q E s:= by
 obtain ⟨os,hos,hcs,hds⟩:=id hs
 unfold Builtin.Slice.sliceApplied Builtin.Slice.sliceFields
 refine wpAny_bind (wpAny_bind (wpAny_field hos hds (x:=.none) rfl (wpAny_bind (wpAny_field hos hds (x:=.none) rfl (wpAny_bind (wpAny_field hos hds (x:=.int (-1) t) rfl (wpAny_pure ?_)))))))
 refine wpAny_bind (HT.slicePart_ (.int (-1) t) ?_)
 show wpAny _ _ (if ((-1:Int) == 0) = true then _ else _) _ _ s
 rw [if_neg (by decide)]
 refine wpAny_bind (HT.slicePart_ .none (wpAny_bind (HT.slicePart_ .none (wpAny_bind (wpAny_pure ?_)))))
 show wpAny _ _ (match Builtin.Slice.sliceAdjust none none (-1) (n:Int) with | (lo,hi) => pure (lo,(-1:Int),Builtin.Slice.slicePlaces lo hi (-1))) _ _ s
 have e1:Builtin.Slice.sliceAdjust none none (-1) (n:Int) = ((n:Int) - 1,-1):=rfl
 rw [e1]
 show wpAny _ _ (pure ((n:Int) - 1,(-1:Int),Builtin.Slice.slicePlaces ((n:Int) - 1) (-1) (-1))) _ _ s
 have e2:Builtin.Slice.slicePlaces ((n:Int) - 1) (-1) (-1) = n:= by
  unfold Builtin.Slice.slicePlaces
  rw [if_neg (by omega)]
  by_cases h0:n = 0
  ·subst h0; rfl
  ·rw [if_pos (by omega)]
   have:((n:Int) - 1 - -1 - 1) / -(-1) = (n:Int) - 1:= by
    rw [show -(-1:Int) = 1 from rfl,Int.ediv_one]
    omega
   rw [this]
   omega
 rw [e2]
 exact wpAny_pure h
theorem qE {α β:Type} {f g:α -> Option β}:∀ l:List α,(∀ x ∈ l,f x = g x) -> l.filterMap f = l.filterMap g
 | [],_ => rfl
 | a :: r,h => by
  rw [List.filterMap_cons,List.filterMap_cons,h a List.mem_cons_self,qE r fun x hx => h x (List.mem_cons_of_mem _ hx)]
theorem yV (xs:Array Value):((List.range xs.size).filterMap fun (m:Nat) => xs[((xs.size:Int) - 1 + (m:Int) * (-1)).toNat]?).toArray = xs.toList.reverse.toArray:= by
 congr 1
 have:∀ m ∈ List.range xs.size,xs[((xs.size:Int) - 1 + (m:Int) * (-1)).toNat]? = some (xs.toList.reverse.getD m Value.none):=fun m hm => by
  have hm':m < xs.size:=List.mem_range.mp hm
  rw [show ((xs.size:Int) - 1 + (m:Int) * (-1)).toNat = xs.size - 1 - m by omega]
  have h1:xs.size - 1 - m < xs.size:=by omega
  rw [List.getD_eq_getElem?_getD,List.getElem?_eq_getElem (by simpa using hm'),List.getElem_reverse]
  simp [h1]
 have e:(List.range xs.size).filterMap (fun (m:Nat) => xs[((xs.size:Int) - 1 + (m:Int) * (-1)).toNat]?) = (List.range xs.size).filterMap fun m => some (xs.toList.reverse.getD m Value.none):= by
  exact qE _ this
 rw [e,List.filterMap_eq_map']
 refine List.ext_getElem (by simp) fun i h1 h2 => ?_
 have:i < xs.size:=by simpa using h1
 simp [this]
theorem jx {a sl:Addr} {items:Array Value} {t:Tok} {Q:Value -> Shared -> Prop} (ht:IsTup s.heap a items) (hs:s.heap.IsSliceOf sl .none .none (.int (-1) t))
  (h:Q (.ref s.heap.objs.size) { s with heap:=s.heap.push { cls:=.type "tuple",data:=.seq items.toList.reverse.toArray } }) (hsz:items.size ≤ sizeLine):wpAny (model prog w) A (getItem (.ref a) (.ref sl)) Q E s:= by
 have htake:sizeOk (.seq items.toList.reverse.toArray):= by
  show items.toList.reverse.toArray.size ≤ sizeLine
  simpa using hsz
 obtain ⟨os,hos,hcs,hds⟩:=id hs
 have hTs:s.TypeIs (.ref sl) "slice":=⟨os,hos,hcs⟩
 unfold getItem
 try with_reducible refine wpAny_holding ?_
 first | refine wpAny_bind (wpAny_pure ?_) | skip
 refine wpAny_bind (wpAny_sequenceKey ht.typeIs (by decide) ?_)
 refine wpAny_bind (wpAny_callSpecial?_slot (name:=Str.ofString "__getitem__") ht.typeIs slot_tuple_getitem (wpAny_call_entry slot_tuple_getitem ht.typeIs entry_tuple_getitem ?_ (args_tuple_getitem _ _)))
 show wpAny _ _ (Builtin.Tuple.tupleItemsOf (.ref a) >>= _) _ _ s
 refine wpAny_bind (tupleItemsOf_ ht (wpAny_bind (wpAny_typeOf hTs ?_)))
 rw [if_pos (by decide)]
 refine wpAny_bind (kq hs ?_)
 have hno:¬ (((((items.size:Int) - 1) == 0 && (-1:Int) == 1 && items.size == items.size) = true)):=by simp
 show wpAny _ _ (if ((((items.size:Int) - 1) == 0 && (-1:Int) == 1 && items.size == items.size) = true) then _ else _) _ _ s
 rw [if_neg hno,yV]
 first
  | exact wpAny_bind (m:=Builtin.Tuple.tupleExact _) (wpAny_newObj_type (wpAny_pure ⟨_,rfl,wpAny_pure h⟩) htake)
  | exact wpAny_bind (m:=Builtin.Tuple.tupleExact _) (wpAny_newObj_type (wpAny_bind (wpAny_pure (wpAny_pure ⟨_,rfl,wpAny_pure h⟩))) htake)
  | exact wpAny_bind (wpAny_bind (m:=Builtin.Tuple.tupleExact _) (wpAny_newObj_type (wpAny_pure (wpAny_pure ⟨_,rfl,wpAny_pure h⟩)) htake))
  | exact wpAny_bind (wpAny_bind (m:=Builtin.Tuple.tupleExact _) (wpAny_newObj_type (wpAny_pure ⟨_,rfl,wpAny_pure h⟩) htake))
end
section
variable {X:Cx} {e:Expr} {te:TE} {fa:M D} {j:Nat} {pos p2 p3 p4:Pos}
theorem y6 {vs:List V} {us:List Value} (r:Vals vs us):Vals vs.reverse us.reverse:= by
 induction r with
 | nil => exact .nil
 | cons h _ ih => rw [List.reverse_cons,List.reverse_cons]; exact ih.append (.cons h .nil)
theorem FE (he:PE X e te):PE X (.Subscript e (.Slice none none (some (.UnaryOp .USub (.Constant (.int 1) j p3) p4)) p2) pos) (fun σ H Q => te σ H fun x H1 => ∃ a xs,x = .ref a ∧ iP X.K H1 a xs ∧ ∀ l,H1 l = none -> Q (.ref l) (upd H1 l (.tup xs.reverse))):= by
 intro pins s σ H Q I h
 refine Subscript_ (cT (he pins s σ H _ I h) fun v s1 ⟨x,H1,I1,r1,q1⟩ => ?_)
 obtain ⟨a,xs,rfl,hx,q⟩:=q1
 cases r1
 refine wpAny_Slice ?_
 rw [evalPart_none]
 refine wpAny_pure (wpAny_pure ?_)
 rw [evalPart_some]
 refine cT ((C_ yA tQ) pins s1 σ H1 (fun v H' => v = .int (-1) ∧ H' = H1) I1 ⟨1,rfl,rfl,rfl⟩) fun v2 s2 ⟨y,H2,I2,r2,e2,e3⟩ => ?_
 subst e2
 subst e3
 obtain ⟨t,rfl⟩:=r2
 have I4:Inv X pins σ H2 { s2 with heap:=s2.heap.push { cls:=.type "slice",data:=.fields #[.none,.none,.int (-1) t] } }:=I2.kept (t':=s2.toks) fun b ob q => Heap.get?_push_of_some _ q
 obtain ⟨its,r,ht,hz⟩:=I4.tuple hx
 have hlen:its.toArray.size = xs.length:=by rw [List.size_toArray]; exact r.length.symm
 refine tail_any (ops:=[.ref a,.ref s2.heap.objs.size]) ht.typeIs slot_tuple_getitem.lookup (jx ht (Heap.IsSliceOf.new ..) ?_ (by rw [hlen]; exact hz)) (by with_unfolding_all rfl)
 refine ⟨.ref _,_,I4.laid (t':=s2.toks) (o:=.tup xs.reverse) (fun b ob q => Heap.get?_push_of_some _ q) (Nat.le_refl _) ?_,rfl,q _ (I4.hok.fresh (Nat.le_refl _))⟩
 exact ⟨by rw [List.length_reverse]; exact hz,_,y6 r,tP.new _ _⟩
theorem xw {H:Hp}:∀ {ds:List D} {vs:List V},Rs H ds vs -> Rs H ds.reverse vs.reverse
 | [],vs,h => by rw [h.inv0]; exact .nil
 | d :: ds,vs,h => by
  obtain ⟨v,r,ev,h1,h2⟩:=h.inv
  subst ev
  rw [List.reverse_cons,List.reverse_cons]
  exact (xw h2).append (.cons h1 .nil)
def yC:D -> Option D
 | .tup xs => some (.tup xs.reverse)
 | _ => none
theorem yG (he:DE X e fa):DE X (.Subscript e (.Slice none none (some (.UnaryOp .USub (.Constant (.int 1) j p3) p4)) p2) pos) (m1 yC fa):=cG (FE he) fun σ H Q ⟨c,δ,S,T,d,δ',s,e,k⟩ => by
 obtain ⟨x,δ1,e1,e⟩:=bind_some e
 obtain ⟨e2,rfl⟩:=aA e
 refine ⟨c,δ,S,T,x,δ1,s,e1,fun v H' s' => ?_⟩
 cases x with
 | tup xs =>
  cases e2
  obtain ⟨a,vs,rfl,h1,h2⟩:=s'.st.head.tup
  refine ⟨a,vs,rfl,.of (bf _ _ h1),fun l hl => ?_⟩
  have s1:=s'.stk ((xw h2).append s'.st.tail)
  exact k _ _ (s1.newTup (by rw [List.length_reverse,List.length_reverse,h2.length]) hl)
 | _ => cases e2
end
section
variable {X:Cx} {a:Expr} {fa:M D} {fs:M (List D)} {es us:List Expr} {vs:List (Option Expr)} {pos p2:Pos} {j:Nat} {c:Const} {o:UnaryOp} {env:Env}
theorem AF {t:Option Expr} {l:Nat}:swapsWith (.List es p2) t l env = pure false:=rfl
theorem zL:starEach (.Constant c j p2 :: es) env = (false,eval (.Constant c j p2) env) :: starEach es env:=rfl
theorem EU:starEach (.Tuple us j p2 :: es) env = (false,eval (.Tuple us j p2) env) :: starEach es env:=rfl
theorem Fq:starEach (.List us p2 :: es) env = (false,eval (.List us p2) env) :: starEach es env:=rfl
theorem D2:starEach (.Dict vs us p2 :: es) env = (false,eval (.Dict vs us p2) env) :: starEach es env:=rfl
theorem F_:starEach (.UnaryOp o a p2 :: es) env = (false,eval (.UnaryOp o a p2) env) :: starEach es env:=rfl
theorem nz (ha:DE X (.Constant c j p2) fa) (hr:DA X es fs):DA X (.Constant c j p2 :: es) (ae fa fs):=aa ha hr zL
theorem j_ (ha:DE X (.Tuple us j p2) fa) (hr:DA X es fs):DA X (.Tuple us j p2 :: es) (ae fa fs):=aa ha hr EU
theorem GJ (ha:DE X (.List us p2) fa) (hr:DA X es fs):DA X (.List us p2 :: es) (ae fa fs):=aa ha hr Fq
theorem Jy (ha:DE X (.Dict vs us p2) fa) (hr:DA X es fs):DA X (.Dict vs us p2 :: es) (ae fa fs):=aa ha hr D2
theorem IJ (ha:DE X (.UnaryOp o a p2) fa) (hr:DA X es fs):DA X (.UnaryOp o a p2 :: es) (ae fa fs):=aa ha hr F_
theorem uf {X:Cx} (i:Nat) (x:Str) (e:Expr) (fa:M D) (pos pos':Pos) (hN:X.N.Nodup) (hi:X.N[i]? = some x) (hx:Loc X.env.scope x) (hf:X.fn x = true ∨ X.env.scope.names.lookup x = some .local) (hs:swapsWith e (some (.Name x pos')) pos.line X.env = pure false) (he:DE X e fa):ql X (.Assign [.Name x pos'] e pos) (dD i fa):=aU i hN he hi hx hs hf
end
theorem bJ (neg:Bool) (a b:Int):dj neg (.int a) (.int b) = some (.bl (if neg then !decide (a = b) else decide (a = b))):= by
 show (if qZ (.int a) (.int b) = true then some (D.bl (if neg then !decide (V.int a = V.int b) else decide (V.int a = V.int b))) else none) = _
 rw [if_pos (show qZ (.int a) (.int b) = true from rfl)]
 simp only [V.int.injEq]
theorem BA (neg:Bool) (a b:Bool):dj neg (.bl a) (.bl b) = some (.bl (if neg then !decide (a = b) else decide (a = b))):= by
 show (if qZ (.bl a) (.bl b) = true then some (D.bl (if neg then !decide (V.bl a = V.bl b) else decide (V.bl a = V.bl b))) else none) = _
 rw [if_pos (show qZ (.bl a) (.bl b) = true from rfl)]
 simp only [V.bl.injEq]
theorem Dx (neg:Bool) (a b:Int):iy neg (.int a) (.int b) = some (.bl (if neg then !decide (a = b) else decide (a = b))):=bJ neg a b
@[simp] theorem B9:cJ .int .non = false:=rfl
@[simp] theorem Di (b:Bool):cJ .int (.bl b) = true:=rfl
@[simp] theorem Cn (i:Int):cJ .int (.int i) = true:=rfl
@[simp] theorem B7 (x:Str):cJ .int (.str x) = false:=rfl
@[simp] theorem Bw (xs:List D):cJ .int (.tup xs) = false:=rfl
@[simp] theorem B8 (xs:List D):cJ .int (.lst xs) = false:=rfl
@[simp] theorem Ar:cJ .int .dct = false:=rfl
@[simp] theorem zO:cJ .bool .non = false:=rfl
@[simp] theorem Ak (b:Bool):cJ .bool (.bl b) = true:=rfl
@[simp] theorem zP (i:Int):cJ .bool (.int i) = false:=rfl
@[simp] theorem zY (x:Str):cJ .bool (.str x) = false:=rfl
@[simp] theorem zQ (xs:List D):cJ .bool (.tup xs) = false:=rfl
@[simp] theorem zW (xs:List D):cJ .bool (.lst xs) = false:=rfl
@[simp] theorem zT:cJ .bool .dct = false:=rfl
@[simp] theorem AR:cJ .tup .non = false:=rfl
@[simp] theorem CG (b:Bool):cJ .tup (.bl b) = false:=rfl
@[simp] theorem AX (i:Int):cJ .tup (.int i) = false:=rfl
@[simp] theorem BB (x:Str):cJ .tup (.str x) = false:=rfl
@[simp] theorem gG (xs:List D):cJ .tup (.tup xs) = true:=rfl
@[simp] theorem AG (xs:List D):cJ .tup (.lst xs) = false:=rfl
@[simp] theorem Ab:cJ .tup .dct = false:=rfl
@[simp] theorem Bp:cJ .lst .non = false:=rfl
@[simp] theorem C2 (b:Bool):cJ .lst (.bl b) = false:=rfl
@[simp] theorem BU (i:Int):cJ .lst (.int i) = false:=rfl
@[simp] theorem AV (x:Str):cJ .lst (.str x) = false:=rfl
@[simp] theorem Cp (xs:List D):cJ .lst (.tup xs) = false:=rfl
@[simp] theorem BR (xs:List D):cJ .lst (.lst xs) = true:=rfl
@[simp] theorem Cw:cJ .lst .dct = false:=rfl
@[simp] theorem Bz:cJ .str .non = false:=rfl
@[simp] theorem C8 (b:Bool):cJ .str (.bl b) = false:=rfl
@[simp] theorem AJ (i:Int):cJ .str (.int i) = false:=rfl
@[simp] theorem AQ (x:Str):cJ .str (.str x) = true:=rfl
@[simp] theorem B4 (xs:List D):cJ .str (.tup xs) = false:=rfl
@[simp] theorem AY (xs:List D):cJ .str (.lst xs) = false:=rfl
@[simp] theorem CB:cJ .str .dct = false:=rfl
end Jt
namespace Jt
open PySem L2 PySem.Spec PyProof.Rows
section
variable {prog:Program} {w:World} {A:Around} {E:Value -> Shared -> Prop} {s:Shared}
end
section
variable {X:Cx} {e:Expr} {fa:M D} {pos:Pos}
end
end Jt
namespace Jt
open PySem L2
open PyProof.Rows (AllBare)
structure Fx (base:Heap) (l:List Env) (e:Addr) (oe:Obj) (vs:Array Value) (fl:Value) (h:Heap):Prop where
 st:base.StaysIn h
 ne:base.get? e = none
 fr:h.FunFrames base l
 sz:1 < vs.size
 tr:∃ T oT ts,h.get? e = some { oe with data:=.fields (vs.setIfInBounds 1 (.ref T)) } ∧ base.get? T = none ∧ T ≠ e ∧ h.get? T = some oT ∧ oT.data = .fields ts ∧ ts[3]? = some fl
section
variable {M:Model} {A:Around} {E:Value -> Shared -> Prop} {s:Shared} {base:Heap} {env:Env} {outer:List Env} {L e:Addr} {oe:Obj} {vs ws:Array Value} {head fl:Value} {hadNext:Bool} {Q:Unit -> Shared -> Prop}
end
section
variable {X:Cx} {pins:List (Addr × Obj)} {σ:St} {H:Hp} {s s':Shared} {h':Heap}
end
end Jt
namespace Jt
open PySem L2
open PyProof.Rows (AllBare)
section
variable {X:Cx} {e c:Expr} {es:List Expr} {st:Stmt} {rest as bs:List Stmt} {pos p:Pos}
end
end Jt
namespace Jt
open PySem L2
section
variable {X:Cx} {a b e:Expr} {fa fb:M D} {fs:M (List D)} {pos p:Pos}
def om:=b9 (fun i j => decide (Builtin.Int.intBits i + Builtin.Int.intBits j ≤ 134217728)) fun i j => .int (i * j)
theorem Bt:gK X (binaryOp .Mult) (rI (fun i j => Builtin.Int.intBits i + Builtin.Int.intBits j ≤ 134217728) fun i j => .int (i * j)):=F6 fun i j _ _ _ _ _ hc q => PyProof.Rows.mul_int q (PyProof.Rows.mulOk_of_bits (Nat.le_refl _) (Nat.le_refl _) hc)
theorem um (ha:DE X a fa) (hb:DE X b fb):DE X (.BinOp a .Mult b pos) (m2 om fa fb):=kO Bt (qN (fun i j h => of_decide_eq_true h) fun _ _ _ => .mkI) ha hb
def wC:=b9 (fun i j => decide (0 ≤ j) && decide (j ≤ 1000000) && decide (i.natAbs < 2 ^ 64)) fun i j => .int (i ^ j.toNat)
theorem Fm (ha:DE X a fa) (hb:DE X b fb):DE X (.BinOp a .Pow b pos) (m2 wC fa fb):=kO EI (qN (fun i j h => by
 simp only [Bool.and_eq_true,decide_eq_true_eq] at h; exact ⟨h.1.1,h.1.2,h.2⟩) fun _ _ _ => .mkI) ha hb
def jv:List D -> Option D
 | [.int i,.int j] => if 0 < j ∧ j < 1073741824 then some (.tup [.int (i / j),.int (i % j)]) else none
 | _ => none
theorem vj:iV (fun xs H Q => ∃ i j,xs = [.int i,.int j] ∧ D7 i j ∧ ∀ p,H p = none -> Q (.ref p) (upd H p (.tup [.int (i / j),.int (i % j)]))) jv:=fun c δ S σ T H ds vs d Q l s e k => by
 unfold jv at e
 split at e
 ·rename_i i j
  split at e
  ·rename_i hj
   cases e
   obtain ⟨v,u,rfl,r1,r2⟩:=Iv (s.st.left l)
   cases r1.int
   cases r2.int
   refine ⟨i,j,rfl,hj,fun q hq => k _ _ ?_⟩
   have s1:=s.stk (Rs.append (ds:=[.int (i / j),.int (i % j)]) (vs:=[.int (i / j),.int (i % j)]) (.cons .mkI (.cons .mkI .nil)) (s.st.right l))
   exact s1.newTup rfl hq
  ·cases e
 ·cases e
theorem vh (hm:X.mg "divmod" = none) (ha:DA X [a,b] fs) (hg:Gl X "divmod":=by rfl) (he:starEach [a,b] X.env = (false,eval a X.env) :: starEach [b] X.env:=by rfl) (hp:(backTo pos (starEach [b] X.env)).any (·.1) = false:=by rfl):DE X (.Call (.Name "divmod" p) [a,b] [] pos) (mC jv fs) :=
 fV qt vj hg hm (by decide +kernel) ha (by decide) (by decide) he hp
def ju:List D -> Option D
 | [.int i] => some (.int i)
 | [.bl k] => some (.int (if k then 1 else 0))
 | _ => none
theorem AA:iV (fun xs H Q => (∃ i,xs = [.int i] ∧ Q (.int i) H) ∨ ∃ k,xs = [.bl k] ∧ Q (.int (if k then 1 else 0)) H) ju:=fun c δ S σ T H ds vs d Q l s e k => by
 unfold ju at e
 split at e
 ·cases e
  obtain ⟨v,rfl,r⟩:=r6 (s.st.left l)
  cases r.int
  exact .inl ⟨_,rfl,k _ _ (s.stk (.cons .mkI (s.st.right l)))⟩
 ·cases e
  obtain ⟨v,rfl,r⟩:=r6 (s.st.left l)
  cases r.bl
  exact .inr ⟨_,rfl,k _ _ (s.stk (.cons .mkI (s.st.right l)))⟩
 ·cases e
theorem ud (hm:X.mg "int" = none) (ha:DA X [a] fs) (hg:Gl X "int":=by rfl) (he:starEach [a] X.env = [(false,eval a X.env)]:=by rfl):DE X (.Call (.Name "int" p) [a] [] pos) (mC ju fs) :=
 oQ vW AA hg hm (by decide +kernel) ha (by decide) (by decide) he rfl
theorem yX {x:Str} {i:Int} {t:Tok} (hm:X.mg x = some (.int i t)) (hg:Gl X x:=by rfl) (hd:(x == ("__debug__":Str)) = false:=by decide):DE X (.Name x pos) (pure (.int i)):=G0 (B5 (v:=.int i) hg hm ⟨t,rfl⟩ hd) fun _ => .mkI
end
def tF:Sp:=fun vs H Q _ => ∃ (a:Addr) (ns:List Int),vs = [.ref a] ∧ Rd H a (.lst (ns.map V.int)) ∧ ns.length ≤ 63 ∧ (∀ i ∈ ns,Builtin.Int.intBits i ≤ 2 ^ 20) ∧ ∀ H',Q (.bl true) H'
section
variable {P:Program} {w:World} {K:PySem.W.Frag} {mg:Str -> Option Value} {base:Heap} {k:Nat} {f:Addr} {fd:FuncData} {ps:List Str} {CX:r0}
theorem Cf {mf:List D -> Option D} (F:dW P w K mg base dg k f fd ps (iZ 1 mf)) (h:∀ ns:List Int,ns.length ≤ 63 -> (∀ i ∈ ns,Builtin.Int.intBits i ≤ 2 ^ 20) -> mf [.lst (ns.map .int)] = some (.bl true)):dW P w K mg base dg k f fd ps tF:=F.imp fun vs H Q E ⟨a,ns,ev,hr,hl,hb,q⟩ => by
 subst ev
 refine ⟨rfl,fun _ => none,[.lst (ns.map .int)],.bl true,(fun a o z => nomatch z),.cons (.mkL (Rd.mono (fun b o e => eY.mpr ⟨(fun ⟨_,z⟩ => nomatch z),e⟩) hr) (jY ns)) .nil,h ns hl hb,fun v H' g r => ?_⟩
 rw [r.bl]
 exact q H'
end
end Jt
namespace Jt
open PySem PySem.W PySem.Calls PyProof.Rows L2
theorem y_ {ns:List Int} (h:WData.layableAll [WData.list (ns.map WData.int)] = true):∀ i ∈ ns,Builtin.Int.intBits i ≤ 2 ^ 20:=fun i hi => by
 have h1:=layableW_arg h _ List.mem_cons_self
 have h2:=layableW_item h1 (.int i) (List.mem_map.mpr ⟨i,hi,rfl⟩)
 have h3:=lay0_int h2
 have h4:PyData.layable0 (.int i) = true:=by simpa [PyData.layableAll0] using h3
 exact PyData.bits_of_layable h4
theorem walkB {l:PySem.W.OpenLaw} {q:Program} {loose:List Str} {XP:(Str -> Option Value) -> Heap -> Prop} {YP:World -> Heap -> Prop} {d:DefRec} {K:Params -> PySem.W.Frag} {k:Nat} (hn:l.most = some 63) (hdf:d.params.defaults = []) (hr:cX k callerA)
  (hY:∀ (w:World) (h:Heap),YP w h -> (K w.params).In h) (hL:∀ w:World,CQ (K w.params) = true)
  (F:∀ (w:World) (mg:Str -> Option Value) (fa:Addr) (h:Heap),(K w.params).In h -> h.Ns mainGlobals mg -> mg d.name = some (.ref fa) ->
   ∃ fd:FuncData,(∀ (s:Shared) (u:Value),BindsTo s fd ⟨[u],[]⟩ [("_law_script",u)]) ∧ ∀ base:Heap,(K w.params).In base -> base.Ns mainGlobals mg -> dW l.prog w (K w.params) mg base dg k fa fd ["_law_script"] tF) :
  PySem.W.WalkO q loose XP YP l.row.toRowW d [] (fun f vs => PySem.call f vs):= by
 intro w s₀ s₁ mg mb G Y fa o pm cd doc dV kV ho hd hcd hD hmg hg args vals as hpre hlay hrd hwl hlo
 obtain rfl:dV = .none:=Dflts.none hD hdf
 obtain rfl:kV = .none:=Dflts.noKw hD
 obtain ⟨a,vs,ns,rfl,rfl,hobj,hints,hlen⟩:=Att.script_of hn hpre hwl
 have KX:=hY w _ Y
 obtain ⟨fd,hb,hF⟩:=F w mg fa _ KX G.T.g hmg
 have bits:=y_ hlay
 refine enter_call (codeAny_mono (rh KX G.T.g G.T.b G.T.builtins G.T.nolimit hg hobj hints (Nat.le_trans hlen (by decide)) hr hF hb (fun H hO hS => ⟨a,ns,rfl,Gk (hL w) hS,hlen,bits,fun _ => rfl⟩) fun H e s' z => z) fun r s' hq => ?_)
 obtain ⟨rfl,h2,h3,h4⟩:=hq
 exact ⟨.inl ⟨.bool true,.bool true,[],rfl,fun _ => rfl,.bool true,Att.post_true l _,fun _ => ⟨List.Pairwise.nil,fun _ hm => (nomatch hm)⟩⟩,h2,h3,h4⟩
end Jt
namespace L2
open PySem PySem.Spec PyProof.Rows
abbrev tests (ifs:List Expr) (env:Env):Sem Bool:=forIn ifs true fun c r => if r = true then do let ok <- isTrue c env (eval c env); pure (ForInStep.yield ok) else pure (ForInStep.yield r)
section
variable {prog:Program} {w:World} {A:Around} {R:Result -> Shared -> Prop} {s:Shared} {elt t1 i1 t2 i2:Expr} {ifs1 ifs2:List Expr} {scope:Scope} {pos:Pos} {it acc:Value} {env:Env}
abbrev two (elt t1 i1:Expr) (ifs1:List Expr) (t2 i2:Expr) (ifs2:List Expr) (scope:Scope) (pos:Pos):Expr:=.ListComp elt [⟨t1,i1,ifs1,0⟩,⟨t2,i2,ifs2,0⟩] scope pos
end
section
variable {Y:Cx} {elt t1 i1 t2 i2:Expr} {ifs1 ifs2:List Expr} {scope:Scope} {pos:Pos} {wi:TI} {g:TG} {tt:TT} {te:TE}
end
section
variable {X:Cx} {elt t1 i1 t2 i2:Expr} {ifs1 ifs2:List Expr} {scope:Scope} {pos pos':Pos} {N' own:List Str} {wi wi2:TI} {g g2:TG} {tt tt2:TT} {te:TE}
end
end L2
namespace Jt
open PySem L2
section
variable {X:Cx} {elt t1 i1 t2 i2:Expr} {te:M D} {pos:Pos} {tt tt2:M Bool} {fi fi2:M k_} {gt gt2:D -> M Unit}
variable {N' own:List Str} {scope:Scope} {ifs1 ifs2:List Expr} {lo:Nat}
end
end Jt
namespace Jt
open PySem L2
section
variable {X:Cx} {a ie:Expr} {fF:M (List D)} {fb:M D} {x:Str} {p apos cpos pos psub:Pos}
end
section
open PySem.Spec PyProof.Rows
variable {X:Cx} {e:Expr} {te:TE} {fa:M D} {j:Nat} {pos p2 p3 p4:Pos}
end
section
variable {δ:DS}
end
end Jt
namespace Jt
open PySem L2
section
variable {X:Cx} {a:Expr} {fs:M (List D)} {p pos:Pos}
end
end Jt
namespace Jt
open PySem L2
mutual
def py:D -> PyData
 | .non => .none
 | .bl b => .bool b
 | .int i => .int i
 | .str x => .str x
 | .tup xs => .tuple (IX xs)
 | .lst xs => .list (IX xs)
 | .dct => .dict []
def IX:List D -> List PyData
 | [] => []
 | d :: r => py d :: IX r
end
section
variable {X:Cx} {a:Expr} {fs:M (List D)} {p pos:Pos}
end
end Jt
namespace Jt
open PySem L2 PySem.Spec PyProof.Rows
section
variable {prog:Program} {w:World} {A:Around} {E:Value -> Shared -> Prop} {s:Shared}
end
section
variable {X:Cx} {e:Expr} {te:TE} {fa:M D} {j j0:Nat} {pos p2 p3 p4 p5:Pos}
end
end Jt
namespace Jt
open PySem L2 PySem.Spec PyProof.Rows
section
variable {X:Cx} {e:Expr} {te:TE} {fe:M D} {a b c d:Str} {j1 j2 j3 j4:Nat} {pos p0 p1 p2 p3 p4:Pos}
end
end Jt
namespace Jt
open PySem L2
section
variable {X:Cx} {a e:Expr} {es:List Expr} {fa fe:M D} {fs:M (List D)} {ha' hb':M Hn} {c d x y:Str} {j j1 j2 j3 j4:Nat} {pos p0 p1 p2 p3 p4:Pos}
end
end Jt
namespace Jt
open PySem L2
end Jt
namespace Jt
open PySem L2 PySem.Spec PyProof.Rows
section
variable {prog:Program} {w:World} {A:Around} {E:Value -> Shared -> Prop} {s:Shared}
end
section
variable {X:Cx} {a b:Expr} {fa fb:M D} {pos:Pos}
end
section
variable {X:Cx} {a:Expr} {fs:M (List D)} {p pos:Pos}
end
section
variable {X:Cx} {a b c0:Expr} {fa fb fc:M D} {pos:Pos}
theorem HK {g g':Int -> Int -> V} {h h':Int -> Int -> D} (hg:∀ H i j,R H (h i j) (g i j)) (hg':∀ H i j,R H (h' i j) (g' i j)) (σ:L2.St) (H:Hp) (Q:V -> Hp -> Prop)
  (hq:tM (zU (b9 (fun _ _ => true) h) (b9 (fun _ _ => true) h') fa fb fc) σ H Q):tH (uE g) (uE g') (tM fa) (tM fb) (tM fc) σ H Q:= by
 obtain ⟨c,δ,S,T,d,δ',s,e,k⟩:=hq
 obtain ⟨x,δ1,e1,e⟩:=bind_some e
 obtain ⟨y,δ2,e2,e⟩:=bind_some e
 obtain ⟨z,δ3,e3,e⟩:=bind_some e
 obtain ⟨e4,rfl⟩:=aA e3
 obtain ⟨i,j,rfl,rfl,_,rfl⟩:=eF e4
 refine ⟨c,δ,S,T,.int i,δ1,s,e1,fun v H1 s1 => ⟨c,δ1,.int i :: S,v :: T,.int j,δ2,s1,e2,fun u H2 s2 => ?_⟩⟩
 refine ⟨i,j,s2.st.tail.head.int,s2.st.head.int,?_⟩
 have rg:=hg (fI c δ2 σ H2) i j
 cases hz:h i j with
 | bl q =>
  rw [hz] at e rg
  refine ⟨q,rg.bl,?_⟩
  cases q with
  | true =>
   obtain ⟨w,δ4,e5,e⟩:=bind_some e
   obtain ⟨e6,rfl⟩:=aA e
   rw [if_pos rfl]
   obtain ⟨i',j',ei,rfl,_,rfl⟩:=eF e6
   cases ei
   exact ⟨c,δ2,.int j :: .int i :: S,u :: v :: T,.int j',δ4,s2,e5,fun w' H4 s4 => ⟨j,j',s4.st.tail.head.int,s4.st.head.int,k _ _ (s4.stk (.cons (hg' _ _ _) s4.st.tail.tail.tail))⟩⟩
  | false =>
   obtain ⟨rfl,rfl⟩:=aq e
   rw [if_neg Bool.false_ne_true]
   exact k _ _ (s2.stk (.cons .mkB s2.st.tail.tail))
 | _ => rw [hz] at e; cases e
theorem yE {op op':CmpOp} {g g':Int -> Int -> V} {h h':Int -> Int -> D} (ho:gK X (compareOp op) (uE g)) (ho':gK X (compareOp op') (uE g')) (hg:∀ H i j,R H (h i j) (g i j)) (hg':∀ H i j,R H (h' i j) (g' i j)) (ha:DE X a fa) (hb:DE X b fb) (hc:DE X c0 fc)
  (hm:lastMarks [op,op'] [b,c0] = false:=by with_unfolding_all rfl):DT X (.Compare a [op,op'] [b,c0] pos) (zU (b9 (fun _ _ => true) h) (b9 (fun _ _ => true) h') fa fb fc >>= cQ) :=
 t8 (xI ho ho' ha hb hc hm) fun σ H Q ⟨c,δ,S,T,d,δ',s,e,k⟩ => by
  obtain ⟨x,δ1,e1,e⟩:=bind_some e
  obtain ⟨rfl,rfl⟩:=jC e
  exact HK hg hg' σ H _ ⟨c,δ,S,T,.bl d,δ1,s,e1,fun v H' s' => ⟨d,s'.st.head.bl,k _ s'.pop⟩⟩
theorem AU (ha:DE X a fa) (hb:DE X b fb) (hc:DE X c0 fc) (hm:lastMarks [.LtE,.Lt] [b,c0] = false:=by with_unfolding_all rfl):DT X (.Compare a [.LtE,.Lt] [b,c0] pos) (zU zX oG fa fb fc >>= cQ):=yE De xM (fun _ _ _ => .mkB) (fun _ _ _ => .mkB) ha hb hc hm
end
end Jt
namespace Jt
open PySem
section
variable {prog:Program} {w:World} {A:Around} {E:Value -> Shared -> Prop} {s:Shared} {b1 b2 b:Bool} {l1 l2 q it e:Addr} {xs ys:Array Value} {k:Nat} {z TI TO i1 i2 T:Addr}
abbrev pB (h:Heap) (z TI TO T:Addr) (f:Bool):Prop:=h.get? z = some { cls:=.type "zip",dict:=none,data:=.fields #[rawInt T,.bool f,.bool false,.ref TI,.ref TO],slots:=#[] }
abbrev HX (b1 b2:Bool) (z TI TO T i1 i2 l1 l2:Addr) (xs ys:Array Value) (k:Nat) (h:Heap):Prop :=
 (∃ f,pB h z TI TO T f) ∧ IsPair h TI (.ref i1) (.ref i2) ∧ (∃ a c,IsPair h T a c) ∧ kM b1 h i1 l1 k ∧ kM b2 h i2 l2 k ∧ ka b1 h l1 xs ∧ ka b2 h l2 ys
theorem vi {a:Addr} {o:Obj} {Q:Option Obj -> Shared -> Prop} (h:s.heap.get? a = some o) (hQ:Q (some o) s):wpAny (model prog w) A (loadIfAlive a) Q E s:=fun Γ p hΓ => by
 have:Q (s.heap.get? a) s:=by rw [h]; exact hQ
 exact this
theorem oM {Q:Bool -> Shared -> Prop} {f:Bool} {a c:Value} (hz:pB s.heap z TI TO T f) (hT:IsPair s.heap T a c)
  (hQ:∀ h',pB h' z TI TO T true -> Heap.SameBut z s.heap h' -> Q false { s with heap:=h' }):wpAny (model prog w) A (Builtin.SmallTypes.ownedTupleIsFree (.ref z)) Q E s:= by
 unfold Builtin.SmallTypes.ownedTupleIsFree
 refine wpAny_bind (wpAny_field hz rfl (x:=rawInt T) rfl ?_)
 show wpAny _ _ (loadIfAlive ((T:Int)).toNat >>= _) _ _ _
 rw [Int.toNat_natCast]
 refine wpAny_bind (vi hT ?_)
 show wpAny _ _ (field (.ref z) 1 >>= _) _ _ _
 refine wpAny_bind (wpAny_field hz rfl (x:=.bool f) rfl ?_)
 cases f with
 | true =>
  refine wpAny_bind (wpAny_pure (wpAny_pure (hQ s.heap hz ⟨rfl,fun _ _ => rfl⟩)))
 | false =>
  refine wpAny_bind (wpAny_setField_rec hz (by simp) fun h1 z1 s1 => wpAny_pure (hQ h1 z1 s1))
theorem vq {v1 v2:Value} {Q:Option Value -> Shared -> Prop} (D:uD z TI TO i1 i2 l1 l2) (hTz:T ≠ z) (hTi1:T ≠ i1) (hTi2:T ≠ i2) (st:HX b1 b2 z TI TO T i1 i2 l1 l2 xs ys k s.heap) (hx:xs[k]? = some v1) (hy:ys[k]? = some v2)
  (hQ:∀ h',HX b1 b2 z TI TO T i1 i2 l1 l2 xs ys (k + 1) h' -> IsPair h' s.heap.objs.size v1 v2 -> (∀ c o,c ∉ [z,TO,i1,i2] -> s.heap.get? c = some o -> h'.get? c = some o) -> Q (some (.ref s.heap.objs.size)) { s with heap:=h' }) :
  wpAny (model prog w) A (pyNext (.ref z)) Q E s:= by
 obtain ⟨n1,n2,n3,n4,n5,n6,n7,n8,n9,n10,m1,m2,m3,m4,m5,m6,m7,m8⟩:=D.ne
 obtain ⟨⟨f,hz⟩,hTI,⟨a,c,hTT⟩,q1,q2,p1,p2⟩:=st
 have hT:s.TypeIs (.ref z) "zip":=⟨_,hz,rfl⟩
 unfold pyNext
 refine wpAny_bind (wpAny_attempt (wpAny_callSpecial?_slot (name:=Str.ofString "__next__") hT F.slot_zip_next (wpAny_call_entry F.slot_zip_next hT F.entry_zip_next (?_:wpAny _ _ (field (.ref z) 2 >>= _) _ _ _) (F.args_zip_next_1 _))))
 refine wpAny_bind (wpAny_field hz rfl (x:=.bool false) rfl (?_:wpAny _ _ (field (.ref z) 3 >>= _) _ _ _))
 refine wpAny_bind (wpAny_field hz rfl (x:=.ref TI) rfl (wpAny_bind (wpAny_seqItems hTI rfl (?_:wpAny _ _ (Builtin.SmallTypes.ownedTupleIsFree (.ref z) >>= _) _ _ _))))
 refine wpAny_bind (oM hz hTT fun h1 z1 s1 => ?_)
 simp only [Bool.false_eq_true,if_false]
 simp only [List.forIn_toArray,List.forIn_cons,List.forIn_nil]
 have q1':kM b1 h1 i1 l1 k:=q1.at fun o e => s1.extBut _ _ n3 e
 have p1':ka b1 h1 l1 xs:=p1.at fun o e => s1.extBut _ _ m1 e
 refine wpAny_bind (wpAny_bind (wpAny_bind (wpAny_holding (?_:wpAny _ _ (Builtin.SmallTypes.nextOf (.ref i1) >>= _) _ _ _))))
 refine wpAny_bind (gz (s:={ s with heap:=h1 }) q1' p1' hx fun h2 q2' s2 => wpAny_pure (wpAny_pure ?_))
 refine wpAny_bind (wpAny_bind (wpAny_holding (?_:wpAny _ _ (Builtin.SmallTypes.nextOf (.ref i2) >>= _) _ _ _)))
 refine wpAny_bind (gz (s:={ s with heap:=h2 }) (q2.at fun o e => s2.extBut _ _ n10.symm (s1.extBut _ _ n4 e)) (p2.at fun o e => s2.extBut _ _ m7 (s1.extBut _ _ m5 e)) hy fun h3 q3' s3 => wpAny_pure (wpAny_pure (wpAny_pure ?_)))
 refine (?_:wpAny _ _ (newTuple [v1,v2] >>= _) _ _ _)
 refine wpAny_bind (wpAny_newTuple ?_)
 have hsz:h3.objs.size = s.heap.objs.size:=by rw [s3.1,s2.1,s1.1]
 have up3:∀ c o,c ∉ [z,TO,i1,i2] -> s.heap.get? c = some o -> h3.get? c = some o:=fun c o hc e => by
  simp only [List.mem_cons,List.not_mem_nil,or_false,not_or] at hc
  exact s3.extBut _ _ hc.2.2.2 (s2.extBut _ _ hc.2.2.1 (s1.extBut _ _ hc.1 e))
 have z3:pB h3 z TI TO T true:=s3.extBut _ _ n4.symm (s2.extBut _ _ n3.symm z1)
 have up:∀ c o,h3.get? c = some o -> (h3.push { cls:=.type "tuple",data:=.seq #[v1,v2] }).get? c = some o:=fun c o e => Heap.get?_push_of_some _ e
 have new:IsPair (h3.push { cls:=.type "tuple",data:=.seq #[v1,v2] }) h3.objs.size v1 v2:=Heap.get?_push_size _ rfl
 rw [hsz] at new ⊢
 refine wpAny_pure ⟨_,rfl,wpAny_pure (hQ _ ⟨⟨true,up _ _ z3⟩,up _ _ (up3 TI _ (by simp [n1,n5,n6,n7]) hTI),⟨a,c,up _ _ (s3.extBut _ _ hTi2 (s2.extBut _ _ hTi1 (s1.extBut _ _ hTz hTT)))⟩,(q2'.at fun o e => up _ _ (s3.extBut _ _ n10 e)),(q3'.at fun o e => up _ _ e),(p1.at fun o e => up _ _ (up3 l1 _ D.n1 e)),(p2.at fun o e => up _ _ (up3 l2 _ D.n2 e))⟩ new fun c o hc e => up _ _ (up3 c o hc e))⟩
theorem zE {Q:Option Value -> Shared -> Prop} (hh:A.handled = none) (D:uD z TI TO i1 i2 l1 l2) (hTz:T ≠ z) (hTi1:T ≠ i1) (hTi2:T ≠ i2) (st:HX b1 b2 z TI TO T i1 i2 l1 l2 xs ys k s.heap) (hx:xs[k]? = none ∨ ys[k]? = none)
  (hQ:∀ h',(∀ c o,c ∉ [z,TO,i1,i2] -> s.heap.get? c = some o -> h'.get? c = some o) -> Q none { s with heap:=h' }):wpAny (model prog w) A (pyNext (.ref z)) Q E s:= by
 obtain ⟨n1,n2,n3,n4,n5,n6,n7,n8,n9,n10,m1,m2,m3,m4,m5,m6,m7,m8⟩:=D.ne
 obtain ⟨⟨f,hz⟩,hTI,⟨a,c,hTT⟩,q1,q2,p1,p2⟩:=st
 have hT:s.TypeIs (.ref z) "zip":=⟨_,hz,rfl⟩
 have fin:∀ (h:Heap) (e:Addr),(∀ c o,c ∉ [z,TO,i1,i2] -> s.heap.get? c = some o -> h.get? c = some o) -> (∃ o,h.get? e = some o ∧ o.cls = .type "StopIteration") ->
   wpAny (model prog w) A (do if <- isInstance (Value.ref e) (.type "StopIteration") then pure (none:Option Value) else throw (Value.ref e)) Q E { s with heap:=h }:=fun h e kp he => by
  obtain ⟨o,ho,hc⟩:=he
  exact wpAny_bind (wpAny_isInstance (T:="StopIteration") (b:=true) ⟨o,ho,hc⟩ isSubtype_stop (wpAny_pure (hQ h kp)))
 unfold pyNext
 refine wpAny_bind (wpAny_attempt (wpAny_callSpecial?_slot (name:=Str.ofString "__next__") hT F.slot_zip_next (wpAny_call_entry F.slot_zip_next hT F.entry_zip_next (?_:wpAny _ _ (field (.ref z) 2 >>= _) _ _ _) (F.args_zip_next_1 _))))
 refine wpAny_bind (wpAny_field hz rfl (x:=.bool false) rfl (?_:wpAny _ _ (field (.ref z) 3 >>= _) _ _ _))
 refine wpAny_bind (wpAny_field hz rfl (x:=.ref TI) rfl (wpAny_bind (wpAny_seqItems hTI rfl (?_:wpAny _ _ (Builtin.SmallTypes.ownedTupleIsFree (.ref z) >>= _) _ _ _))))
 refine wpAny_bind (oM hz hTT fun h1 z1 s1 => ?_)
 simp only [Bool.false_eq_true,if_false]
 simp only [List.forIn_toArray,List.forIn_cons,List.forIn_nil]
 have q1':kM b1 h1 i1 l1 k:=q1.at fun o e => s1.extBut _ _ n3 e
 have p1':ka b1 h1 l1 xs:=p1.at fun o e => s1.extBut _ _ m1 e
 refine wpAny_bind (wpAny_bind (wpAny_bind (wpAny_holding (?_:wpAny _ _ (Builtin.SmallTypes.nextOf (.ref i1) >>= _) _ _ _))))
 cases hxk:xs[k]? with
 | none =>
  refine wpAny_bind (mr (s:={ s with heap:=h1 }) (by simpa using hh) q1' p1' hxk fun h2 e kp he => ?_)
  refine fin h2 e (fun c o hc e' => ?_) he
  simp only [List.mem_cons,List.not_mem_nil,or_false,not_or] at hc
  exact kp _ _ hc.2.2.1 (s1.extBut _ _ hc.1 e')
 | some v1 =>
  have hy:ys[k]? = none:= by
   rcases hx with h | h
   ·rw [hxk] at h; cases h
   ·exact h
  refine wpAny_bind (gz (s:={ s with heap:=h1 }) q1' p1' hxk fun h2 q2' s2 => wpAny_pure (wpAny_pure ?_))
  refine wpAny_bind (wpAny_bind (wpAny_holding (?_:wpAny _ _ (Builtin.SmallTypes.nextOf (.ref i2) >>= _) _ _ _)))
  refine wpAny_bind (mr (s:={ s with heap:=h2 }) (by simpa using hh) (q2.at fun o e => s2.extBut _ _ n10.symm (s1.extBut _ _ n4 e)) (p2.at fun o e => s2.extBut _ _ m7 (s1.extBut _ _ m5 e)) hy fun h3 e kp he => ?_)
  refine fin h3 e (fun c o hc e' => ?_) he
  simp only [List.mem_cons,List.not_mem_nil,or_false,not_or] at hc
  exact kp _ _ hc.2.2.2 (s2.extBut _ _ hc.2.2.1 (s1.extBut _ _ hc.1 e'))
def Zk (b1 b2:Bool) (S z TI TO i1 i2 l1 l2:Addr) (xs ys:Array Value) (k:Nat) (h:Heap):Prop :=
 (k = 0 ∧ t6 b1 b2 z TI TO i1 i2 l1 l2 xs ys 0 .none h) ∨ (0 < k ∧ ∃ T,T ≠ S ∧ T ≠ z ∧ T ≠ i1 ∧ T ≠ i2 ∧ HX b1 b2 z TI TO T i1 i2 l1 l2 xs ys k h)
def G9 (N0 S:Addr) (xs ys:Array Value) (k:Nat) (acc:Array Value) (h:Heap):Prop :=
 acc.size = k ∧ (∀ j,j < k -> ∃ a x y,acc[j]? = some (.ref a) ∧ xs[j]? = some x ∧ ys[j]? = some y ∧ IsPair h a x y ∧ N0 ≤ a ∧ a ≠ S) ∧ ∀ i j a b,i < j -> j < k -> acc[i]? = some (.ref a) -> acc[j]? = some (.ref b) -> a ≠ b
theorem Zk.keep {S:Addr} {h h':Heap} (x:Zk b1 b2 S z TI TO i1 i2 l1 l2 xs ys k h) (hS:S ∉ [z,TI,TO,i1,i2,l1,l2]) (e:∀ c,c ≠ S -> ∀ o,h.get? c = some o -> h'.get? c = some o):Zk b1 b2 S z TI TO i1 i2 l1 l2 xs ys k h':= by
 have e':∀ c ∈ [z,TI,TO,i1,i2,l1,l2],∀ o,h.get? c = some o -> h'.get? c = some o:=fun c hc o q => e c (fun z => hS (z ▸ hc)) o q
 rcases x with ⟨h0,x⟩ | ⟨h0,T,t1,t2,t3,t4,⟨f,x1⟩,x2,⟨a,c,x3⟩,x4,x5,x6,x7⟩
 ·exact .inl ⟨h0,t6.keep x e'⟩
 ·exact .inr ⟨h0,T,t1,t2,t3,t4,⟨f,e' z (by simp) _ x1⟩,e' TI (by simp) _ x2,⟨a,c,e T t1 _ x3⟩,x4.at (e' i1 (by simp)),x5.at (e' i2 (by simp)),x6.at (e' l1 (by simp)),x7.at (e' l2 (by simp))⟩
theorem Bq {S:Addr} {v1 v2:Value} {Q:Option Value -> Shared -> Prop} (D:uD z TI TO i1 i2 l1 l2) (hS:S < s.heap.objs.size) (st:Zk b1 b2 S z TI TO i1 i2 l1 l2 xs ys k s.heap) (hx:xs[k]? = some v1) (hy:ys[k]? = some v2)
  (hQ:∀ h',Zk b1 b2 S z TI TO i1 i2 l1 l2 xs ys (k + 1) h' -> IsPair h' s.heap.objs.size v1 v2 -> (∀ c o,c ∉ [z,TO,i1,i2] -> s.heap.get? c = some o -> h'.get? c = some o) -> Q (some (.ref s.heap.objs.size)) { s with heap:=h' }) :
  wpAny (model prog w) A (pyNext (.ref z)) Q E s:= by
 rcases st with ⟨rfl,st⟩ | ⟨h0,T,t1,t2,t3,t4,st⟩
 ·have hz:=st.1
  have l1':=st.2.2.2.1.lt
  have l2':=st.2.2.2.2.1.lt
  have lz:z < s.heap.objs.size:=Heap.lt_size hz
  refine rJ D st hx hy fun h' st' np kp => hQ h' (.inr ⟨Nat.zero_lt_one,s.heap.objs.size,Nat.ne_of_gt hS,Nat.ne_of_gt lz,Nat.ne_of_gt l1',Nat.ne_of_gt l2',?_⟩) np kp
  obtain ⟨x1,x2,x3,x4,x5,x6,x7⟩:=st'
  exact ⟨⟨false,x1⟩,x2,⟨_,_,np⟩,x4,x5,x6,x7⟩
 ·exact vq D t2 t3 t4 st hx hy fun h' st' np kp => hQ h' (.inr ⟨Nat.succ_pos _,T,t1,t2,t3,t4,st'⟩) np kp
theorem Fy {S:Addr} {Q:Option Value -> Shared -> Prop} (hh:A.handled = none) (D:uD z TI TO i1 i2 l1 l2) (st:Zk b1 b2 S z TI TO i1 i2 l1 l2 xs ys k s.heap) (hx:xs[k]? = none ∨ ys[k]? = none)
  (hQ:∀ h',(∀ c o,c ∉ [z,TO,i1,i2] -> s.heap.get? c = some o -> h'.get? c = some o) -> Q none { s with heap:=h' }):wpAny (model prog w) A (pyNext (.ref z)) Q E s:= by
 rcases st with ⟨rfl,st⟩ | ⟨h0,T,t1,t2,t3,t4,st⟩
 ·exact uo hh D st hx hQ
 ·exact zE hh D t2 t3 t4 st hx hQ
theorem zu {R:Result -> Shared -> Prop} {N0 S:Addr} {n:Nat} (hh:A.handled = none) (D:uD z TI TO i1 i2 l1 l2) (hS:S ∉ [z,TI,TO,i1,i2,l1,l2]) (hn:n = min xs.size ys.size) (hn2:n ≤ sizeLine) (h0:∀ c ∈ [z,TO,i1,i2],c < N0) (res:Value) :
  ∀ (m k:Nat) (s:Shared) (acc:Array Value) (c:Nat),n - k = m -> k ≤ n -> N0 ≤ s.heap.objs.size -> Zk b1 b2 S z TI TO i1 i2 l1 l2 xs ys k s.heap -> s.heap.get? S = some { cls:=.type "list",dict:=none,data:=.seq acc c,slots:=#[] } -> G9 N0 S xs ys k acc s.heap ->
  (∀ h' acc' c',(∀ b o,b ∉ [S,z,TO,i1,i2] -> s.heap.get? b = some o -> h'.get? b = some o) -> h'.get? S = some { cls:=.type "list",dict:=none,data:=.seq acc' c',slots:=#[] } -> G9 N0 S xs ys n acc' h' -> R (.ok (.ret res)) { s with heap:=h' }) ->
  codeAny (model prog w) A (.builtin "list.extend.loop" ⟨[.ref S,.ref z,res],[]⟩) R s:= by
 have hSw:S ∉ [z,TO,i1,i2]:=fun h => hS (by simp only [List.mem_cons,List.not_mem_nil,or_false] at h ⊢; rcases h with h | h | h | h <;> simp [h])
 intro m
 induction m with
 | zero =>
  intro k s acc c hk hle hN hst hSo hacc hR
  have hin:k = n:=by omega
  subst hin
  refine codeAny_builtin F.entry_extend_loop ?_
  rw [Around.under_plainId F.plain_extend_loop _]
  show wpAny _ A.in1 (pyNext (.ref z) >>= _) _ _ s
  have hx:xs[k]? = none ∨ ys[k]? = none:= by
   rcases Nat.le_total xs.size ys.size with h | h
   ·exact .inl (by rw [hn,Nat.min_eq_left h]; exact Array.getElem?_eq_none (Nat.le_refl _))
   ·exact .inr (by rw [hn,Nat.min_eq_right h]; exact Array.getElem?_eq_none (Nat.le_refl _))
  refine wpAny_bind (Fy (by simpa using hh) D hst hx fun h' kp => ?_)
  refine wpAny_pure (hR h' acc c (fun b o hb e => kp b o (fun z => hb (List.mem_cons_of_mem _ z)) e) (kp S _ hSw hSo) ⟨hacc.1,fun j hj => ?_,hacc.2.2⟩)
  obtain ⟨a,x,y,e1,e2,e3,e4,e5,e6⟩:=hacc.2.1 j hj
  exact ⟨a,x,y,e1,e2,e3,kp a _ (fun z => Nat.not_le_of_lt (h0 a z) e5) e4,e5,e6⟩
 | succ m ih =>
  intro k s acc c hk hle hN hst hSo hacc hR
  have hlt:k < n:=by omega
  refine codeAny_builtin F.entry_extend_loop ?_
  rw [Around.under_plainId F.plain_extend_loop _]
  show wpAny _ A.in1 (pyNext (.ref z) >>= _) _ _ s
  have hix:k < xs.size:=Nat.lt_of_lt_of_le hlt (hn ▸ Nat.min_le_left ..)
  have hiy:k < ys.size:=Nat.lt_of_lt_of_le hlt (hn ▸ Nat.min_le_right ..)
  refine wpAny_bind (Bq D (Heap.lt_size hSo) hst (Array.getElem?_eq_getElem hix) (Array.getElem?_eq_getElem hiy) fun h' st' np kp => ?_)
  have hSo':=kp S _ hSw hSo
  show wpAny _ A.in1 (updateSeq S (·.push (.ref s.heap.objs.size)) >>= _) _ _ _
  have hSl:S < s.heap.objs.size:=Heap.lt_size hSo
  have oth:∀ b o,b ≠ S -> h'.get? b = some o -> (h'.update S (Obj.mapSeq (·.push (Value.ref s.heap.objs.size)))).get? b = some o:=fun b o hb e => (Heap.get?_update_other _ _ (Ne.symm hb)).trans e
  have np':=oth _ _ (Nat.ne_of_gt hSl) np
  refine wpAny_bind ?_
  refine wpAny_updateSeq hSo' rfl (wpAny_pure ⟨plainId_quiet F.plain_extend_loop _,ih (k + 1) { s with heap:=h'.update S (Obj.mapSeq (·.push (Value.ref s.heap.objs.size))) } (acc.push (.ref s.heap.objs.size)) _ (by omega) hlt (Nat.le_of_lt (Nat.lt_of_le_of_lt hN (Heap.lt_size np'))) (st'.keep hS fun c hc o e => oth c o hc e) (Heap.get?_update_self _ hSo' rfl) ⟨by rw [Array.size_push,hacc.1],fun j hj => ?_,fun i j a b hij hj ea eb => ?_⟩ fun h'' acc' c' kp'' hS'' hz'' => ?_⟩)
   (by rw [hacc.1]; omega) (by show (acc.push (Value.ref s.heap.objs.size)).size ≤ sizeLine + 1; rw [Array.size_push,hacc.1]; omega)
  ·by_cases e:j = k
   ·subst e
    exact ⟨s.heap.objs.size,_,_,by rw [<- hacc.1]; exact Array.getElem?_push_size,Array.getElem?_eq_getElem hix,Array.getElem?_eq_getElem hiy,np',hN,Nat.ne_of_gt hSl⟩
   ·obtain ⟨a,x,y,e1,e2,e3,e4,e5,e6⟩:=hacc.2.1 j (by omega)
    refine ⟨a,x,y,?_,e2,e3,oth _ _ e6 (kp a _ (fun z => Nat.not_le_of_lt (h0 a z) e5) e4),e5,e6⟩
    rw [Array.getElem?_push,if_neg (by rw [hacc.1]; omega)]
    exact e1
  ·rw [Array.getElem?_push,if_neg (by rw [hacc.1]; omega)] at ea
   by_cases e:j = k
   ·subst e
    rw [show j = acc.size from hacc.1.symm,Array.getElem?_push_size] at eb
    cases eb
    obtain ⟨a',x,y,e1,_,_,e4,_⟩:=hacc.2.1 i hij
    rw [e1] at ea
    cases ea
    exact Nat.ne_of_lt (Heap.lt_size e4)
   ·rw [Array.getElem?_push,if_neg (by rw [hacc.1]; omega)] at eb
    exact hacc.2.2 i j a b hij (by omega) ea eb
  ·refine hR h'' acc' c' (fun b o hb e => ?_) hS'' hz''
   exact kp'' b o hb (oth b o (fun z => hb (by rw [z]; simp)) (kp b o (fun z => hb (List.mem_cons_of_mem _ z)) e))
theorem sJ:typeLookup (.type "zip") "__len__" = pure none:=by rw [typeLookup_type,builtinLookup_eq_fast]; kernel_rfl
theorem qB:typeLookup (.type "zip") "__length_hint__" = pure none:=by rw [typeLookup_type,builtinLookup_eq_fast]; kernel_rfl
theorem tp {R:Result -> Shared -> Prop} {N0 S:Addr} (hh:A.handled = none) (D:uD z TI TO i1 i2 l1 l2) (hS:S ∉ [z,TI,TO,i1,i2,l1,l2]) (hn2:min xs.size ys.size ≤ sizeLine) (h0:∀ c ∈ [z,TO,i1,i2],c < N0) (hN:N0 ≤ s.heap.objs.size) (res:Value) (c₀:Nat)
  (st:t6 b1 b2 z TI TO i1 i2 l1 l2 xs ys 0 .none s.heap) (hSo:s.heap.get? S = some { cls:=.type "list",data:=.seq #[] c₀ })
  (hR:∀ h' acc' c',(∀ b o,b ∉ [S,z,TO,i1,i2] -> s.heap.get? b = some o -> h'.get? b = some o) -> h'.get? S = some { cls:=.type "list",dict:=none,data:=.seq acc' c',slots:=#[] } -> G9 N0 S xs ys (min xs.size ys.size) acc' h' -> R (.ok (.ret res)) { s with heap:=h' }) :
  wpAny (model prog w) A.in1 (Builtin.List.listExtendWith (.ref S) (.ref z) res)
   (fun fin s' => match fin with | .done f => R (.ok f) s' | .again c' => c'.quiet = true ∧ codeAny (model prog w) A c' R s') (fun e s' => R (.error e) s') s:= by
 have hSz:S ≠ z:=fun e => hS (by rw [e]; simp)
 have hT:s.TypeIs (.ref z) "zip":=⟨_,st.1,rfl⟩
 unfold Builtin.List.listExtendWith
 refine wpAny_bind (wpAny_typeOf hT ?_)
 have h1:Builtin.List.listSameRef (.ref S) (.ref z) = false:=by simp [Builtin.List.listSameRef,hSz]
 have h2:(Value.type "zip" == Value.type "list") = false:=by decide
 have h3:(Value.type "zip" == Value.type "tuple") = false:=by decide
 simp only [h1,h2,h3,Bool.or_false,Bool.false_eq_true,if_false]
 refine wpAny_bind (wpAny_pyIter_zip st.1 ?_)
 refine wpAny_bind (wpAny_holding ?_)
 unfold Builtin.List.listLengthHint
 refine wpAny_bind (wpAny_specialOf hT sJ ?_)
 show wpAny _ A.in1 (specialOf (Value.ref z) (Str.ofString "__length_hint__") >>= _) _ _ _
 refine wpAny_bind (wpAny_specialOf hT qB ?_)
 refine wpAny_pure ?_
 show wpAny _ A.in1 (rule "list.extend.makes-room" >>= fun _ => Builtin.List.listTouch (.ref S) >>= fun _ =>
  again (.builtin "list.extend.loop" ⟨[.ref S,.ref z,res],[]⟩)) _ _ _
 refine wpAny_bind (wpAny_rule ?_)
 refine wpAny_bind ?_
 show wpAny _ A.in1 (updateSeq S (·.push .none) >>= fun _ => updateSeq S (·.pop)) _ _ _
 refine wpAny_bind (wpAny_updateSeq hSo rfl ?_)
 have hS₂:=Heap.get?_update_self (Obj.mapSeq (·.push Value.none)) hSo rfl
 refine wpAny_updateSeq (hz:=by seq_fits) hS₂ rfl ?_
 have hS₃:=Heap.get?_update_self (Obj.mapSeq (·.pop)) hS₂ rfl
 have oth:∀ b o,b ≠ S -> s.heap.get? b = some o -> ((s.heap.update S (Obj.mapSeq (·.push Value.none))).update S (Obj.mapSeq (·.pop))).get? b = some o :=
  fun b o hb e => (Heap.get?_update_other _ _ (Ne.symm hb)).trans ((Heap.get?_update_other _ _ (Ne.symm hb)).trans e)
 have hsz:((s.heap.update S (Obj.mapSeq (·.push Value.none))).update S (Obj.mapSeq (·.pop))).objs.size = s.heap.objs.size:= by
  rw [(Heap.SameBut.update (s.heap.update S (Obj.mapSeq (·.push Value.none))) S _).1,(Heap.SameBut.update s.heap S _).1]
 refine wpAny_pure ⟨plainId_quiet F.plain_extend_loop _,zu hh D hS rfl hn2 h0 res (min xs.size ys.size) 0 { s with heap:=(s.heap.update S (Obj.mapSeq (·.push Value.none))).update S (Obj.mapSeq (·.pop)) } _ _ rfl (Nat.zero_le _) (by show N0 ≤ Array.size _; rw [hsz]; exact hN)
  (.inl ⟨rfl,t6.keep st fun c hc o e => oth c o (fun z => hS (z ▸ hc)) e⟩) hS₃ ⟨rfl,fun j hj => absurd hj (Nat.not_lt_zero j),fun i j a b _ hj => absurd hj (Nat.not_lt_zero j)⟩ fun h' acc' c' kp hS' hz => ?_⟩
 exact hR h' acc' c' (fun b o hb e => kp b o hb (oth b o (fun z => hb (by rw [z]; simp)) e)) hS' hz
theorem xE {R:Result -> Shared -> Prop} {N0 S:Addr} (hh:A.handled = none) (D:uD z TI TO i1 i2 l1 l2) (hS:S ∉ [z,TI,TO,i1,i2,l1,l2]) (hn2:min xs.size ys.size ≤ sizeLine) (h0:∀ c ∈ [z,TO,i1,i2],c < N0) (hN:N0 ≤ s.heap.objs.size)
  (st:t6 b1 b2 z TI TO i1 i2 l1 l2 xs ys 0 .none s.heap) (hSo:s.heap.get? S = some { cls:=.type "list",data:=.seq #[] })
  (hR:∀ h' acc' c',(∀ b o,b ∉ [S,z,TO,i1,i2] -> s.heap.get? b = some o -> h'.get? b = some o) -> h'.get? S = some { cls:=.type "list",dict:=none,data:=.seq acc' c',slots:=#[] } -> G9 N0 S xs ys (min xs.size ys.size) acc' h' -> R (.ok (.ret .none)) { s with heap:=h' }) :
  wpAny (model prog w) A.in1 (Builtin.«list.__init__» ⟨[.ref S,.ref z],[]⟩)
   (fun fin s' => match fin with | .done f => R (.ok f) s' | .again c' => c'.quiet = true ∧ codeAny (model prog w) A c' R s') (fun e s' => R (.error e) s') s:= by
 show wpAny _ A.in1 (do let old <- Builtin.List.listItems (.ref S); Builtin.List.listUpdate (.ref S) (fun _ => #[]); letGo old.toList.reverse; Builtin.List.listExtendWith (.ref S) (.ref z) .none) _ _ s
 refine wpAny_bind ?_
 unfold Builtin.List.listItems
 refine wpAny_bind (wpAny_seqItems hSo rfl (wpAny_pure ?_))
 show wpAny _ A.in1 (updateSeq S (fun _ => #[]) >>= fun _ => letGo (#[]:Array Value).toList.reverse >>= fun _ => Builtin.List.listExtendWith (.ref S) (.ref z) .none) _ _ s
 refine wpAny_bind (wpAny_updateSeq hSo rfl ?_)
 have hS₂:=Heap.get?_update_self (Obj.mapSeq (fun _ => (#[]:Array Value))) hSo rfl
 have oth:∀ b o,b ≠ S -> s.heap.get? b = some o -> (s.heap.update S (Obj.mapSeq (fun _ => (#[]:Array Value)))).get? b = some o :=
  fun b o hb e => (Heap.get?_update_other _ _ (Ne.symm hb)).trans e
 refine wpAny_bind (wpAny_letGo ?_)
 refine tp (s:={ s with heap:=s.heap.update S (Obj.mapSeq (fun _ => (#[]:Array Value))) }) hh D hS hn2 h0 (by show N0 ≤ Array.size _; rw [(Heap.SameBut.update s.heap S _).1]; exact hN) .none _ (t6.keep st fun c hc o e => oth c o (fun z => hS (z ▸ hc)) e) hS₂ fun h' acc' c' kp hS' hacc => ?_
 exact hR h' acc' c' (fun b o hb e => kp b o hb (oth b o (fun z => hb (by rw [z]; simp)) e)) hS' hacc
theorem p9 {Q:Value -> Shared -> Prop} (hh:A.handled = none) (D:uD z TI TO i1 i2 l1 l2) (hn2:min xs.size ys.size ≤ sizeLine) (st:t6 b1 b2 z TI TO i1 i2 l1 l2 xs ys 0 .none s.heap)
  (hQ:∀ h' acc' c',(∀ b o,b ∉ [s.heap.objs.size,z,TO,i1,i2] -> s.heap.get? b = some o -> h'.get? b = some o) -> h'.get? s.heap.objs.size = some { cls:=.type "list",dict:=none,data:=.seq acc' c',slots:=#[] } -> G9 s.heap.objs.size s.heap.objs.size xs ys (min xs.size ys.size) acc' h' -> Q (.ref s.heap.objs.size) { s with heap:=h' }) :
  wpAny (model prog w) A (call (.type "list") [.ref z]) Q E s:= by
 have lt:∀ c ∈ [z,TI,TO,i1,i2,l1,l2],c < s.heap.objs.size:=fun c hc => by
  obtain ⟨x1,x2,⟨_,_,x3⟩,x4,x5,x6,x7⟩:=st
  simp only [List.mem_cons,List.not_mem_nil,or_false] at hc
  rcases hc with rfl | rfl | rfl | rfl | rfl | rfl | rfl
  ·exact Heap.lt_size x1
  ·exact Heap.lt_size x2
  ·exact Heap.lt_size x3
  ·exact x4.lt
  ·exact x5.lt
  ·exact x6.lt
  ·exact x7.lt
 have hSf:s.heap.objs.size ∉ [z,TI,TO,i1,i2,l1,l2]:=fun hm => Nat.lt_irrefl _ (lt _ hm)
 refine callType_codes (Q₁:=fun obj s₁ => obj = .ref s.heap.objs.size ∧ s₁ = { s with heap:=s.heap.push { cls:=.type "list",data:=.seq #[] } }) F.called_list (F.typeCall_list_1 _) F.entry_list_init
  (code_list_new _ ⟨rfl,rfl⟩) fun obj s₁ h₁ => ?_
 obtain ⟨rfl,rfl⟩:=h₁
 have hS:(s.heap.push { cls:=.type "list",data:=.seq #[] }).get? s.heap.objs.size = some { cls:=.type "list",data:=.seq #[] }:=Heap.get?_push_size _ rfl
 refine ⟨⟨_,hS,rfl⟩,F.args_list_init_2 _ _,xE (N0:=s.heap.objs.size) (s:={ s with heap:=s.heap.push { cls:=.type "list",data:=.seq #[] } }) (by simpa using hh) D hSf hn2 (fun c hc => lt c (by simp only [List.mem_cons,List.not_mem_nil,or_false] at hc ⊢; rcases hc with h | h | h | h <;> simp [h])) (by show _ ≤ Array.size _; rw [Heap.size_push]; exact Nat.le_succ _) (t6.keep st fun c _ o e => Heap.get?_push_of_some _ e) hS fun h' acc' c' hm hS' hacc => ?_⟩
 exact ⟨rfl,hQ h' acc' c' (fun b o hb e => hm b o hb (Heap.get?_push_of_some _ e)) hS' hacc⟩
end
end Jt
namespace Jt
open PySem L2
section
variable {X:Cx} {pins:List (Addr × Obj)} {σ:L2.St} {H H':Hp} {s:Shared} {h':Heap}
theorem _root_.L2.Inv.laidM {t':Nat} (I:Inv X pins σ H s) (k:∀ b o,s.heap.get? b = some o -> h'.get? b = some o) (hH:∀ b o,H b = some o -> H' b = some o)
  (new:∀ b u,H' b = some u -> H b = some u ∨ (s.heap.objs.size ≤ b ∧ dM X.prog X.w H' h' b u)):Inv X pins σ H' { s with heap:=h',toks:=t' }:= by
 refine I.un ⟨fun b u q _ _ _ => k b u q,fun b u q _ _ _ => ⟨u.slots,k b u q⟩,fun b u q n _ => ?_,fun b u q _ => ⟨u,k b u q⟩,fun b xs q => hH _ _ q,fun b u xs q => hH _ _ q,fun b ps q => ⟨#[],by rw [hH _ _ q]; simp⟩⟩ fun b u e => ?_
 ·cases e:H' b with
  | none => rfl
  | some o =>
   rcases new b o e with z | ⟨z,_⟩
   ·rw [n] at z; cases z
   ·exact absurd (Heap.lt_size q) (Nat.not_lt_of_le z)
 ·rcases new b u e with z | ⟨_,z⟩
  ·exact (I.hok b u z).stay (fun c v hc q => k c v q) (fun c q => hH _ _ q) fun c xs q => hH _ _ q
  ·exact z
def lB (H:Hp):List (Addr × V × V) -> Hp
 | [] => H
 | (a,x,y) :: r => upd (lB H r) a (.tup [x,y])
theorem mU {b:Addr} {o:HO}:∀ {r:List (Addr × V × V)},(∀ p ∈ r,H p.1 = none) -> H b = some o -> lB H r b = some o
 | [],_,e => e
 | (a,x,y) :: r,hn,e => by
  have ne:b ≠ a:=fun z => by rw [z,hn _ List.mem_cons_self] at e; cases e
  show upd _ _ _ _ = _
  rw [az ne]
  exact mU (fun p hp => hn p (List.mem_cons_of_mem _ hp)) e
theorem qM {b:Addr} {o:HO}:∀ {r:List (Addr × V × V)},lB H r b = some o -> H b = some o ∨ ∃ x y,(b,x,y) ∈ r ∧ o = .tup [x,y]
 | [],e => .inl e
 | (a,x,y) :: r,e => by
  by_cases ne:b = a
  ·subst ne
   have e:upd (lB H r) b (.tup [x,y]) b = some o:=e
   rw [aQ] at e
   cases e
   exact .inr ⟨x,y,List.mem_cons_self,rfl⟩
  ·have e:upd (lB H r) a (.tup [x,y]) b = some o:=e
   rw [az ne] at e
   rcases qM e with z | ⟨x',y',hm,z⟩
   ·exact .inl z
   ·exact .inr ⟨x',y',List.mem_cons_of_mem _ hm,z⟩
end
section
variable {X:Cx} {a b:Expr} {p p2 pos pos2:Pos}
def JM (K:PySem.W.Frag) (ta:TA):TE:=fun σ H Q => ta σ H fun vs H1 => ∃ b1 b2 l1 l2 xs ys,vs = [.ref l1,.ref l2] ∧ Sq b1 K H1 l1 xs ∧ Sq b2 K H1 l2 ys ∧
 ∀ (l:Addr) (r:List (Addr × V × V)),H1 l = none -> (∀ p ∈ r,H1 p.1 = none ∧ p.1 ≠ l) -> (r.map (·.1)).Nodup -> r.map (·.2) = xs.zip ys -> Q (.ref l) (upd (lB H1 r) l (.lst (r.map fun p => .ref p.1)))
theorem sQ {ta:TA} (hgl:Gl X "list") (hml:X.mg "list" = none) (hgz:Gl X "zip") (hmz:X.mg "zip" = none) (hc:X.calm = true) (ha:PA X [a,b] ta)
  (hz0:starEach [.Call (.Name "zip" p2) [a,b] [] pos2] X.env = [(false,eval (.Call (.Name "zip" p2) [a,b] [] pos2) X.env)]:=by rfl)
  (hs:starEach [a,b] X.env = [(false,eval a X.env),(false,eval b X.env)]:=by rfl) (hs2:starEach [b] X.env = [(false,eval b X.env)]:=by rfl) :
  PE X (.Call (.Name "list" p) [.Call (.Name "zip" p2) [a,b] [] pos2] [] pos) (JM X.K ta):= by
 intro pins s σ H Q I h
 refine wpAny_Call_Name_kw (gq I hgl hml (show bootBuiltins "list" = some (.type "list") by decide +kernel) ?_)
 refine PyProof.Rows.callWith_type1 ?_ hz0 rfl
 rw [hz0]
 show wpAny _ _ (spliced ((false,eval (.Call (.Name "zip" p2) [a,b] [] pos2) X.env) :: backTo pos [])) _ _ s
 refine Calls.spliced_cons ?_
 refine PyProof.Rows.Call_ (gq I hgz hmz (show bootBuiltins "zip" = some (.type "zip") by decide +kernel) (PyProof.Rows.callWith_type1 (cT (ha pos2 pins s σ H _ I h) fun us s1 ⟨vs,H1,I1,r1,q1⟩ => ?_) (by rw [hs,hs2]) (by rw [hs2]; rfl)))
 obtain ⟨b1,b2,l1,l2,xs,ys,e,h1,h2,q⟩:=q1
 subst e
 obtain ⟨u1,u2,rfl,ru1,ru2⟩:=r1.two
 cases ru1
 cases ru2
 obtain ⟨i1s,rv1,p1⟩:=I1.sq h1
 obtain ⟨i2s,rv2,p2⟩:=I1.sq h2
 refine uW p1 p2 fun h' z TI TO i1 i2 D st kp hnew => ?_
 refine Calls.spliced_nil ?_
 have hh:X.A.handled = none:=I1.ok.hd hc
 have hz1:xs.length ≤ sizeLine:= by
  cases b1 with
  | true => obtain ⟨_,_,_,hz⟩:=I1.tuple h1; exact hz
  | false => obtain ⟨_,_,_,hz⟩:=I1.list h1; exact hz
 have ln1:xs.length = i1s.length:=rv1.length
 have ln2:ys.length = i2s.length:=rv2.length
 have hmin:min i1s.toArray.size i2s.toArray.size ≤ sizeLine:=Nat.le_trans (Nat.min_le_left ..) (by rw [List.size_toArray,<- ln1]; exact hz1)
 refine p9 (s:={ s1 with heap:=h' }) hh D hmin st fun h2 acc c' kp2 hSo hacc => ?_
 have hle:s1.heap.objs.size ≤ h'.objs.size:=Nat.le_trans (hnew z (by simp)) (Nat.le_of_lt (Heap.lt_size st.1))
 have hmz2:min i1s.toArray.size i2s.toArray.size = min xs.length ys.length:=by rw [List.size_toArray,List.size_toArray,ln1,ln2]
 rw [hmz2] at hacc
 obtain ⟨hsz,hall,hdis⟩:=hacc
 let ad:Nat -> Addr:=fun j => match acc[j]? with | some (.ref a) => a | _ => 0
 have had:∀ j,j < min xs.length ys.length -> acc[j]? = some (.ref (ad j)):=fun j hj => by
  obtain ⟨a,_,_,e1,_⟩:=hall j hj
  show acc[j]? = some (Value.ref (match acc[j]? with | some (.ref a) => a | _ => 0))
  rw [e1]
 let r:List (Addr × V × V):=(List.range (min xs.length ys.length)).map fun j => (ad j,xs.getD j .non,ys.getD j .non)
 have hr:∀ q ∈ r,∃ j,j < min xs.length ys.length ∧ q = (ad j,xs.getD j .non,ys.getD j .non):=fun q hq => by
  obtain ⟨j,hj,e⟩:=List.mem_map.mp hq
  exact ⟨j,List.mem_range.mp hj,e.symm⟩
 have hge:∀ j,j < min xs.length ys.length -> h'.objs.size ≤ ad j ∧ ad j ≠ h'.objs.size:=fun j hj => by
  obtain ⟨a,_,_,e1,_,_,_,e5,e6⟩:=hall j hj
  have:=had j hj
  rw [e1] at this
  cases this
  exact ⟨e5,e6⟩
 have hfr:∀ q ∈ r,H1 q.1 = none:=fun q hq => by
  obtain ⟨j,hj,rfl⟩:=hr q hq
  exact I1.hok.fresh (Nat.le_trans hle (hge j hj).1)
 have hS:H1 h'.objs.size = none:=I1.hok.fresh hle
 have hmap:acc.toList = r.map fun q => Value.ref q.1:= by
  refine List.ext_getElem? fun j => ?_
  by_cases hj:j < min xs.length ys.length
  ·rw [Array.getElem?_toList,had j hj]
   simp [r,hj]
  ·rw [Array.getElem?_toList,Array.getElem?_eq_none (by rw [hsz]; omega),List.getElem?_eq_none (by simp [r]; omega)]
 have hvals:∀ l:List (Addr × V × V),Vals (l.map fun q => V.ref q.1) (l.map fun q => Value.ref q.1):=fun l => by
  induction l with
  | nil => exact .nil
  | cons q l ih => exact .cons rfl ih
 refine ⟨.ref h'.objs.size,_,I1.laidM (t':=s1.toks) (H':=upd (lB H1 r) h'.objs.size (.lst (r.map fun q => .ref q.1))) (fun b o e => ?_) (fun b o e => ?_) (fun b u e => ?_),rfl,q h'.objs.size r hS (fun q hq => ⟨hfr q hq,?_⟩) ?_ ?_⟩
 ·refine kp2 b o (fun z' => ?_) (kp b o e)
  have hb:=Heap.lt_size e
  rcases List.mem_cons.mp z' with z' | z'
  ·rw [z'] at hb; exact Nat.not_le_of_lt hb hle
  ·refine Nat.not_le_of_lt hb (hnew b ?_)
   simp only [List.mem_cons,List.not_mem_nil,or_false] at z' ⊢
   rcases z' with h | h | h | h <;> simp [h]
 ·rw [az fun z => by rw [z,hS] at e; cases e]
  exact mU hfr e
 ·by_cases hb:b = h'.objs.size
  ·subst hb
   rw [aQ] at e
   cases e
   refine .inr ⟨hle,?_,acc.toList,c',?_,?_⟩
   ·rw [List.length_map,List.length_map,List.length_range]
    exact Nat.le_trans (Nat.min_le_left ..) hz1
   ·rw [hmap]; exact hvals r
   ·rw [Array.toArray_toList]; exact hSo
  ·rw [az hb] at e
   rcases qM e with e | ⟨x,y,hm,rfl⟩
   ·exact .inl e
   ·obtain ⟨j,hj,ej⟩:=hr _ hm
    cases ej
    refine .inr ⟨Nat.le_trans hle (hge j hj).1,?_⟩
    obtain ⟨a',x',y',e1,e2,e3,e4,_⟩:=hall j hj
    have:=had j hj
    rw [e1] at this
    cases this
    have hjx:j < xs.length:=by omega
    have hjy:j < ys.length:=by omega
    obtain ⟨u1,f1,g1⟩:=rv1.get (List.getElem?_eq_getElem hjx)
    obtain ⟨u2,f2,g2⟩:=rv2.get (List.getElem?_eq_getElem hjy)
    have k1:x' = u1:= by
     rw [List.getElem?_toArray,f1] at e2
     exact (Option.some.inj e2).symm
    have k2:y' = u2:= by
     rw [List.getElem?_toArray,f2] at e3
     exact (Option.some.inj e3).symm
    subst k1 k2
    refine ⟨by rw [sizeLine_eq]; show 2 ≤ _; decide,[x',y'],.cons ?_ (.cons ?_ .nil),⟨_,e4,rfl,_,rfl⟩,_,e4,rfl⟩
    ·simpa [hjx] using g1
    ·simpa [hjy] using g2
 ·obtain ⟨j,hj,rfl⟩:=hr q hq
  exact (hge j hj).2
 ·refine List.pairwise_map.mpr (List.pairwise_map.mpr (List.Pairwise.imp_of_mem (fun {i j} hi hj hlt => ?_) List.pairwise_lt_range))
  exact hdis i j _ _ hlt (List.mem_range.mp hj) (had i (List.mem_range.mp hi)) (had j (List.mem_range.mp hj))
 ·refine List.ext_getElem? fun j => ?_
  by_cases hj:j < min xs.length ys.length
  ·have hjx:j < xs.length:=by omega
   have hjy:j < ys.length:=by omega
   rw [(List.getElem?_zip_eq_some (z:=(xs[j],ys[j]))).mpr ⟨List.getElem?_eq_getElem hjx,List.getElem?_eq_getElem hjy⟩]
   simp [r,hj,hjx,hjy]
  ·rw [List.getElem?_eq_none (by simp [r]; omega),List.getElem?_eq_none (by rw [List.length_zip]; omega)]
end
theorem kb {H:Hp} {b:Addr}:∀ {r:List (Addr × V × V)},H b = none -> b ∉ r.map (·.1) -> lB H r b = none
 | [],e,_ => e
 | (a,x,y) :: r,e,hn => by
  simp only [List.map_cons,List.mem_cons,not_or] at hn
  show upd _ _ _ _ = _
  rw [az hn.1]
  exact kb e hn.2
section
variable {c:Ct} {δ:DS} {S:List D} {σ:L2.St} {T:List V} {H:Hp}
theorem qu (s:Sl c δ S σ T H):∀ (r:List (Addr × V × V)) (xs ys:List D) (vs us:List V),Rs (fI c δ σ H) xs vs -> Rs (fI c δ σ H) ys us -> r.map (·.2) = vs.zip us -> (∀ p ∈ r,H p.1 = none) -> (r.map (·.1)).Nodup ->
  Sl c δ (d8 xs ys ++ S) σ (r.map (fun p => V.ref p.1) ++ T) (lB H r)
 | [],xs,ys,vs,us,h1,h2,e,_,_ => by
  have hl1:=h1.length
  have hl2:=h2.length
  have:d8 xs ys = []:= by
   have:=congrArg List.length e
   rw [List.length_zip,List.length_map,List.length_nil] at this
   refine List.eq_nil_of_length_eq_zero ?_
   rw [jD]
   omega
  rw [this]
  exact s
 | (a,v,u) :: r,xs,ys,vs,us,h1,h2,e,hn,nd => by
  match vs,us,e with
  | v' :: vs,u' :: us,e =>
   simp only [List.map_cons,List.zip_cons_cons,List.cons.injEq,Prod.mk.injEq] at e
   obtain ⟨⟨rfl,rfl⟩,e⟩:=e
   cases xs with
   | nil => cases h1.inv0
   | cons x xs =>
    cases ys with
    | nil => cases h2.inv0
    | cons y ys =>
     have nd':a ∉ r.map (·.1) ∧ (r.map (·.1)).Nodup:=List.nodup_cons.mp nd
     have hn':∀ p ∈ r,H p.1 = none:=fun p hp => hn p (List.mem_cons_of_mem _ hp)
     obtain ⟨_,_,ev,rv,h1'⟩:=h1.inv
     cases ev
     obtain ⟨_,_,eu,ru,h2'⟩:=h2.inv
     cases eu
     have ih:=qu s r xs ys vs us h1' h2' e hn' nd'.2
     have m:∀ b o,fI c δ σ H b = some o -> fI c δ σ (lB H r) b = some o:=bo (fun _ _ _ z => z) fun a o _ h => mU hn' h
     exact (ih.stk (.cons (R.mono m _ _ rv) (.cons (R.mono m _ _ ru) ih.st))).newTup (ds:=[x,y]) (vs:=[v,u]) rfl (kb (hn _ List.mem_cons_self) nd'.1)
end
section
variable {X:Cx} {a b:Expr} {p p2 pos pos2:Pos} {fs:M (List D)}
def Bg:List D -> Option (List D)
 | [x,y] => match ny x,ny y with
  | some (_,xs),some (_,ys) => some (d8 xs ys)
  | _,_ => none
 | _ => none
theorem s_ (hml:X.mg "list" = none) (hmz:X.mg "zip" = none) (ha:DA X [a,b] fs) (hgl:Gl X "list":=by rfl) (hgz:Gl X "zip":=by rfl) (hc:X.calm = true:=by rfl)
  (hz0:starEach [.Call (.Name "zip" p2) [a,b] [] pos2] X.env = [(false,eval (.Call (.Name "zip" p2) [a,b] [] pos2) X.env)]:=by rfl)
  (hs:starEach [a,b] X.env = [(false,eval a X.env),(false,eval b X.env)]:=by rfl) (hs2:starEach [b] X.env = [(false,eval b X.env)]:=by rfl) :
  DF X (.Call (.Name "list" p) [.Call (.Name "zip" p2) [a,b] [] pos2] [] pos) (mC Bg fs):=cG (sQ hgl hml hgz hmz hc ha hz0 hs hs2) fun σ H Q ⟨c,δ,S,T,z,δ',s,e,k⟩ => by
 obtain ⟨ds,δ1,e1,e⟩:=bind_some e
 obtain ⟨e2,rfl⟩:=aA e
 refine ⟨c,δ,S,T,ds,δ1,s,e1,fun vs H1 l s1 => ?_⟩
 unfold Bg at e2
 split at e2
 ·rename_i dx dy
  split at e2
  ·rename_i b1 xs b2 ys q1 q2
   cases e2
   obtain ⟨v,u,rfl,r1,r2⟩:=Iv (s1.st.left l)
   obtain ⟨p1,vs,rfl,h1,g1⟩:=ft (K:=X.K) r1 q1
   obtain ⟨p2,us,rfl,h2,g2⟩:=ft (K:=X.K) r2 q2
   refine ⟨b1,b2,p1,p2,vs,us,rfl,h1,h2,fun m r hm hr nd hz => ?_⟩
   obtain ⟨f1,f2,f3⟩:=s1.fresh hm
   have s2:=qu (s1.drop l) r xs ys vs us g1 g2 hz (fun p hp => (hr p hp).1) nd
   have hm2:lB H1 r m = none:=kb hm fun q => by
    obtain ⟨p,hp,e⟩:=List.mem_map.mp q
    exact (hr p hp).2 e
   have s3:=s2.hide (o:=.lst (r.map fun p => .ref p.1)) hm2
   have hl:(r.map fun p => V.ref p.1).length = (d8 xs ys).length:= by
    have:=congrArg List.length hz
    rw [List.length_map,List.length_zip] at this
    rw [List.length_map,jD,this,g1.length,g2.length]
   exact k m _ _ hl s3 f1 f2 f3
  ·cases e2
 ·cases e2
end
end Jt
namespace Jt
open PySem L2
section
variable {X:Cx} {a b:Expr} {fa fb:M D} {pos:Pos}
open Classical in
end
end Jt
namespace Jt
open PySem L2 PySem.Spec PyProof.Rows
section
open PySem.SeqAt
open PySem.AutoSeq1 (wpAny_loadPart')
open PySem.MeetsSeq PySem.MeetsSeq2 PySem.MeetsSeq3
theorem nG (l:Addr) (items:Array Value) (n:Nat) (dd:Option Addr) (sl:Array (Option Value)) (x:Value) (e:Value -> Bool) (j:Nat) (hj:j < items.size) (h1:e items[j] = true) (h2:∀ m (hm:m < items.size),m < j -> e items[m] = false) :
  Meets (Builtin.«tuple.index» ⟨[.ref l,x],[]⟩) (fun A R s => s.heap.get? l = some { cls:=.type "tuple",dict:=dd,data:=.seq items n,slots:=sl } ∧ (∀ y ∈ items,EqAt A.in1 s y x (e y)) ∧ R (.ok (.ret (.int (j:Int) s.toks))) { s with toks:=s.toks + 1 }) :=
 .of_wp fun prog w A R s h => by
  obtain ⟨hp,g,d,tk,os⟩:=s; obtain ⟨hl,he,h⟩:=h
  unfold Builtin.«tuple.index»
  simp only [Std.Legacy.Range.forIn_eq_forIn_range']
  wp_walk using wpAny_loadPart' hl,wpAny_forIn_list _ (fun rest b s' => b.1 = none ∧ s' = ⟨hp,g,d,tk,os⟩ ∧ ∃ m,rest = List.range' m (items.size - m) ∧ m ≤ j) _
  case turn =>
   rintro i rest b s' ⟨hb,rfl,m,hr,hm⟩
   have hms:items.size - m = (items.size - (m + 1)) + 1:=by omega
   rw [hms,List.range'_succ] at hr
   injection hr with hi hr
   subst hi
   have hi:i < items.size:=by omega
   have hy:items[i]? = some items[i]:=Array.getElem?_eq_getElem hi
   rw [hy]
   have hE:=he items[i] (Array.getElem_mem hi)
   refine wpAny_bind (hE prog w _ _ ?_)
   by_cases q:i = j
   ·subst q
    rw [h1]
    wp_walk
    exact ⟨_,rfl,h⟩
   ·rw [h2 i hi (by omega)]
    wp_walk
    exact ⟨rfl,rfl,i + 1,hr,by omega⟩
  case fin =>
   rintro ⟨b1,b2⟩ s' ⟨hb,rfl,m,hr,hm⟩
   have hms:items.size - m = (items.size - (m + 1)) + 1:=by omega
   rw [hms,List.range'_succ] at hr
   cases hr
  case h =>
   exact ⟨rfl,rfl,0,by simp,Nat.zero_le _⟩
end
section
variable {X:Cx} {o e a:Expr} {es:List Expr} {to:TE} {t:TA} {name:Str} {apos cpos p pos:Pos} {id:String} {r:V -> List V -> Hp -> VK -> Prop} {fo fa:M D} {fs:M (List D)}
def JV (r:V -> List V -> Hp -> VK -> Prop) (to:TE) (t:TA):TE:=fun σ H Q => to σ H fun x H1 => (∃ p xs,x = .ref p ∧ H1 p = some (.tup xs)) ∧ t σ H1 fun xs H2 => r x xs H2 Q
theorem El (slot:PySem.Slot "tuple" name id) (hty:typeOf (.builtin id) = pure (.type "method_descriptor")) (hm:Iu X id r) (ho:PE X o to) (ha:PA X (e :: es) t)
  (hbase:attributeBase o name X.env (eval o X.env) = eval o X.env:=by rfl)
  (hfew:((backTo cpos (starEach (e :: es) X.env)).all (fun x => !x.1) && (backToKw cpos (keywordEach [] X.env)).all (fun x => x.1.isSome)
   && decide ((e :: es).length + ([]:List Keyword).length + (if ([]:List Keyword).isEmpty then 0 else 1) < 30)) = true:=by rfl)
  (hline:(apos.endLine == cpos.line) = true:=by rfl) (hs:starEach (e :: es) X.env = (false,eval e X.env) :: starEach es X.env:=by rfl) (hplain:(backTo cpos (starEach es X.env)).any (·.1) = false:=by rfl) :
  PE X (.Call (.Attribute o name apos) (e :: es) [] cpos) (JV r to t):= by
 intro pins s σ H Q I h
 refine wpAny_Call_method_late hbase hfew hline rfl (cT (ho pins s σ H _ I h) fun v s1 ⟨x,H1,I1,r1,ty,q1⟩ => ?_)
 obtain ⟨p,xs,rfl,hp⟩:=ty
 cases r1
 obtain ⟨_,its,_,⟨ob,e1,e2,_⟩,ob2,e3,e4⟩:=(show dM X.prog X.w H1 s1.heap p (.tup xs) from I1.hok p _ hp)
 refine ⟨"tuple",id,PySem.F.plainAttrs_tuple,slot,hty,⟨ob,e1,e2⟩,fun a z => by cases z; exact ⟨ob2,e3,e4⟩,?_⟩
 have hA:=ha cpos pins s1 σ H1 _ I1 q1
 rw [hs] at hA ⊢
 refine Calls.callWith_builtin (by show (false || (backTo cpos (starEach es X.env)).any (·.1)) = false; rw [hplain] <;> rfl) (Calls.evalArgs_plain ?_)
 exact cT hA fun us s2 ⟨vs,H2,I2,r2,q2⟩ => hm pins s2 σ H2 (.ref p) vs (.ref p) us Q I2 rfl r2 q2
def Bx:V -> List V -> Hp -> VK -> Prop:=fun x vs H Q => ∃ (l:Addr) (ns:List Int) (c:Int),x = .ref l ∧ vs = [.int c] ∧ H l = some (.tup (ns.map V.int)) ∧ c ∈ ns ∧ Q (.int (ns.idxOf c)) H
def Jx (c:Int):Value -> Bool
 | .int i _ => i == c
 | _ => false
theorem vk:Iu X "tuple.index" Bx:= by
 intro pins s σ H x vs v us Q I rx rv h
 obtain ⟨l,ns,c,rfl,rfl,hH,hc,q⟩:=h
 cases rx
 obtain ⟨u,rfl,ru⟩:=rv.one
 obtain ⟨tc,rfl⟩:=ru
 obtain ⟨its,r,pl,_⟩:=I.tuple (.of hH)
 obtain ⟨⟨cls,dd,data,sl⟩,e0,e1,n,e2⟩:=id pl
 simp only at e1 e2
 subst e1 e2
 have hl:its.length = ns.length:=by rw [<- r.length,List.length_map]
 have hj:ns.idxOf c < ns.length:=List.idxOf_lt_length_iff.mpr hc
 have at_:∀ m (hm:m < ns.length),∃ t,its[m]? = some (.int ns[m] t):=fun m hm => by
  obtain ⟨u,e,ru⟩:=r.get (i:=m) (x:=.int ns[m]) (by simp [hm])
  obtain ⟨t,rfl⟩:=ru
  exact ⟨t,e⟩
 refine call_meets PySem.F.slot_tuple_index ⟨_,e0,rfl⟩ PySem.F.entry_tuple_index (PySem.F.args_tuple_index_2 _ _) (nG l its.toArray n dd sl (.int c tc) (Jx c) (ns.idxOf c) (by simp; omega) ?_ ?_) ⟨e0,fun y hy => ?_,?_⟩
 ·obtain ⟨t,e⟩:=at_ _ hj
  have:=(List.getElem?_eq_some_iff.mp e).2
  simp only [List.getElem_toArray]
  rw [this]
  simp [Jx,List.getElem_idxOf hj]
 ·intro m hm hlt
  have hm':m < ns.length:=by omega
  obtain ⟨t,e⟩:=at_ _ hm'
  have:=(List.getElem?_eq_some_iff.mp e).2
  simp only [List.getElem_toArray]
  rw [this]
  have ne:ns[m] ≠ c:=fun z => by
   have:=List.not_of_lt_findIdx (p:=fun x => x == c) (xs:=ns) (i:=m) hlt
   simp [z] at this
  simp [Jx,ne]
 ·obtain ⟨m,hm⟩:=List.mem_iff_getElem?.mp (show y ∈ its by simpa using hy)
  have hm':m < ns.length:=by rw [<- hl]; exact (List.getElem?_eq_some_iff.mp hm).1
  obtain ⟨t,e⟩:=at_ _ hm'
  rw [hm] at e
  cases e
  exact SeqAt.EqAt.int_int ns[m] t c tc
 ·exact ⟨.int (ns.idxOf c),H,I.tok _,⟨_,rfl⟩,q⟩
def su (x:D) (ds:List D):Option D:=match x,ds with
 | .tup es,[.int c] => (dC es).bind fun ns => if c ∈ ns then some (.int (ns.idxOf c)) else none
 | _,_ => none
def FT (fo:M D) (fs:M (List D)):M D:=do
 let x <- fo
 let ds <- fs
 lift (su x ds)
theorem zp (ho:DE X o fo) (ha:DA X [a] fs)
  (hbase:attributeBase o "index" X.env (eval o X.env) = eval o X.env:=by rfl)
  (hfew:((backTo cpos (starEach [a] X.env)).all (fun x => !x.1) && (backToKw cpos (keywordEach [] X.env)).all (fun x => x.1.isSome)
   && decide (([a]:List Expr).length + ([]:List Keyword).length + (if ([]:List Keyword).isEmpty then 0 else 1) < 30)) = true:=by rfl)
  (hline:(apos.endLine == cpos.line) = true:=by rfl) (hs:starEach [a] X.env = [(false,eval a X.env)]:=by rfl) :
  DE X (.Call (.Attribute o "index" apos) [a] [] cpos) (FT fo fs) :=
 cG (El PySem.F.slot_tuple_index PySem.F.type_tuple_index vk ho ha hbase hfew hline hs rfl) fun σ H Q ⟨c,δ,S,T,d,δ',s,e,k⟩ => by
  obtain ⟨x,δ1,e1,e⟩:=bind_some e
  obtain ⟨ds,δ2,e2,e⟩:=bind_some e
  obtain ⟨e3,rfl⟩:=aA e
  unfold su at e3
  split at e3
  ·rename_i es i e2'
   cases q:dC es with
   | none => rw [q] at e3; cases e3
   | some ns =>
    rw [q] at e3
    simp only [Option.bind_some] at e3
    split at e3
    ·rename_i hc
     cases e3
     refine ⟨c,δ,S,T,_,δ1,s,e1,fun v H1 s1 => ?_⟩
     obtain ⟨p,vs,rfl,h1,h2⟩:=s1.st.head.tup
     refine ⟨⟨p,vs,rfl,bf _ _ h1⟩,c,δ1,_,_,_,δ2,s1,e2,fun vs2 H2 l s2 => ?_⟩
     obtain ⟨v2,rfl,r2⟩:=r6 (s2.st.left l)
     cases r2.int
     obtain ⟨p2,ws,ez,h3,h4⟩:=(s2.st.right l).head.tup
     cases ez
     have:=jm h4 q; subst this
     exact ⟨p,ns,i,rfl,rfl,bf _ _ h3,hc,k _ _ (s2.stk (.cons .mkI (s2.st.right l).tail))⟩
    ·cases e3
  ·cases e3
end
section
variable {X:Cx} {a:Expr} {p pos:Pos} {fs:M (List D)}
theorem ic (ns:List Int):∀ j,j ≤ ns.length -> preSum (fun i => ns.getD i 0) j = (ns.take j).sum
 | 0,_ => rfl
 | j + 1,h => by
  show preSum _ j + _ = _
  rw [ic ns j (by omega),List.take_succ_eq_append_getElem (by omega),List.sum_append]
  simp [show j < ns.length by omega]
def C4 (K:PySem.W.Frag):List V -> Hp -> VK -> Prop:=fun xs H Q => ∃ (l:Addr) (ns:List Int),xs = [.ref l] ∧ ip K H l (ns.map V.int) ∧ (∀ j,j ≤ ns.length -> InLong ((ns.take j).sum)) ∧ (∀ i ∈ ns,InLong i) ∧ Q (.int ns.sum) H
theorem v5 (hc:X.calm = true):dE X (.builtin "sum") (C4 X.K):= by
 intro pins s σ H xs us Q I r h
 obtain ⟨l,ns,rfl,hq,hn,hi,q⟩:=h
 obtain ⟨u,rfl,ru⟩:=r.one
 cases ru
 obtain ⟨its,rv,pl,hz⟩:=I.list hq
 have hlen:=rv.length
 rw [List.length_map] at hlen
 have hll:l < s.heap.objs.size:=by obtain ⟨o,e,_⟩:=pl.isList; exact Heap.lt_size e
 refine call_sum_walk (wpAny_pyIter_list pl.isList ?_)
 refine ⟨s.heap.objs.size,[s.heap.objs.size,l],[s.heap.objs.size],its.toArray.size,_,_,fun i => ns.getD i 0,rfl,Walks.list (A:=X.A.in1) (I.ok.hd hc) _ l (Nat.ne_of_lt hll) its.toArray,
  ⟨⟨_,Heap.get?_push_size _ rfl,rfl,rfl⟩,pl.isList.push _⟩,fun b hb => ?_,fun i v hv => ?_,fun j hj => ?_,fun h' tk t' kp => ?_⟩
 ·rw [Heap.size_push]
  simp only [List.mem_cons,List.not_mem_nil,or_false] at hb
  rcases hb with rfl | rfl
  ·exact Nat.lt_succ_self _
  ·exact Nat.lt_succ_of_lt hll
 ·have hv':its[i]? = some v:=by simpa using hv
  have hil:i < ns.length:=by rw [hlen]; exact (List.getElem?_eq_some_iff.mp hv').1
  obtain ⟨u,hu,ru⟩:=rv.get (i:=i) (x:=V.int ns[i]) (by simp [hil])
  rw [hv'] at hu
  cases hu
  obtain ⟨t,rfl⟩:=ru
  exact ⟨t,by simp [hil]⟩
 ·have hj':j < ns.length:=by rw [hlen]; simpa using hj
  refine ⟨?_,?_⟩
  ·show InLong (ns.getD j 0)
   have:ns.getD j 0 = ns[j]:=by simp [hj']
   rw [this]
   exact hi _ (List.getElem_mem hj')
  ·rw [ic ns (j + 1) hj']
   exact hn _ hj'
 ·have e:preSum (fun i => ns.getD i 0) its.toArray.size = ns.sum:= by
   rw [show its.toArray.size = ns.length by simp [hlen],ic ns _ (Nat.le_refl _),List.take_length]
  rw [e]
  exact ⟨.int ns.sum,H,I.kept (t':=tk) fun b o eb => kp b o (fun hb => absurd (Heap.lt_size eb) (by rw [List.mem_singleton.mp hb]; exact Nat.lt_irrefl _)) (Heap.get?_push_of_some _ eb),⟨t',rfl⟩,q⟩
def pz (ns:List Int):Bool:=decide (ns.length ≤ 1000) && ns.all fun i => decide (0 ≤ i) && decide (i ≤ 1000000)
theorem o8:∀ {ns:List Int},(∀ i ∈ ns,0 ≤ i ∧ i ≤ 1000000) -> 0 ≤ ns.sum ∧ ns.sum ≤ 1000000 * (ns.length:Int)
 | [],_ => by simp
 | i :: r,h => by
  have h1:=h i List.mem_cons_self
  have h2:=o8 (ns:=r) fun j hj => h j (List.mem_cons_of_mem _ hj)
  rw [List.sum_cons,List.length_cons]
  omega
def vU:List D -> Option D
 | [.lst es] => (dC es).bind fun ns => if pz ns = true then some (.int ns.sum) else none
 | _ => none
theorem EC {K:PySem.W.Frag}:iV (C4 K) vU:=fun c δ S σ T H ds vs d Q l s e k => by
 unfold vU at e
 split at e
 ·rename_i es
  cases q:dC es with
  | none => rw [q] at e; cases e
  | some ns =>
   rw [q] at e
   simp only [Option.bind_some] at e
   split at e
   ·rename_i hs
    cases e
    obtain ⟨v,rfl,r⟩:=r6 (s.st.left l)
    obtain ⟨p,ws,rfl,h1,h2⟩:=r.lst
    have:=jm h2 q; subst this
    simp only [pz,Bool.and_eq_true,decide_eq_true_eq,List.all_eq_true] at hs
    refine ⟨p,ns,rfl,.inl (Rd.mono bf h1),fun j hj => ?_,fun i hi => ?_,k _ _ (s.stk (.cons .mkI (s.st.right l)))⟩
    ·have:=o8 (ns:=ns.take j) fun i hi => hs.2 i (List.mem_of_mem_take hi)
     have hl:(ns.take j).length ≤ 1000:=Nat.le_trans (List.length_take_le ..) (by omega)
     refine ⟨by omega,by omega⟩
    ·have:=hs.2 i hi
     refine ⟨by omega,by omega⟩
   ·cases e
 ·cases e
theorem yq (hm:X.mg "sum" = none) (ha:DA X [a] fs) (hg:Gl X "sum":=by rfl) (hc:X.calm = true:=by rfl) (he:starEach [a] X.env = [(false,eval a X.env)]:=by rfl):DE X (.Call (.Name "sum" p) [a] [] pos) (mC vU fs) :=
 fV (v5 hc) EC hg hm PyProof.Rows.boot_sum ha (by decide) (by decide) he rfl
end
end Jt
namespace Jt
open PySem L2
structure Kn (P:Program) (w:World) (K:PySem.W.Frag) (mg:Str -> Option Value) (base:Heap) (CX:r0) (k:Nat) (x:Str) (ps:List Str) (sp:Sp):Prop where
 ex:∃ f fd,dW P w K mg base CX k f fd ps sp ∧ mg x = some (.ref f) ∧ PySem.W.keepIn K (.ref f) = true ∧ Binds K fd ps []
structure Ent (K:PySem.W.Frag) (mg:Str -> Option Value) (x:Str) (ps:List Str) (st:Stmt):Prop where
 ex:∃ f fd,Ba K x x st f fd ∧ mg x = some (.ref f) ∧ Binds K fd ps []
structure Fh (K:PySem.W.Frag) (x:Str) (st:Stmt):Prop where
 ex:∃ (f:Addr) (oc:Value) (od:Option Addr) (kV dc pm:Value) (an:Option Addr) (cd ct:Value) (sl:Array (Option Value)),PySem.W.nsIn K mainGlobals x = some (some (.ref f)) ∧ K.lookup f = some ⟨oc,od,.func (PySem.W.fnOf x x (fk st) (cz st) (ak st) .none kV dc pm an cd ct),sl⟩ ∧ PySem.W.codeIn K cd x = true ∧ PySem.W.keepIn K (.ref f) = true
theorem fh_mk {K:PySem.W.Frag} {x:Str} {st:Stmt} {f:Addr} {oc:Value} {od an:Option Addr} {kV dc pm cd ct:Value} {sl:Array (Option Value)} (a:PySem.W.nsIn K mainGlobals x = some (some (.ref f))) (l:K.lookup f = some ⟨oc,od,.func (PySem.W.fnOf x x (fk st) (cz st) (ak st) .none kV dc pm an cd ct),sl⟩) (c:PySem.W.codeIn K cd x = true) (k:PySem.W.keepIn K (.ref f) = true):Fh K x st:=⟨f,oc,od,kV,dc,pm,an,cd,ct,sl,a,l,c,k⟩
section
variable {P:Program} {w:World} {K:PySem.W.Frag} {mg:Str -> Option Value} {base:Heap} {CX:r0} {j k:Nat} {x:Str} {ps N:List Str} {sp:Sp} {st:Stmt} {body:M Fl}
theorem Kn.up (G:Kn P w K mg base CX j x ps sp) (h:j ≤ k):Kn P w K mg base CX k x ps sp:=let ⟨⟨f,fd,F,m⟩⟩:=G; ⟨⟨f,fd,F.mono h,m⟩⟩
theorem ent {h:Heap} (X:K.In h) (G:h.Ns mainGlobals mg) (e:Fh K x st) (hb:∀ (kV doc pm:Value) (an:Option Addr) (cdv ct:Value) (us:List Value),us.length = ps.length -> bindArgs (PySem.W.fnOf x x (fk st) (cz st) (ak st) .none kV doc pm an cdv ct) ⟨us,[]⟩ = pure (ps.zip us)):Ent K mg x ps st:= by
 obtain ⟨⟨f,oc,od,kV,dc,pm,an,cd,ct,sl,a,l,c,k⟩⟩:=e
 have F:=xF (st:=st) l c k
 exact ⟨⟨f,_,F,PySem.W.mg_of X G a,F.binds hb⟩⟩
theorem oi (E:Ent K mg x ps st) (S:aG N ps (ak st)) (hb:∀ (f:Addr) (cdv:Value) (A:Around) (outer:List Env) (s:Shared) (H:Hp) (E:XK),cX k (A.deeper (PyProof.Rows.envOfC x (ak st) s.heap.objs.size f cdv)) -> rZ (jz dg P w K mg base N x (ak st) f cdv A outer s H E).nox (cz st) body) :
  Kn P w K mg base dg (k + 1) x ps (iZ ps.length (aW N body)):=let ⟨⟨f,fd,F,m,b⟩⟩:=E; ⟨⟨f,fd,JJ F S (hb f),m,F.kp,b⟩⟩
theorem Ij (E:Ent K mg x ps st) (S:aG N ps (ak st)) (hb:∀ (f:Addr) (cdv:Value) (A:Around) (outer:List Env) (s:Shared) (H:Hp) (E:XK),cX k (A.deeper (PyProof.Rows.envOfC x (ak st) s.heap.objs.size f cdv)) -> rZ (jz dg P w K mg base N x (ak st) f cdv A outer s H E).nox (cz st) body) :
  Kn P w K mg base dg (k + 1) x ps (CP ps.length (fY N body)):=let ⟨⟨f,fd,F,m,b⟩⟩:=E; ⟨⟨f,fd,JW F S (hb f),m,F.kp,b⟩⟩
theorem Af (E:Ent K mg x ps st) (S:aG N ps (ak st)) (hb:∀ (f:Addr) (cdv:Value) (A:Around) (outer:List Env) (s:Shared) (H:Hp) (E:XK),cX k (A.deeper (PyProof.Rows.envOfC x (ak st) s.heap.objs.size f cdv)) -> rZ (jz dg P w K mg base N x (ak st) f cdv A outer s H E).nox (cz st) body) :
  Kn P w K mg base dg (k + 1) x ps (vp ps.length (bp N body)):=let ⟨⟨f,fd,F,m,b⟩⟩:=E; ⟨⟨f,fd,JO F S (hb f),m,F.kp,b⟩⟩
theorem AW {n:Nat} (E:Ent K mg x ps st):Kn P w K mg base dg k x ps (iZ n fun _ => none):=let ⟨⟨f,fd,F,m,b⟩⟩:=E; ⟨⟨f,fd,AB,m,F.kp,b⟩⟩
theorem Jj {h:Heap} {l:PySem.W.OpenLaw} {fa:Addr} {st:Stmt} (X:K.In h) (G:h.Ns mainGlobals mg) (hfa:mg "law" = some (.ref fa)) (e:Fh K "law" st) (hb:∀ (kV dc pm:Value) (an:Option Addr) (cd ct:Value) (s:Shared) (v:Value),BindsTo s (PySem.W.fnOf "law" "law" (fk st) (cz st) (ak st) .none kV dc pm an cd ct) ⟨[v],[]⟩ [("_law_script",v)])
  {N:List Str} {body:M Fl} (S:aG N ["_law_script"] (ak st))
  (hG:∀ (base:Heap) (f:Addr) (cdv:Value) (A:Around) (outer:List Env) (s:Shared) (H:Hp) (E:XK),cX k (A.deeper (PyProof.Rows.envOfC "law" (ak st) s.heap.objs.size f cdv)) -> rZ (jz dg l.prog w K mg base N "law" (ak st) f cdv A outer s H E).nox (cz st) body)
  {Sq:Sp} (hS:∀ base f fd,dW l.prog w K mg base dg (k + 1) f fd ["_law_script"] (iZ 1 (aW N body)) -> dW l.prog w K mg base dg (k + 1) f fd ["_law_script"] Sq) :
  ∃ fd:FuncData,(∀ (s:Shared) (v:Value),BindsTo s fd ⟨[v],[]⟩ [("_law_script",v)]) ∧ ∀ base:Heap,K.In base -> base.Ns mainGlobals mg -> dW l.prog w K mg base dg (k + 1) fa fd ["_law_script"] Sq:= by
 obtain ⟨⟨f,oc,od,kV,dc,pm,an,cd,ct,sl,a,l,c,kp⟩⟩:=e
 have e:=hfa.symm.trans (PySem.W.mg_of X G a)
 cases e
 exact ⟨_,hb kV dc pm an cd ct,fun base _ _ => hS base _ _ (JJ (xF (st:=st) l c kp) S (hG base fa))⟩
end
section
variable {X:Cx} {k:Nat} {x:Str} {ps:List Str} {a:Expr} {es:List Expr} {fs:M (List D)} {p pos:Pos}
theorem aV {mf:List D -> Option D} {n:Nat} (G:Kn X.prog X.w X.K X.mg X.base dg k x ps (iZ n mf)) (hr:cX k X.A) (ha:DA X (a :: es) fs)
  (hg:Gl X x:=by rfl) (hdb:(x == ("__debug__":Str)) = false:=by decide) (he:starEach (a :: es) X.env = (false,eval a X.env) :: starEach es X.env:=by rfl) (hpl:(backTo pos (starEach es X.env)).any (·.1) = false:=by rfl) :
  DE X (.Call (.Name x p) (a :: es) [] pos) (mC (fun ds => if ds.length = n then mf ds else none) fs):=let ⟨⟨_,_,F,m,c,b⟩⟩:=G; Ai F hr m c b ha hg hdb he hpl
theorem jM {mf:List D -> Option (List D)} {n:Nat} (G:Kn X.prog X.w X.K X.mg X.base dg k x ps (CP n mf)) (hr:cX k X.A) (ha:DA X (a :: es) fs)
  (hg:Gl X x:=by rfl) (hdb:(x == ("__debug__":Str)) = false:=by decide) (he:starEach (a :: es) X.env = (false,eval a X.env) :: starEach es X.env:=by rfl) (hpl:(backTo pos (starEach es X.env)).any (·.1) = false:=by rfl) :
  DF X (.Call (.Name x p) (a :: es) [] pos) (mC (fun ds => if ds.length = n then mf ds else none) fs):=let ⟨⟨_,_,F,m,c,b⟩⟩:=G; Ck F hr m c b ha hg hdb he hpl
theorem ax (i:Nat) {mf:List D -> List D -> Option (D × List D)} {n:Nat} {y:Str} {py:Pos} (G:Kn X.prog X.w X.K X.mg X.base dg k x ps (vp n mf)) (hr:cX k X.A) (ha:DA X es fs)
  (hN:X.N[i]? = some y:=by rfl) (hv:ug X.env.scope y:=by first | exact Or.inl rfl | exact Or.inr (Or.inl rfl) | exact Or.inr (Or.inr rfl)) (hd:(y == ("__debug__":Str)) = false:=by decide) (hcd:(y == ("__classdict__":Str)) = false:=by decide)
  (hg:Gl X x:=by rfl) (hdb:(x == ("__debug__":Str)) = false:=by decide) (he:starEach (.Name y py :: es) X.env = (false,eval (.Name y py) X.env) :: starEach es X.env:=by rfl) (hpl:(backTo pos (starEach es X.env)).any (·.1) = false:=by rfl) :
  DE X (.Call (.Name x p) (.Name y py :: es) [] pos) (do let _ <- aF i; bR i n mf fs):=let ⟨⟨_,_,F,m,c,b⟩⟩:=G; vS i F hr m c b ha hN hv hd hcd hg hdb he hpl
theorem yP {x:Str} {v:Int} {p:Pos} (h:∃ t,X.mg x = some (.int v t)) (hg:Gl X x:=by rfl) (hd:(x == ("__debug__":Str)) = false:=by decide):DE X (.Name x p) (pure (.int v)):=let ⟨_,m⟩:=h; yX m hg hd
end
end Jt
namespace K43
open PySem L2 Jt
def top (i:Nat):Stmt:=PySem.Challenge.pw_jointrees_k43_loops_and_counts.main.body.getD i (.Pass ⟨0,0,0,0⟩)
structure Bi (mg:Str -> Option Value):Prop where
 all:mg "all" = none
 bool:mg "bool" = none
 divmod:mg "divmod" = none
 enumerate:mg "enumerate" = none
 int:mg "int" = none
 isinstance:mg "isinstance" = none
 len:mg "len" = none
 list:mg "list" = none
 max:mg "max" = none
 min:mg "min" = none
 range:mg "range" = none
 set:mg "set" = none
 sorted:mg "sorted" = none
 sum:mg "sum" = none
 tuple:mg "tuple" = none
 zip:mg "zip" = none
 g_LEAST_LOOP:∃ t,mg "LEAST_LOOP" = some (.int 2 t)
section
variable {P:Program} {w:World} {K:PySem.W.Frag} {mg:Str -> Option Value} {base:Heap}
abbrev yZ:Stmt:=top 1
abbrev u6:List Str:=["thing"]
theorem FP:aG u6 ["thing"] (ak yZ):=⟨rfl,rfl,rfl,by decide +kernel,rfl,by decide +kernel,by decide +kernel⟩
def rP:M Fl :=
 (do let d <- (qy (iR .int (ah 0)) (y8 (iR .bool (ah 0)))); pure (Fl.rt d))
variable (P w K mg base) in
abbrev i8 (k:Nat):Prop:=Kn P w K mg base dg k "is_whole" ["thing"] (iZ 1 (aW u6 rP))
theorem Ed {k:Nat} (E:Ent K mg "is_whole" ["thing"] yZ) (m:Bi mg):i8 P w K mg base (k + 1) :=
 oi E FP fun _ cdv A outer s H E hr =>
  (ao (aJ (mM (fE .int m.isinstance m.int (ab 0)) (kg (yw (fE .bool m.isinstance m.bool (ab 0)))))))
abbrev yW:Stmt:=top 2
abbrev mN:List Str:=["thing","many"]
theorem EF:aG mN ["thing","many"] (ak yW):=⟨rfl,rfl,rfl,by decide +kernel,rfl,by decide +kernel,by decide +kernel⟩
def kI:M Fl :=
 (do let d <- (qy (mC (aE 1 (aW u6 rP)) (ae (ah 0) (pure []))) (zU zX oG (pure (.int 0)) (ah 0) (ah 1))); pure (Fl.rt d))
variable (P w K mg base) in
abbrev eK (k:Nat):Prop:=Kn P w K mg base dg k "is_below" ["thing","many"] (iZ 2 (aW mN kI))
theorem Fe {k:Nat} (E:Ent K mg "is_below" ["thing","many"] yW) (G_q25:i8 P w K mg base k):eK P w K mg base (k + 1) :=
 oi E EF fun _ cdv A outer s H E hr =>
  (ao (aJ (mM (aV G_q25 hr (aa (ab 0) af)) (kg (Cv aj (ab 0) (ab 1))))))
abbrev zA:Stmt:=top 3
abbrev o7:List Str:=["thing","many"]
theorem Dt:aG o7 ["thing","many"] (ak zA):=⟨rfl,rfl,rfl,by decide +kernel,rfl,by decide +kernel,by decide +kernel⟩
def rq:M Fl :=
 (do let d <- (qy (iR .tup (ah 0)) (mC jg (ae (do let xs <- (aX 2 1 (do let x <- (ah 0); lift (aO x)) (bh (ba 2) (pure true) (mC (aE 2 (aW mN kI)) (ae (ah 2) (ae (ah 1) (pure [])))))); pure (D.lst xs)) (pure [])))); pure (Fl.rt d))
variable (P w K mg base) in
abbrev ix (k:Nat):Prop:=Kn P w K mg base dg k "are_below" ["thing","many"] (iZ 2 (aW o7 rq))
theorem EY {k:Nat} (E:Ent K mg "are_below" ["thing","many"] zA) (m:Bi mg) (G_q23:eK P w K mg base k):ix P w K mg base (k + 1) :=
 oi E Dt fun _ cdv A outer s H E hr =>
  (ao (aJ (mM (fE .tup m.isinstance m.tuple (ab 0)) (kg (qj m.all (aa (ay (bx (N':=o7) (own:=["part"]) (lo:=2) (bT (bQ (ab 0))) (fun _ _ _ _ => (av 2 (show (o7 ++ (["part"]:List Str):List Str).Nodup by decide +kernel))) (fun _ _ _ _ => cU) (fun _ _ _ _ => (aV G_q23 hr (aa (ab 2) (aa (ab 1) af)))))) af))))))
abbrev D3:Stmt:=top 4
abbrev Au:List Str:=["things"]
theorem GF:aG Au ["things"] (ak D3):=⟨rfl,rfl,rfl,by decide +kernel,rfl,by decide +kernel,by decide +kernel⟩
def y3:M Fl :=
 (do let d <- (m2 (dj false) (mQ eO (do let x <- (ah 0); lift (fS x))) (mC aZ (ae (ah 0) (pure [])))); pure (Fl.rt d))
variable (P w K mg base) in
abbrev gD (k:Nat):Prop:=Kn P w K mg base dg k "are_unlike" ["things"] (iZ 1 (aW Au y3))
theorem Hk {k:Nat} (E:Ent K mg "are_unlike" ["things"] D3) (m:Bi mg):gD P w K mg base (k + 1) :=
 oi E GF fun _ cdv A outer s H E hr =>
  (ao (aJ (zy (jU m.len m.set (oO (ab 0))) (bj m.len (aa (ab 0) af)))))
abbrev zF:Stmt:=top 5
abbrev nX:List Str:=["labels","one","other","least","most"]
theorem sL:aG nX ["labels","one","other"] (ak zF):=⟨rfl,rfl,rfl,by decide +kernel,rfl,by decide +kernel,by decide +kernel⟩
def qR:M Fl :=
 (aB (dD 3 (mC jG (ae (m2 b_ (ah 0) (ah 1)) (ae (m2 b_ (ah 0) (ah 2)) (pure [])))))
  (aB (dD 4 (mC lu (ae (m2 b_ (ah 0) (ah 1)) (ae (m2 b_ (ah 0) (ah 2)) (pure [])))))
  (do let d <- (mC cN (ae (do let xs <- (aX 5 1 (do let x <- (ah 0); lift (aO x)) (bh (ba 5) (pure true) (fz ((m2 (iy false) (ah 5) (ah 4)) >>= cQ) (ah 3) (ah 5)))); pure (D.lst xs)) (pure []))); pure (Fl.rt d))))
variable (P w K mg base) in
abbrev l8 (k:Nat):Prop:=Kn P w K mg base dg k "linked" ["labels","one","other"] (iZ 3 (aW nX qR))
theorem Dp {k:Nat} (E:Ent K mg "linked" ["labels","one","other"] zF) (m:Bi mg):l8 P w K mg base (k + 1) :=
 oi E sL fun _ cdv A outer s H E hr =>
  (ai (aU 3 sL.nd (pS m.min (aa (aw (ab 0) (ab 1)) (aa (aw (ab 0) (ab 2)) af))))
  (ai (aU 4 sL.nd (r8 m.max (aa (aw (ab 0) (ab 1)) (aa (aw (ab 0) (ab 2)) af))))
  (ao (aJ (c_ m.tuple (aa (ay (bx (N':=nX) (own:=["label"]) (lo:=5) (bT (bQ (ab 0))) (fun _ _ _ _ => (av 5 (show (nX ++ (["label"]:List Str):List Str).Nodup by decide +kernel))) (fun _ _ _ _ => cU) (fun _ _ _ _ => (GU (oI hr (ab 5) (ab 4)) (ab 3) (ab 5))))) af))))))
abbrev yS:Stmt:=top 11
abbrev qq:List Str:=["layout","thing"]
theorem Fw:aG qq ["layout","thing"] (ak yS):=⟨rfl,rfl,rfl,by decide +kernel,rfl,by decide +kernel,by decide +kernel⟩
def oy:M Fl :=
 (fz (fK (do let x <- (mC (aE 2 (aW mN kI)) (ae (ah 1) (ae (mC aZ (ae (m2 b_ (ah 0) (pure (.int 1))) (pure []))) (pure [])))); lift (cx x))) never (pure .nx))
variable (P w K mg base) in
abbrev hU (k:Nat):Prop:=Kn P w K mg base dg k "need_head" ["layout","thing"] (iZ 2 (aW qq oy))
theorem EA {k:Nat} (E:Ent K mg "need_head" ["layout","thing"] yS) (m:Bi mg) (G_q23:eK P w K mg base k):hU P w K mg base (k + 1) :=
 oi E Fw fun _ cdv A outer s H E hr =>
  (ao (cg (dU (cy (aV G_q23 hr (aa (ab 1) (aa (bj m.len (aa (aw (ab 0) aj) af)) af))))) (ao qA) bg))
abbrev xy:Stmt:=top 12
abbrev kG:List Str:=["layout","column","many","heads"]
theorem tK:aG kG ["layout","column"] (ak xy):=⟨rfl,rfl,rfl,by decide +kernel,rfl,by decide +kernel,by decide +kernel⟩
def oE:M Fl :=
 (aB (do let d <- (ah 0); (gN 2 (cw (ba 2) (cw (ba 3) gM))) d; pure Fl.nx)
  (aB (fz (fK (do let x <- (mC (aE 2 (aW mN kI)) (ae (ah 1) (ae (ah 2) (pure [])))); lift (cx x))) never (pure .nx))
  (do let d <- (mC cN (ae (do let xs <- (aX 4 2 (mC kc (ae (ah 3) (pure []))) (bh (gN 2 (cw (ba 4) (cw (ba 5) gM))) (m2 (jR false) (ah 1) (ah 5) >>= cQ) (ah 4))); pure (D.lst xs)) (pure []))); pure (Fl.rt d))))
variable (P w K mg base) in
abbrev gi (k:Nat):Prop:=Kn P w K mg base dg k "heads_of" ["layout","column"] (iZ 2 (aW kG oE))
theorem FK {k:Nat} (E:Ent K mg "heads_of" ["layout","column"] xy) (m:Bi mg) (G_q23:eK P w K mg base k):gi P w K mg base (k + 1) :=
 oi E tK fun _ cdv A outer s H E hr =>
  (ai (nk (ab 0) (fv (bB (av 2 tK.nd) (bB (av 3 tK.nd) dZ))))
  (ai (cg (dU (cy (aV G_q23 hr (aa (ab 1) (aa (ab 2) af))))) (ao qA) bg)
  (ao (aJ (c_ m.tuple (aa (ay (bx (N':=kG) (own:=["number","head"]) (lo:=4) (bT (vc m.enumerate (aa (ab 3) af))) (fun _ _ _ _ => (fv (bB (av 4 (show (kG ++ (["number","head"]:List Str):List Str).Nodup by decide +kernel)) (bB (av 5 (show (kG ++ (["number","head"]:List Str):List Str).Nodup by decide +kernel)) dZ)))) (fun _ _ _ _ => bU (jL (ab 1) (ab 5))) (fun _ _ _ _ => (ab 4)))) af))))))
abbrev yo:Stmt:=top 13
abbrev mm:List Str:=["layout","one","other","heads"]
theorem yg:aG mm ["layout","one","other"] (ak yo):=⟨rfl,rfl,rfl,by decide +kernel,rfl,by decide +kernel,by decide +kernel⟩
def oW:M Fl :=
 (aB (do let _ <- (mC (aE 2 (aW qq oy)) (ae (ah 0) (ae (ah 1) (pure [])))); pure Fl.nx)
  (aB (do let _ <- (mC (aE 2 (aW qq oy)) (ae (ah 0) (ae (ah 2) (pure [])))); pure Fl.nx)
  (aB (dD 3 (m2 b_ (ah 0) (pure (.int 1))))
  (do let d <- (mC cN (ae (do let xs <- (aX 4 1 (do let x <- (m2 b_ (ah 3) (ah 1)); lift (aO x)) (bh (ba 4) (m2 (jR false) (ah 4) (m2 b_ (ah 3) (ah 2)) >>= cQ) (ah 4))); pure (D.lst xs)) (pure []))); pure (Fl.rt d)))))
variable (P w K mg base) in
abbrev jJ (k:Nat):Prop:=Kn P w K mg base dg k "common" ["layout","one","other"] (iZ 3 (aW mm oW))
theorem E4 {k:Nat} (E:Ent K mg "common" ["layout","one","other"] yo) (m:Bi mg) (G_q13:hU P w K mg base k):jJ P w K mg base (k + 1) :=
 oi E yg fun _ cdv A outer s H E hr =>
  (ai (ub (aV G_q13 hr (aa (ab 0) (aa (ab 1) af))))
  (ai (ub (aV G_q13 hr (aa (ab 0) (aa (ab 2) af))))
  (ai (aU 3 yg.nd (aw (ab 0) aj))
  (ao (aJ (c_ m.tuple (aa (ay (bx (N':=mm) (own:=["column"]) (lo:=4) (bT (bQ (aw (ab 3) (ab 1)))) (fun _ _ _ _ => (av 4 (show (mm ++ (["column"]:List Str):List Str).Nodup by decide +kernel))) (fun _ _ _ _ => bU (jL (ab 4) (aw (ab 3) (ab 2)))) (fun _ _ _ _ => (ab 4)))) af)))))))
abbrev FO:Stmt:=top 14
abbrev vB:List Str:=["layout"]
theorem Hu:aG vB ["layout"] (ak FO):=⟨rfl,rfl,rfl,by decide +kernel,rfl,by decide +kernel,by decide +kernel⟩
def yu:M Fl :=
 (do let d <- (mC cN (ae (do let xs <- (aX 1 1 (mC cF (ae (m2 b_ (ah 0) (pure (.int 0))) (pure []))) (bh (ba 1) (do let x <- (mC (aE 2 (aW kG oE)) (ae (ah 0) (ae (ah 1) (pure [])))); lift (cx x)) (ah 1))); pure (D.lst xs)) (pure []))); pure (Fl.rt d))
variable (P w K mg base) in
abbrev dz (k:Nat):Prop:=Kn P w K mg base dg k "columns_in_heads" ["layout"] (iZ 1 (aW vB yu))
theorem GC {k:Nat} (E:Ent K mg "columns_in_heads" ["layout"] FO) (m:Bi mg) (G_q22:gi P w K mg base k):dz P w K mg base (k + 1) :=
 oi E Hu fun _ cdv A outer s H E hr =>
  (ao (aJ (c_ m.tuple (aa (ay (bx (N':=vB) (own:=["column"]) (lo:=1) (bT (bt rfl m.range (aa (aw (ab 0) aj) af))) (fun _ _ _ _ => (av 1 (show (vB ++ (["column"]:List Str):List Str).Nodup by decide +kernel))) (fun _ _ _ _ => bU (cy (aV G_q22 hr (aa (ab 0) (aa (ab 1) af))))) (fun _ _ _ _ => (ab 1)))) af))))
abbrev xN:Stmt:=top 15
abbrev kE:List Str:=["layout","numbers","labels","one","other"]
theorem jX:aG kE ["layout"] (ak xN):=⟨rfl,rfl,rfl,by decide +kernel,rfl,by decide +kernel,by decide +kernel⟩
def rX:M Fl :=
 (aB (dD 1 (do let xs <- (mC nI (ae (mC aZ (ae (m2 b_ (ah 0) (pure (.int 1))) (pure []))) (pure []))); pure (D.lst xs)))
  (aB (dD 2 (mC cN (ae (ah 1) (pure []))))
  (aB (
  do let it <- (do let x <- (ah 1); lift (aO x)); forM (ba 3) (
  do let it <- (do let x <- (kS (ah 1) (pure none) ((ah 3) >>= kQ)); lift (aO x)); forM (ba 4) (fz (do let x <- (mC (aE 3 (aW mm oW)) (ae (ah 0) (ae (ah 3) (ae (ah 4) (pure []))))); lift (cx x)) (dD 2 (mC (aE 3 (aW nX qR)) (ae (ah 2) (ae (ah 3) (ae (ah 4) (pure [])))))) (pure .nx)) it.2 it.1) it.2 it.1)
  (do let d <- (aX 5 1 (do let x <- (ah 1); lift (aO x)) (bh (ba 5) ((m2 (iy false) (m2 b_ (ah 2) (ah 5)) (ah 5)) >>= cQ) (mC cN (ae (do let xs <- (aX 6 1 (do let x <- (ah 1); lift (aO x)) (bh (ba 6) ((m2 (iy false) (m2 b_ (ah 2) (ah 6)) (ah 5)) >>= cQ) (ah 6))); pure (D.lst xs)) (pure []))))); pure (Fl.rf d)))))
variable (P w K mg base) in
abbrev l_ (k:Nat):Prop:=Kn P w K mg base dg k "pieces" ["layout"] (CP 1 (fY kE rX))
theorem Fu {k:Nat} (E:Ent K mg "pieces" ["layout"] xN) (m:Bi mg) (G_q30:jJ P w K mg base k) (G_q31:l8 P w K mg base k):l_ P w K mg base (k + 1) :=
 Ij E jX fun _ cdv A outer s H E hr =>
  (ai (aU 1 jX.nd (ay (mX m.list m.range (aa (bj m.len (aa (aw (ab 0) aj) af)) af))))
  (ai (aU 2 jX.nd (c_ m.tuple (aa (ab 1) af)))
  (ai (du (bQ (ab 1)) (av 3 jX.nd) (ao (du (bQ (bu (ab 1) bH (bK (ab 3)))) (av 4 jX.nd) (ao (cg (cy (aV G_q30 hr (aa (ab 0) (aa (ab 3) (aa (ab 4) af))))) (ao (aU 2 jX.nd (aV G_q31 hr (aa (ab 2) (aa (ab 3) (aa (ab 4) af)))))) bg)))))
  (ao (jl (bx (N':=kE) (own:=["least"]) (lo:=5) (bT (bQ (ab 1))) (fun _ _ _ _ => (av 5 (show (kE ++ (["least"]:List Str):List Str).Nodup by decide +kernel))) (fun _ _ _ _ => bU (oI hr (aw (ab 2) (ab 5)) (ab 5))) (fun _ _ _ _ => (c_ m.tuple (aa (ay (bx (N':=(kE ++ (["least"]:List Str))) (own:=["number"]) (lo:=6) (bT (bQ (ab 1))) (fun _ _ _ _ => (av 6 (show ((kE ++ (["least"]:List Str)) ++ (["number"]:List Str):List Str).Nodup by decide +kernel))) (fun _ _ _ _ => bU (oI hr (aw (ab 2) (ab 6)) (ab 5))) (fun _ _ _ _ => (ab 6)))) af)))))))))
abbrev zB:Stmt:=top 18
abbrev uk:List Str:=["heads"]
theorem FI:aG uk ["heads"] (ak zB):=⟨rfl,rfl,rfl,by decide +kernel,rfl,by decide +kernel,by decide +kernel⟩
def rR:M Fl :=
 (do let d <- (mC Bg (ae (ah 0) (ae (m2 b4 (kS (ah 0) ((pure (.int 1)) >>= kQ) (pure none)) (kS (ah 0) (pure none) ((pure (.int 1)) >>= kQ))) (pure [])))); pure (Fl.rf d))
variable (P w K mg base) in
abbrev g6 (k:Nat):Prop:=Kn P w K mg base dg k "with_next" ["heads"] (CP 1 (fY uk rR))
theorem FG {k:Nat} (E:Ent K mg "with_next" ["heads"] zB) (m:Bi mg):g6 P w K mg base (k + 1) :=
 Ij E FI fun _ cdv A outer s H E hr =>
  (ao (jl (s_ m.list m.zip (aa (ab 0) (aa (cK (bu (ab 0) (bK aj) bH) (bu (ab 0) bH (bK aj))) af)))))
abbrev DZ:Stmt:=top 19
abbrev zJ:List Str:=["thing","many"]
theorem F7:aG zJ ["thing","many"] (ak DZ):=⟨rfl,rfl,rfl,by decide +kernel,rfl,by decide +kernel,by decide +kernel⟩
def vf:M Fl :=
 (do let d <- (qy (mC (aE 2 (aW o7 rq)) (ae (ah 0) (ae (ah 1) (pure [])))) (mC (aE 1 (aW Au y3)) (ae (ah 0) (pure [])))); pure (Fl.rt d))
variable (P w K mg base) in
abbrev dv (k:Nat):Prop:=Kn P w K mg base dg k "are_unlike_below" ["thing","many"] (iZ 2 (aW zJ vf))
theorem HA {k:Nat} (E:Ent K mg "are_unlike_below" ["thing","many"] DZ) (G_q15:ix P w K mg base k) (G_q7:gD P w K mg base k):dv P w K mg base (k + 1) :=
 oi E F7 fun _ cdv A outer s H E hr =>
  (ao (aJ (mM (aV G_q15 hr (aa (ab 0) (aa (ab 1) af))) (kg (aV G_q7 hr (aa (ab 0) af))))))
abbrev yz:Stmt:=top 20
abbrev jw:List Str:=["layout","thing","heads","columns"]
theorem sE:aG jw ["layout","thing"] (ak yz):=⟨rfl,rfl,rfl,by decide +kernel,rfl,by decide +kernel,by decide +kernel⟩
def oH:M Fl :=
 (aB (fz (n_ (fK (do let x <- (iR .tup (ah 1)); lift (cx x))) (m2 (dj true) (mC aZ (ae (ah 1) (pure []))) (pure (.int 2)) >>= cQ)) (do let d <- (pure (.bl false)); pure (Fl.rt d)) (pure .nx))
  (aB (do let d <- (ah 1); (gN 2 (cw (ba 2) (cw (ba 3) gM))) d; pure Fl.nx)
  (aB (fz (n_ (fK (do let x <- (mC (aE 2 (aW zJ vf)) (ae (ah 2) (ae (mC aZ (ae (m2 b_ (ah 0) (pure (.int 1))) (pure []))) (pure [])))); lift (cx x))) (fK (do let x <- (mC (aE 2 (aW zJ vf)) (ae (ah 3) (ae (m2 b_ (ah 0) (pure (.int 0))) (pure [])))); lift (cx x)))) (do let d <- (pure (.bl false)); pure (Fl.rt d)) (pure .nx))
  (aB (fz (n_ (m2 oG (mC aZ (ae (ah 2) (pure []))) (pure (.int 2)) >>= cQ) (m2 (dj true) (mC aZ (ae (ah 3) (pure []))) (mC aZ (ae (ah 2) (pure []))) >>= cQ)) (do let d <- (pure (.bl false)); pure (Fl.rt d)) (pure .nx))
  (do let d <- (mC jg (ae (do let xs <- (aX 4 3 (mC kn (ae (ah 3) (ae (do let xs <- (mC (aE 1 (fY uk rR)) (ae (ah 2) (pure []))); pure (D.lst xs)) (pure [])))) (bh (gN 2 (cw (ba 4) (cw (gN 2 (cw (ba 5) (cw (ba 6) gM))) gM))) (pure true) (m2 (jR false) (ah 4) (mC (aE 3 (aW mm oW)) (ae (ah 0) (ae (ah 5) (ae (ah 6) (pure [])))))))); pure (D.lst xs)) (pure []))); pure (Fl.rt d))))))
variable (P w K mg base) in
abbrev jZ (k:Nat):Prop:=Kn P w K mg base dg k "is_loop" ["layout","thing"] (iZ 2 (aW jw oH))
theorem D6 {k:Nat} (E:Ent K mg "is_loop" ["layout","thing"] yz) (m:Bi mg) (G_q1:dv P w K mg base k) (G_q30:jJ P w K mg base k) (G_q20:g6 P w K mg base k):jZ P w K mg base (k + 1) :=
 oi E sE fun _ cdv A outer s H E hr =>
  (ai (cg (iQ (fP (dU (cy (fE .tup m.isinstance m.tuple (ab 1)))) (eI (ng (bj m.len (aa (ab 1) af)) aj)))) (ao (aJ d4)) bg)
  (ai (nk (ab 1) (fv (bB (av 2 sE.nd) (bB (av 3 sE.nd) dZ))))
  (ai (cg (iQ (fP (dU (cy (aV G_q1 hr (aa (ab 2) (aa (bj m.len (aa (aw (ab 0) aj) af)) af))))) (eI (dU (cy (aV G_q1 hr (aa (ab 3) (aa (aw (ab 0) aj) af)))))))) (ao (aJ d4)) bg)
  (ai (cg (iQ (fP (wG (bj m.len (aa (ab 2) af)) (yP m.g_LEAST_LOOP)) (eI (ng (bj m.len (aa (ab 3) af)) (bj m.len (aa (ab 2) af)))))) (ao (aJ d4)) bg)
  (ao (aJ (qj m.all (aa (ay (bx (N':=jw) (own:=["column","one","other"]) (lo:=4) (bT (w4 m.zip (aa (ab 3) (aa (ay (jM G_q20 hr (aa (ab 2) af))) af)))) (fun _ _ _ _ => (fv (bB (av 4 (show (jw ++ (["column","one","other"]:List Str):List Str).Nodup by decide +kernel)) (bB (fv (bB (av 5 (show (jw ++ (["column","one","other"]:List Str):List Str).Nodup by decide +kernel)) (bB (av 6 (show (jw ++ (["column","one","other"]:List Str):List Str).Nodup by decide +kernel)) dZ))) dZ)))) (fun _ _ _ _ => cU) (fun _ _ _ _ => (GQ (ab 4) (aV G_q30 hr (aa (ab 0) (aa (ab 5) (aa (ab 6) af)))))))) af))))))))
abbrev uK:Stmt:=top 22
abbrev qx:List Str:=["layout","heads","columns","head","place"]
theorem yI:aG qx ["layout","heads","columns","head"] (ak uK):=⟨rfl,rfl,rfl,by decide +kernel,rfl,by decide +kernel,by decide +kernel⟩
def oJ (rec:List D -> Option D):M Fl :=
 (aB (fz ((m2 (iy false) (ah 3) (m2 b_ (ah 1) (m1 jN (pure (.int 1))))) >>= cQ) (do let d <- (pure .non); pure (Fl.rt d)) (pure .nx))
  (aB (fz (m2 (jR false) (ah 3) (ah 1) >>= cQ) (aB (dD 4 (FT (ah 1) (ae (ah 3) (pure []))))
  (do let d <- (bL (ae (kS (ah 1) ((ah 4) >>= kQ) (pure none)) (ae (kS (ah 2) ((ah 4) >>= kQ) (pure none)) (pure [])))); pure (Fl.rt d))) (pure .nx))
  (do let d <- (mC (aE 3 rec) (ae (ah 0) (ae (m2 b4 (ah 1) (bL (ae (ah 3) (pure [])))) (ae (ah 2) (pure []))))); pure (Fl.rt d))))
theorem Dq {k:Nat} {rec:List D -> Option D} (E:Ent K mg "loop_by" ["layout","heads","columns","head"] uK) (G_q18:Kn P w K mg base dg k "loop_from" ["layout","heads","columns"] (iZ 3 rec)):Kn P w K mg base dg (k + 1) "loop_by" ["layout","heads","columns","head"] (iZ 4 (aW qx (oJ rec))) :=
 oi E yI fun _ cdv A outer s H E hr =>
  (ai (cg (oI hr (ab 3) (aw (ab 1) (mI aj))) (ao (aJ gj)) bg)
  (ai (cg (jL (ab 3) (ab 1)) (ai (aU 4 yI.nd (zp (ab 1) (aa (ab 3) af)))
  (ao (aJ (aK (aa (bu (ab 1) (bK (ab 4)) bH) (aa (bu (ab 2) (bK (ab 4)) bH) af)))))) bg)
  (ao (aJ (aV G_q18 hr (aa (ab 0) (aa (cK (ab 1) (aK (aa (ab 3) af))) (aa (ab 2) af))))))))
abbrev yv:Stmt:=top 21
abbrev uM:List Str:=["layout","heads","columns","column","head","found"]
theorem pv:aG uM ["layout","heads","columns"] (ak yv):=⟨rfl,rfl,rfl,by decide +kernel,rfl,by decide +kernel,by decide +kernel⟩
def qs (rec:List D -> Option D):M Fl :=
 (aB (
  do let it <- (do let x <- (m2 b_ (m2 b_ (ah 0) (pure (.int 1))) (m2 b_ (ah 1) (m1 jN (pure (.int 1))))); lift (aO x)); forM (ba 3) (fz (m2 (jR true) (ah 3) (ah 2) >>= cQ) (
  do let it <- (do let x <- (mC (aE 2 (aW kG oE)) (ae (ah 0) (ae (ah 3) (pure [])))); lift (aO x)); forM (ba 4) (aB (dD 5 (mC (aE 4 (aW qx (oJ rec))) (ae (ah 0) (ae (ah 1) (ae (m2 b4 (ah 2) (bL (ae (ah 3) (pure [])))) (ae (ah 4) (pure [])))))))
  (fz (m2 (jI true) (ah 5) (pure .non) >>= cQ) (do let d <- (ah 5); pure (Fl.rt d)) (pure .nx))) it.2 it.1) (pure .nx)) it.2 it.1)
  (do let d <- (pure .non); pure (Fl.rt d)))
def iq:Nat -> List D -> Option D
 | 0 => fun _ => none
 | n + 1 => aW uM (qs (iq n))
variable (P w K mg base) in
abbrev kL (k:Nat):Prop:=Kn P w K mg base dg k "loop_from" ["layout","heads","columns"] (iZ 3 (iq 8))
theorem yR {k:Nat} (E:Ent K mg "loop_from" ["layout","heads","columns"] yv) (E_loop_by:Ent K mg "loop_by" ["layout","heads","columns","head"] uK) (G_q22:gi P w K mg base k):∀ n:Nat,Kn P w K mg base dg (k + 2 * n) "loop_from" ["layout","heads","columns"] (iZ 3 (iq n))
 | 0 => AW E
 | n + 1 => by
  have G_q18:=yR (k:=k) E E_loop_by G_q22 n
  have G_q27:=Dq (k:=k + 2 * n) E_loop_by G_q18
  have G_q22:=G_q22.up (show k ≤ k + 2 * n + 1 by omega)
  show Kn P w K mg base dg (k + 2 * n + 1 + 1) "loop_from" ["layout","heads","columns"] (iZ 3 (aW uM (qs (iq n))))
  exact oi E pv fun _ cdv A outer s H E hr =>
  (ai (du (bQ (aw (aw (ab 0) aj) (aw (ab 1) (mI aj)))) (av 3 pv.nd) (ao (cg (jk (ab 3) (ab 2)) (ao (du (bQ (aV G_q22 hr (aa (ab 0) (aa (ab 3) af)))) (av 4 pv.nd) (ai (aU 5 pv.nd (aV G_q27 hr (aa (ab 0) (aa (ab 1) (aa (cK (ab 2) (aK (aa (ab 3) af))) (aa (ab 4) af))))))
  (ao (cg (qg (ab 5) gj) (ao (aJ (ab 5))) bg))))) bg)))
  (ao (aJ gj)))
abbrev zv:Stmt:=top 23
abbrev o_:List Str:=["layout","head","found"]
theorem sf:aG o_ ["layout"] (ak zv):=⟨rfl,rfl,rfl,by decide +kernel,rfl,by decide +kernel,by decide +kernel⟩
def mF:M Fl :=
 (aB (
  do let it <- (mC cF (ae (mC aZ (ae (m2 b_ (ah 0) (pure (.int 1))) (pure []))) (pure []))); forM (ba 1) (aB (dD 2 (mC (aE 3 (iq 8)) (ae (ah 0) (ae (bL (ae (ah 1) (pure []))) (ae (bL (pure [])) (pure []))))))
  (fz (m2 (jI true) (ah 2) (pure .non) >>= cQ) (do let d <- (ah 2); pure (Fl.rt d)) (pure .nx))) it.2 it.1)
  (do let d <- (pure .non); pure (Fl.rt d)))
variable (P w K mg base) in
abbrev j8 (k:Nat):Prop:=Kn P w K mg base dg k "loop_of" ["layout"] (iZ 1 (aW o_ mF))
theorem EK {k:Nat} (E:Ent K mg "loop_of" ["layout"] zv) (m:Bi mg) (G_q18:kL P w K mg base k):j8 P w K mg base (k + 1) :=
 oi E sf fun _ cdv A outer s H E hr =>
  (ai (du (bt rfl m.range (aa (bj m.len (aa (aw (ab 0) aj) af)) af)) (av 1 sf.nd) (ai (aU 2 sf.nd (aV G_q18 hr (aa (ab 0) (aa (aK (aa (ab 1) af)) (aa (aK af) af)))))
  (ao (cg (qg (ab 2) gj) (ao (aJ (ab 2))) bg))))
  (ao (aJ gj)))
abbrev yT:Stmt:=top 24
abbrev nZ:List Str:=["layout","heads"]
theorem w_:aG nZ ["layout"] (ak yT):=⟨rfl,rfl,rfl,by decide +kernel,rfl,by decide +kernel,by decide +kernel⟩
def rG:M Fl :=
 (aB (dD 1 (m2 b_ (ah 0) (pure (.int 1))))
  (do let d <- (bL (ae (mC aZ (ae (mC (aE 1 (aW vB yu)) (ae (ah 0) (pure []))) (pure []))) (ae (mC aZ (ae (ah 1) (pure []))) (ae (mC vU (ae (do let xs <- (aX 2 1 (do let x <- (ah 1); lift (aO x)) (bh (ba 2) (pure true) (mC aZ (ae (ah 2) (pure []))))); pure (D.lst xs)) (pure []))) (ae (mC aZ (ae (do let xs <- (mC (aE 1 (fY kE rX)) (ae (ah 0) (pure []))); pure (D.lst xs)) (pure []))) (pure [])))))); pure (Fl.rt d)))
variable (P w K mg base) in
abbrev iu (k:Nat):Prop:=Kn P w K mg base dg k "counts_of" ["layout"] (iZ 1 (aW nZ rG))
theorem Ei {k:Nat} (E:Ent K mg "counts_of" ["layout"] yT) (m:Bi mg) (G_q0:dz P w K mg base k) (G_q32:l_ P w K mg base k):iu P w K mg base (k + 1) :=
 oi E w_ fun _ cdv A outer s H E hr =>
  (ai (aU 1 w_.nd (aw (ab 0) aj))
  (ao (aJ (aK (aa (bj m.len (aa (aV G_q0 hr (aa (ab 0) af)) af)) (aa (bj m.len (aa (ab 1) af)) (aa (yq m.sum (aa (ay (bx (N':=nZ) (own:=["head"]) (lo:=2) (bT (bQ (ab 1))) (fun _ _ _ _ => (av 2 (show (nZ ++ (["head"]:List Str):List Str).Nodup by decide +kernel))) (fun _ _ _ _ => cU) (fun _ _ _ _ => (bj m.len (aa (ab 2) af))))) af)) (aa (bj m.len (aa (ay (jM G_q32 hr (aa (ab 0) af))) af)) af))))))))
abbrev yd:Stmt:=top 26
abbrev ux:List Str:=["_law_script","_law_k"]
theorem Du:aG ux ["_law_script","_law_k"] (ak yd):=⟨rfl,rfl,rfl,by decide +kernel,rfl,by decide +kernel,by decide +kernel⟩
def lQ:M Fl :=
 (aB (fz (m2 oG (ah 1) (mC aZ (ae (ah 0) (pure []))) >>= cQ) (do let d <- (m2 b_ (ah 0) (ah 1)); pure (Fl.rt d)) (pure .nx))
  (do let d <- (m2 c6 (m2 nF (pure (.int 6151)) (ah 1)) (pure (.int 29))); pure (Fl.rt d)))
variable (P w K mg base) in
abbrev ir (k:Nat):Prop:=Kn P w K mg base dg k "_law_cell" ["_law_script","_law_k"] (iZ 2 (aW ux lQ))
theorem Fv {k:Nat} (E:Ent K mg "_law_cell" ["_law_script","_law_k"] yd) (m:Bi mg):ir P w K mg base (k + 1) :=
 oi E Du fun _ cdv A outer s H E hr =>
  (ai (cg (wG (ab 1) (bj m.len (aa (ab 0) af))) (ao (aJ (aw (ab 0) (ab 1)))) bg)
  (ao (aJ (cP (p8 aj (ab 1)) aj))))
abbrev zH:Stmt:=top 27
abbrev qr:List Str:=["_law_cell_here","_law_k","_law_number"]
theorem sF:aG qr ["_law_cell_here","_law_k"] (ak zH):=⟨rfl,rfl,rfl,by decide +kernel,rfl,by decide +kernel,by decide +kernel⟩
def oV:M Fl :=
 (aB (dD 2 (m2 c6 (m2 nF (m2 c6 (ah 0) (pure (.int 1))) (pure (.int 40692))) (m2 nF (pure (.int 104729)) (ah 1))))
  (aB (dD 2 (m2 c6 (m2 nK (m2 om (ah 2) (ah 2)) (pure (.int 2147483399))) (ah 1)))
  (do let d <- (m2 nK (m2 om (ah 2) (m2 c6 (ah 2) (pure (.int 31)))) (pure (.int 2147483563))); pure (Fl.rt d))))
variable (P w K mg base) in
abbrev i_ (k:Nat):Prop:=Kn P w K mg base dg k "_law_mix" ["_law_cell_here","_law_k"] (iZ 2 (aW qr oV))
theorem Fi {k:Nat} (E:Ent K mg "_law_mix" ["_law_cell_here","_law_k"] zH):i_ P w K mg base (k + 1) :=
 oi E sF fun _ cdv A outer s H E hr =>
  (ai (aU 2 sF.nd (cP (p8 (cP (ab 0) aj) aj) (p8 aj (ab 1))))
  (ai (aU 2 sF.nd (cP (mw (um (ab 2) (ab 2)) aj) (ab 1)))
  (ao (aJ (mw (um (ab 2) (cP (ab 2) aj)) aj)))))
abbrev xP:Stmt:=top 28
abbrev rA:List Str:=["_law_script","_law_k","_law_here","_law_number","_law_j"]
theorem mz:aG rA ["_law_script","_law_k"] (ak xP):=⟨rfl,rfl,rfl,by decide +kernel,rfl,by decide +kernel,by decide +kernel⟩
def oC:M Fl :=
 (aB (dD 2 (mC (aE 2 (aW ux lQ)) (ae (ah 0) (ae (ah 1) (pure [])))))
  (aB (fz (m2 (dj false) (m2 nK (ah 2) (pure (.int 2))) (pure (.int 0)) >>= cQ) (do let d <- (cV (ae (m2 FJ (ah 2) (pure (.int 2))) (pure []))); pure (Fl.rf d)) (pure .nx))
  (aB (dD 3 (pure (.int 0)))
  (aB (
  do let it <- (mC cF (ae (pure (.int 24)) (pure []))); forM (ba 4) (dD 3 (m2 c6 (m2 nF (ah 3) (pure (.int 2147483647))) (mC (aE 2 (aW qr oV)) (ae (ah 2) (ae (ah 4) (pure [])))))) it.2 it.1)
  (do let d <- (cV (ae (ah 3) (pure []))); pure (Fl.rf d))))))
variable (P w K mg base) in
abbrev i9 (k:Nat):Prop:=Kn P w K mg base dg k "_law_box" ["_law_script","_law_k"] (CP 2 (fY rA oC))
theorem DM {k:Nat} (E:Ent K mg "_law_box" ["_law_script","_law_k"] xP) (m:Bi mg) (G_q17:ir P w K mg base k) (G_q26:i_ P w K mg base k):i9 P w K mg base (k + 1) :=
 Ij E mz fun _ cdv A outer s H E hr =>
  (ai (aU 2 mz.nd (aV G_q17 hr (aa (ab 0) (aa (ab 1) af))))
  (ai (cg (h_ (mw (ab 2) aj) aj) (ao (jl (br (aa (ES (ab 2) aj) af)))) bg)
  (ai (aU 3 mz.nd aj)
  (ai (du (bt rfl m.range (aa aj af)) (av 4 mz.nd) (ao (aU 3 mz.nd (cP (p8 (ab 3) aj) (aV G_q26 hr (aa (ab 2) (aa (ab 4) af)))))))
  (ao (jl (br (aa (ab 3) af))))))))
abbrev wQ:Stmt:=top 29
abbrev cj:List Str:=["_law_box_here","_law_many","_law_left","_law_digit"]
theorem tj:aG cj ["_law_box_here","_law_many"] (ak wQ):=⟨rfl,rfl,rfl,by decide +kernel,rfl,by decide +kernel,by decide +kernel⟩
def b5:M Fl :=
 (aB (do let d <- (mC jv (ae (pJ 0 (pure (.int 0))) (ae (ah 1) (pure [])))); (gN 2 (cw (ba 2) (cw (ba 3) gM))) d; pure Fl.nx)
  (aB (pQ 0 (ah 2) 0)
  (do let d <- (ah 3); pure (Fl.rt d))))
variable (P w K mg base) in
abbrev bZ (k:Nat):Prop:=Kn P w K mg base dg k "_law_take" ["_law_box_here","_law_many"] (vp 2 (bp cj b5))
theorem EH {k:Nat} (E:Ent K mg "_law_take" ["_law_box_here","_law_many"] wQ) (m:Bi mg):bZ P w K mg base (k + 1) :=
 Af E tj fun _ cdv A outer s H E hr =>
  (ai (nk (vh m.divmod (aa (km 0 aj) (aa (ab 1) af))) (fv (bB (av 2 tj.nd) (bB (av 3 tj.nd) dZ))))
  (ai (zf 0 (ab 2))
  (ao (aJ (ab 3)))))
abbrev xG:Stmt:=top 30
abbrev gS:List Str:=["_law_box_here","_law_many","_law_some"]
theorem tV:aG gS ["_law_box_here","_law_many"] (ak xG):=⟨rfl,rfl,rfl,by decide +kernel,rfl,by decide +kernel,by decide +kernel⟩
def i5:M Fl :=
 (aB (dD 2 (do let xs <- (aX 3 1 (mC cF (ae (ah 1) (pure []))) (bh (ba 3) (m2 (dj false) (do let _ <- aF 0; bR 0 2 (bp cj b5) (ae (pure (.int 3)) (pure []))) (pure (.int 0)) >>= cQ) (ah 3))); pure (D.lst xs)))
  (aB (fz ((m2 (iy false) (ah 2) (do let xs <- (cV (pure [])); pure (D.lst xs))) >>= cQ) (dD 2 (do let xs <- (cV (ae (do let _ <- aF 0; bR 0 2 (bp cj b5) (ae (ah 1) (pure []))) (pure []))); pure (D.lst xs))) (pure .nx))
  (do let d <- (mC cN (ae (ah 2) (pure []))); pure (Fl.rt d))))
variable (P w K mg base) in
abbrev fj (k:Nat):Prop:=Kn P w K mg base dg k "_law_head" ["_law_box_here","_law_many"] (vp 2 (bp gS i5))
theorem DD {k:Nat} (E:Ent K mg "_law_head" ["_law_box_here","_law_many"] xG) (m:Bi mg) (G_q14:bZ P w K mg base k):fj P w K mg base (k + 1) :=
 Af E tV fun _ cdv A outer s H E hr =>
  (ai (eT 2 tV.nd (N':=gS) (own:=["_law_column"]) (lo:=3) (bT (bt rfl m.range (aa (ab 1) af))) (fun _ _ _ _ => (av 3 (show (gS ++ (["_law_column"]:List Str):List Str).Nodup by decide +kernel))) (fun _ _ _ _ => bU (h_ (ax 0 G_q14 hr (aa aj af)) aj)) (fun _ _ _ _ => (ab 3)))
  (ai (cg (oI hr (ab 2) (ay (br af))) (ao (aU 2 tV.nd (ay (br (aa (ax 0 G_q14 hr (aa (ab 1) af)) af))))) bg)
  (ao (aJ (c_ m.tuple (aa (ab 2) af))))))
abbrev zm:Stmt:=top 31
abbrev iY:List Str:=["_law_box_here","_law_many","_law_heads","_law_found","_law_turn","_law_way","_law_base","_law_kept","_law_met","_law_fresh","_law_head_here"]
theorem fu:aG iY ["_law_box_here","_law_many","_law_heads"] (ak zm):=⟨rfl,rfl,rfl,by decide +kernel,rfl,by decide +kernel,by decide +kernel⟩
def rQ:M Fl :=
 (aB (sx 3 (cV (ae (do let _ <- aF 0; bR 0 2 (bp gS i5) (ae (ah 1) (pure []))) (pure []))))
  (aB (
  do let it <- (mC cF (ae (m2 jT (ah 2) (pure (.int 1))) (pure []))); forM (ba 4) (aB (dD 5 (do let _ <- aF 0; bR 0 2 (bp cj b5) (ae (pure (.int 4)) (pure []))))
  (aB (dD 6 (pJ 3 (m2 b_ (do let xs <- (cV (ae (m2 jT (jO 3) (pure (.int 1))) (ae (do let _ <- aF 0; bR 0 2 (bp cj b5) (ae (jO 3) (pure []))) (pure [])))); pure (D.lst xs)) (mC ju (ae (m2 uy (ah 5) (pure (.int 1))) (pure []))))))
  (aB (dD 7 (do let xs <- (aX 11 1 (do let x <- (ah 6); lift (aO x)) (bh (ba 11) (m2 uy (do let _ <- aF 0; bR 0 2 (bp cj b5) (ae (pure (.int 3)) (pure []))) (pure (.int 0)) >>= cQ) (ah 11))); pure (D.lst xs)))
  (aB (dD 8 (do let xs <- (aX 11 1 (mC cF (ae (ah 1) (pure []))) (bh (ba 11) ((m2 (iy true) (do let xs <- (aX 12 1 (do let xs <- aF 3; pure (c9 3 xs.length)) (bh (ba 12) (m2 (jR false) (ah 11) (ah 12) >>= cQ) (ah 12))); pure (D.lst xs)) (do let xs <- (cV (pure [])); pure (D.lst xs))) >>= cQ) (ah 11))); pure (D.lst xs)))
  (aB (dD 9 (do let xs <- (aX 11 1 (mC cF (ae (ah 1) (pure []))) (bh (ba 11) (qh (m2 (jR true) (ah 11) (ah 8) >>= cQ) (m2 (dj false) (do let _ <- aF 0; bR 0 2 (bp cj b5) (ae (pure (.int 2)) (pure []))) (pure (.int 0)) >>= cQ)) (ah 11))); pure (D.lst xs)))
  (aB (dD 10 (do let xs <- (mQ sortI (do let x <- (do let xs <- (lL j9 (do let x <- (ah 7); pure (Hn.th x)) (do let x <- (ah 9); pure (Hn.th x))); pure (D.lst xs)); lift (fS x))); pure (D.lst xs)))
  (aB (fz ((m2 (iy false) (ah 10) (do let xs <- (cV (pure [])); pure (D.lst xs))) >>= cQ) (dD 10 (do let xs <- (cV (ae (m2 b_ (ah 6) (do let _ <- aF 0; bR 0 2 (bp cj b5) (ae (mC aZ (ae (ah 6) (pure []))) (pure [])))) (pure []))); pure (D.lst xs))) (pure .nx))
  (c5 3 (ae (mC cN (ae (ah 10) (pure []))) (pure [])))))))))) it.2 it.1)
  (do let d <- (do let xs <- (pb 3); pure (D.lst xs)); pure (Fl.rt d))))
variable (P w K mg base) in
abbrev gF (k:Nat):Prop:=Kn P w K mg base dg k "_law_grown" ["_law_box_here","_law_many","_law_heads"] (vp 3 (bp iY rQ))
theorem Ff {k:Nat} (E:Ent K mg "_law_grown" ["_law_box_here","_law_many","_law_heads"] zm) (m:Bi mg) (G_q19:fj P w K mg base k) (G_q14:bZ P w K mg base k):gF P w K mg base (k + 1) :=
 Af E fu fun _ cdv A outer s H E hr =>
  (ai (eD 3 fu.nd (br (aa (ax 0 G_q19 hr (aa (ab 1) af)) af)))
  (ai (du (bt rfl m.range (aa (l5 (ab 2) aj) af)) (av 4 fu.nd) (ai (aU 5 fu.nd (ax 0 G_q14 hr (aa aj af)))
  (ai (aU 6 fu.nd (km 3 (aw (ay (br (aa (l5 (iC 3 m.len) aj) (aa (ax 0 G_q14 hr (aa (iC 3 m.len) af)) af)))) (ud m.int (aa (GR (ab 5) aj) af)))))
  (ai (eT 7 fu.nd (N':=iY) (own:=["_law_column"]) (lo:=11) (bT (bQ (ab 6))) (fun _ _ _ _ => (av 11 (show (iY ++ (["_law_column"]:List Str):List Str).Nodup by decide +kernel))) (fun _ _ _ _ => bU (yK (ax 0 G_q14 hr (aa aj af)) aj)) (fun _ _ _ _ => (ab 11)))
  (ai (aU 8 fu.nd (ay (bx (N':=iY) (own:=["_law_column"]) (lo:=11) (bT (bt rfl m.range (aa (ab 1) af))) (fun _ _ _ _ => (av 11 (show (iY ++ (["_law_column"]:List Str):List Str).Nodup by decide +kernel))) (fun _ _ _ _ => bU (iX hr (ay (bx (N':=(["_law_box_here","_law_many","_law_heads","_law_found","_law_turn","_law_way","_law_base","_law_kept","_law_met","_law_fresh","?10","_law_column"]:List Str)) (own:=["_law_head_here"]) (lo:=12) (Dz 3) (fun _ _ _ _ => (av 12 (show ((["_law_box_here","_law_many","_law_heads","_law_found","_law_turn","_law_way","_law_base","_law_kept","_law_met","_law_fresh","?10","_law_column"]:List Str) ++ (["_law_head_here"]:List Str):List Str).Nodup by decide +kernel))) (fun _ _ _ _ => bU (jL (ab 11) (ab 12))) (fun _ _ _ _ => (ab 12)))) (ay (br af)))) (fun _ _ _ _ => (ab 11)))))
  (ai (eT 9 fu.nd (N':=iY) (own:=["_law_column"]) (lo:=11) (bT (bt rfl m.range (aa (ab 1) af))) (fun _ _ _ _ => (av 11 (show (iY ++ (["_law_column"]:List Str):List Str).Nodup by decide +kernel))) (fun _ _ _ _ => bU (iQ (kx (jk (ab 11) (ab 8)) (jH (h_ (ax 0 G_q14 hr (aa aj af)) aj))))) (fun _ _ _ _ => (ab 11)))
  (ai (aU 10 fu.nd (ay (kl m.sorted (oO (ay (mG (fm (ab 7)) (fm (ab 9))))))))
  (ai (cg (oI hr (ab 10) (ay (br af))) (ao (aU 10 fu.nd (ay (br (aa (aw (ab 6) (ax 0 G_q14 hr (aa (bj m.len (aa (ab 6) af)) af))) af))))) bg)
  (ao (cZ 3 (aa (c_ m.tuple (aa (ab 10) af)) af)))))))))))
  (ao (aJ (ay (ET 3))))))
abbrev DX:Stmt:=top 32
abbrev nQ:List Str:=["_law_box_here","_law_many","_law_size"]
theorem zx:aG nQ ["_law_box_here","_law_many"] (ak DX):=⟨rfl,rfl,rfl,by decide +kernel,rfl,by decide +kernel,by decide +kernel⟩
def xh:M Fl :=
 (aB (fz (n_ (m2 (dj false) (ah 1) (pure (.int 3)) >>= cQ) (m2 (dj false) (do let _ <- aF 0; bR 0 2 (bp cj b5) (ae (pure (.int 2)) (pure []))) (pure (.int 0)) >>= cQ)) (aB (dD 2 (m2 c6 (pure (.int 3)) (do let _ <- aF 0; bR 0 2 (bp cj b5) (ae (m2 jT (mC jG (ae (pure (.int 6)) (ae (ah 1) (pure [])))) (pure (.int 2))) (pure [])))))
  (do let d <- (do let xs <- (aX 3 1 (mC cF (ae (ah 2) (pure []))) (bh (ba 3) (pure true) (mC cN (ae (do let xs <- (aX 4 1 (mC cF (ae (ah 2) (pure []))) (bh (ba 4) ((m2 (iy true) (ah 4) (ah 3)) >>= cQ) (ah 4))); pure (D.lst xs)) (pure []))))); pure (D.lst xs)); pure (Fl.rt d))) (pure .nx))
  (aB (dD 2 (m2 c6 (pure (.int 4)) (do let _ <- aF 0; bR 0 2 (bp cj b5) (ae (m2 jT (mC jG (ae (pure (.int 6)) (ae (ah 1) (pure [])))) (pure (.int 3))) (pure [])))))
  (do let d <- (do let xs <- (aX 3 1 (mC cF (ae (ah 2) (pure []))) (bh (ba 3) (pure true) (mC cN (ae (do let xs <- (mQ sortI (do let x <- (do let xs <- (cV (ae (ah 3) (ae (m2 nK (m2 c6 (ah 3) (pure (.int 1))) (ah 2)) (pure [])))); pure (D.lst xs)); lift (fS x))); pure (D.lst xs)) (pure []))))); pure (D.lst xs)); pure (Fl.rt d))))
variable (P w K mg base) in
abbrev fC (k:Nat):Prop:=Kn P w K mg base dg k "_law_barred" ["_law_box_here","_law_many"] (vp 2 (bp nQ xh))
theorem Hz {k:Nat} (E:Ent K mg "_law_barred" ["_law_box_here","_law_many"] DX) (m:Bi mg) (G_q14:bZ P w K mg base k):fC P w K mg base (k + 1) :=
 Af E zx fun _ cdv A outer s H E hr =>
  (ai (cg (iQ (fP (h_ (ab 1) aj) (eI (h_ (ax 0 G_q14 hr (aa aj af)) aj)))) (ai (aU 2 zx.nd (cP aj (ax 0 G_q14 hr (aa (l5 (pS m.min (aa aj (aa (ab 1) af))) aj) af))))
  (ao (aJ (ay (bx (N':=nQ) (own:=["_law_lack"]) (lo:=3) (bT (bt rfl m.range (aa (ab 2) af))) (fun _ _ _ _ => (av 3 (show (nQ ++ (["_law_lack"]:List Str):List Str).Nodup by decide +kernel))) (fun _ _ _ _ => cU) (fun _ _ _ _ => (c_ m.tuple (aa (ay (bx (N':=(nQ ++ (["_law_lack"]:List Str))) (own:=["_law_column"]) (lo:=4) (bT (bt rfl m.range (aa (ab 2) af))) (fun _ _ _ _ => (av 4 (show ((nQ ++ (["_law_lack"]:List Str)) ++ (["_law_column"]:List Str):List Str).Nodup by decide +kernel))) (fun _ _ _ _ => bU (iX hr (ab 4) (ab 3))) (fun _ _ _ _ => (ab 4)))) af)))))))) bg)
  (ai (aU 2 zx.nd (cP aj (ax 0 G_q14 hr (aa (l5 (pS m.min (aa aj (aa (ab 1) af))) aj) af))))
  (ao (aJ (ay (bx (N':=nQ) (own:=["_law_column"]) (lo:=3) (bT (bt rfl m.range (aa (ab 2) af))) (fun _ _ _ _ => (av 3 (show (nQ ++ (["_law_column"]:List Str):List Str).Nodup by decide +kernel))) (fun _ _ _ _ => cU) (fun _ _ _ _ => (c_ m.tuple (aa (ay (kl m.sorted (oO (ay (br (aa (ab 3) (aa (mw (cP (ab 3) aj) (ab 2)) af))))))) af)))))))))
abbrev x8:Stmt:=top 33
abbrev fM:List Str:=["_law_box_here","_law_many","_law_heads","_law_left","_law_names","_law_rows","_law_found"]
theorem mJ:aG fM ["_law_box_here","_law_many","_law_heads"] (ak x8):=⟨rfl,rfl,rfl,by decide +kernel,rfl,by decide +kernel,by decide +kernel⟩
def kJ:M Fl :=
 (aB (sx 3 (mC nI (ae (ah 1) (pure []))))
  (aB (dD 4 (do let xs <- (aX 7 1 (mC cF (ae (ah 1) (pure []))) (bh (ba 7) (pure true) (wA 3 (ae (do let _ <- aF 0; bR 0 2 (bp cj b5) (ae (jO 3) (pure []))) (pure []))))); pure (D.lst xs)))
  (aB (sx 5 (aX 7 1 (do let x <- (ah 2); lift (aO x)) (bh (ba 7) (pure true) (mC cN (ae (do let xs <- (mQ sortI (do let x <- (do let xs <- (aX 8 1 (do let x <- (ah 7); lift (aO x)) (bh (ba 8) (pure true) (m2 b_ (ah 4) (ah 8)))); pure (D.lst xs)); lift (fS x))); pure (D.lst xs)) (pure []))))))
  (aB (sx 6 (cV (pure [])))
  (aB (CY ((lL (zR true) (pV 5) (do let x <- (do let xs <- (cV (pure [])); pure (D.lst xs)); pure (Hn.th x))) >>= cQ) (c5 6 (ae (wA 5 (ae (do let _ <- aF 0; bR 0 2 (bp cj b5) (ae (jO 5) (pure []))) (pure []))) (pure []))) 7)
  (do let d <- (do let xs <- aF 6; pure (D.tup xs)); pure (Fl.rt d)))))))
variable (P w K mg base) in
abbrev gf (k:Nat):Prop:=Kn P w K mg base dg k "_law_named" ["_law_box_here","_law_many","_law_heads"] (vp 3 (bp fM kJ))
theorem EZ {k:Nat} (E:Ent K mg "_law_named" ["_law_box_here","_law_many","_law_heads"] x8) (m:Bi mg) (G_q14:bZ P w K mg base k):gf P w K mg base (k + 1) :=
 Af E mJ fun _ cdv A outer s H E hr =>
  (ai (eD 3 mJ.nd (mX m.list m.range (aa (ab 1) af)))
  (ai (aU 4 mJ.nd (ay (bx (N':=fM) (own:=["_law_turn"]) (lo:=7) (bT (bt rfl m.range (aa (ab 1) af))) (fun _ _ _ _ => (av 7 (show (fM ++ (["_law_turn"]:List Str):List Str).Nodup by decide +kernel))) (fun _ _ _ _ => cU) (fun _ _ _ _ => (xt 3 (aa (ax 0 G_q14 hr (aa (iC 3 m.len) af)) af))))))
  (ai (BL 5 mJ.nd (N':=fM) (own:=["_law_head_here"]) (lo:=7) (bT (bQ (ab 2))) (fun _ _ _ _ => (av 7 (show (fM ++ (["_law_head_here"]:List Str):List Str).Nodup by decide +kernel))) (fun _ _ _ _ => cU) (fun _ _ _ _ => (c_ m.tuple (aa (ay (kl m.sorted (oO (ay (bx (N':=(fM ++ (["_law_head_here"]:List Str))) (own:=["_law_column"]) (lo:=8) (bT (bQ (ab 7))) (fun _ _ _ _ => (av 8 (show ((fM ++ (["_law_head_here"]:List Str)) ++ (["_law_column"]:List Str):List Str).Nodup by decide +kernel))) (fun _ _ _ _ => cU) (fun _ _ _ _ => (aw (ab 4) (ab 8)))))))) af))))
  (ai (eD 6 mJ.nd (br af))
  (ai (xA 7 (Ey hr (kv 5) (fm (ay (br af)))) (ao (cZ 6 (aa (xt 5 (aa (ax 0 G_q14 hr (aa (iC 5 m.len) af)) af)) af))))
  (ao (aJ (dP 6 m.tuple))))))))
abbrev Eo:Stmt:=top 34
abbrev qv:List Str:=["_law_box_here","_law_most","_law_heads","_law_many","_law_number","_law_way","_law_some","_law_extra"]
theorem ou:aG qv ["_law_box_here","_law_most","_law_heads"] (ak Eo):=⟨rfl,rfl,rfl,by decide +kernel,rfl,by decide +kernel,by decide +kernel⟩
def xW:M Fl :=
 (aB (dD 3 (m2 c6 (pure (.int 1)) (do let _ <- aF 0; bR 0 2 (bp cj b5) (ae (ah 1) (pure [])))))
  (aB (dD 4 (m2 c6 (pure (.int 1)) (do let _ <- aF 0; bR 0 2 (bp cj b5) (ae (ah 2) (pure [])))))
  (aB (dD 5 (do let _ <- aF 0; bR 0 2 (bp cj b5) (ae (pure (.int 5)) (pure []))))
  (aB (fz (qh (m2 (dj false) (ah 5) (pure (.int 0)) >>= cQ) (m2 uy (ah 3) (pure (.int 2)) >>= cQ)) (aB (dD 6 (do let _ <- aF 0; bR 0 2 (bp nQ xh) (ae (ah 3) (pure []))))
  (aB (dD 7 (do let xs <- (aX 8 1 (mC cF (ae (do let _ <- aF 0; bR 0 2 (bp cj b5) (ae (m2 c6 (pure (.int 1)) (mC lu (ae (pure (.int 0)) (ae (m2 jT (ah 2) (mC aZ (ae (ah 6) (pure [])))) (pure []))))) (pure []))) (pure []))) (bh (ba 8) (pure true) (do let _ <- aF 0; bR 0 2 (bp gS i5) (ae (ah 3) (pure []))))); pure (D.lst xs)))
  (do let d <- (bL (ae (ah 3) (ae (do let _ <- aF 0; bR 0 3 (bp fM kJ) (ae (ah 3) (ae (kS (do let xs <- (lL j9 (do let x <- (ah 6); pure (Hn.th x)) (do let x <- (ah 7); pure (Hn.th x))); pure (D.lst xs)) (pure none) ((pure (.int 6)) >>= kQ)) (pure [])))) (pure [])))); pure (Fl.rt d)))) (pure .nx))
  (aB (fz (m2 (dj false) (ah 5) (pure (.int 1)) >>= cQ) (do let d <- (bL (ae (ah 3) (ae (do let _ <- aF 0; bR 0 3 (bp fM kJ) (ae (ah 3) (ae (do let xs <- (aX 8 1 (mC cF (ae (ah 4) (pure []))) (bh (ba 8) (pure true) (do let _ <- aF 0; bR 0 2 (bp gS i5) (ae (ah 3) (pure []))))); pure (D.lst xs)) (pure [])))) (pure [])))); pure (Fl.rt d)) (pure .nx))
  (do let d <- (bL (ae (ah 3) (ae (do let _ <- aF 0; bR 0 3 (bp fM kJ) (ae (ah 3) (ae (do let _ <- aF 0; bR 0 3 (bp iY rQ) (ae (ah 3) (ae (ah 4) (pure [])))) (pure [])))) (pure [])))); pure (Fl.rt d)))))))
variable (P w K mg base) in
abbrev fB (k:Nat):Prop:=Kn P w K mg base dg k "_law_layout" ["_law_box_here","_law_most","_law_heads"] (vp 3 (bp qv xW))
theorem Gp {k:Nat} (E:Ent K mg "_law_layout" ["_law_box_here","_law_most","_law_heads"] Eo) (m:Bi mg) (G_q6:fC P w K mg base k) (G_q11:gF P w K mg base k) (G_q19:fj P w K mg base k) (G_q10:gf P w K mg base k) (G_q14:bZ P w K mg base k):fB P w K mg base (k + 1) :=
 Af E ou fun _ cdv A outer s H E hr =>
  (ai (aU 3 ou.nd (cP aj (ax 0 G_q14 hr (aa (ab 1) af))))
  (ai (aU 4 ou.nd (cP aj (ax 0 G_q14 hr (aa (ab 2) af))))
  (ai (aU 5 ou.nd (ax 0 G_q14 hr (aa aj af)))
  (ai (cg (iQ (kx (h_ (ab 5) aj) (jH (yK (ab 3) aj)))) (ai (aU 6 ou.nd (ax 0 G_q6 hr (aa (ab 3) af)))
  (ai (eT 7 ou.nd (N':=qv) (own:=["_law_turn"]) (lo:=8) (bT (bt rfl m.range (aa (ax 0 G_q14 hr (aa (cP aj (r8 m.max (aa aj (aa (l5 (ab 2) (bj m.len (aa (ab 6) af))) af)))) af)) af))) (fun _ _ _ _ => (av 8 (show (qv ++ (["_law_turn"]:List Str):List Str).Nodup by decide +kernel))) (fun _ _ _ _ => cU) (fun _ _ _ _ => (ax 0 G_q19 hr (aa (ab 3) af))))
  (ao (aJ (aK (aa (ab 3) (aa (ax 0 G_q10 hr (aa (ab 3) (aa (bu (ay (mG (fm (ab 6)) (fm (ab 7)))) bH (bK aj)) af))) af))))))) bg)
  (ai (cg (h_ (ab 5) aj) (ao (aJ (aK (aa (ab 3) (aa (ax 0 G_q10 hr (aa (ab 3) (aa (ay (bx (N':=qv) (own:=["_law_turn"]) (lo:=8) (bT (bt rfl m.range (aa (ab 4) af))) (fun _ _ _ _ => (av 8 (show (qv ++ (["_law_turn"]:List Str):List Str).Nodup by decide +kernel))) (fun _ _ _ _ => cU) (fun _ _ _ _ => (ax 0 G_q19 hr (aa (ab 3) af))))) af))) af))))) bg)
  (ao (aJ (aK (aa (ab 3) (aa (ax 0 G_q10 hr (aa (ab 3) (aa (ax 0 G_q11 hr (aa (ab 3) (aa (ab 4) af))) af))) af))))))))))
abbrev Ee:Stmt:=top 35
abbrev vN:List Str:=["_law_found"]
theorem Gx:aG vN ["_law_found"] (ak Ee):=⟨rfl,rfl,rfl,by decide +kernel,rfl,by decide +kernel,by decide +kernel⟩
def tW:M Fl :=
 (do let d <- (qy (iR .int (ah 0)) (y8 (iR .bool (ah 0)))); pure (Fl.rt d))
variable (P w K mg base) in
abbrev eA (k:Nat):Prop:=Kn P w K mg base dg k "_law_whole" ["_law_found"] (iZ 1 (aW vN tW))
theorem Ht {k:Nat} (E:Ent K mg "_law_whole" ["_law_found"] Ee) (m:Bi mg):eA P w K mg base (k + 1) :=
 oi E Gx fun _ cdv A outer s H E hr =>
  (ao (aJ (mM (fE .int m.isinstance m.int (ab 0)) (kg (yw (fE .bool m.isinstance m.bool (ab 0)))))))
abbrev yO:Stmt:=top 36
abbrev oZ:List Str:=["_law_box_here","_law_some"]
theorem sU:aG oZ ["_law_box_here"] (ak yO):=⟨rfl,rfl,rfl,by decide +kernel,rfl,by decide +kernel,by decide +kernel⟩
def nc:M Fl :=
 (aB (dD 1 (do let xs <- (cV (ae (pure .non) (ae (pure (.bl true)) (ae (pure (.bl false)) (ae (m1 jN (pure (.int 1))) (ae (pure (.int 0)) (ae (pure (.int 1)) (ae (pure (.int 7)) (ae (pure (.int 10)) (ae (pure (.str "")) (ae (pure (.str "0")) (ae (pure (.str "none")) (ae (bL (pure [])) (ae (bL (ae (pure (.int 0)) (pure []))) (ae (bL (ae (pure (.int 0)) (ae (pure (.int 1)) (pure [])))) (ae (bL (ae (pure (.int 1)) (ae (pure (.int 0)) (pure [])))) (ae (bL (ae (pure (.int 0)) (ae (pure (.int 0)) (pure [])))) (ae (bL (ae (pure (.int 0)) (ae (pure (.bl true)) (pure [])))) (ae (do let xs <- (cV (ae (pure (.int 0)) (pure []))); pure (D.lst xs)) (ae (pure .dct) (pure []))))))))))))))))))))); pure (D.lst xs)))
  (aB (dD 1 (do let xs <- (lL j9 (do let x <- (ah 1); pure (Hn.th x)) (do let x <- (do let xs <- (cV (ae (bL (ae (bL (ae (pure (.int 0)) (pure []))) (pure []))) (ae (bL (ae (bL (ae (pure (.int 0)) (ae (pure (.int 1)) (pure [])))) (pure []))) (ae (do let xs <- (cV (ae (bL (ae (pure (.int 0)) (ae (pure (.int 1)) (pure [])))) (pure []))); pure (D.lst xs)) (ae (m2 wC (pure (.int 10)) (pure (.int 39))) (ae (bL (ae (pure (.int 0)) (ae (pure (.int 10)) (pure [])))) (ae (bL (ae (pure (.int 0)) (ae (m1 jN (pure (.int 1))) (pure [])))) (ae (bL (ae (bL (pure [])) (ae (bL (pure [])) (pure [])))) (ae (bL (ae (bL (ae (pure (.int 0)) (ae (pure (.int 1)) (pure [])))) (ae (bL (ae (pure (.int 0)) (ae (pure (.int 1)) (pure [])))) (pure [])))) (ae (bL (ae (bL (ae (pure (.int 0)) (ae (pure (.int 1)) (pure [])))) (ae (pure .non) (pure [])))) (pure []))))))))))); pure (D.lst xs)); pure (Hn.th x))); pure (D.lst xs)))
  (do let d <- (m2 b_ (ah 1) (do let _ <- aF 0; bR 0 2 (bp cj b5) (ae (mC aZ (ae (ah 1) (pure []))) (pure [])))); pure (Fl.rt d))))
variable (P w K mg base) in
abbrev fZ (k:Nat):Prop:=Kn P w K mg base dg k "_law_odd" ["_law_box_here"] (vp 1 (bp oZ nc))
theorem Es {k:Nat} (E:Ent K mg "_law_odd" ["_law_box_here"] yO) (m:Bi mg) (G_q14:bZ P w K mg base k):fZ P w K mg base (k + 1) :=
 Af E sU fun _ cdv A outer s H E hr =>
  (by
  refine ai ?_ ?_; (focus exact (by show ql _ (Stmt.Assign [Expr.Name _ _] (Expr.List _ _) _) (dD 1 _); refine uf 1 _ _ _ _ _ ?_ ?_ ?_ ?_ ?_ ?_; (focus exact sU.nd); (focus exact rfl); (focus first | exact Or.inl rfl | exact Or.inr rfl); (focus first | exact .inl rfl | exact .inr rfl); (focus exact AF); show DE _ (Expr.List _ _) _; refine ay ?_; refine br ?_; exact (by refine nz ?_ ?_; (focus exact gj); refine nz ?_ ?_; (focus exact d4); refine nz ?_ ?_; (focus exact d4); refine IJ ?_ ?_; (focus exact (mI aj)); refine nz ?_ ?_; (focus exact aj); refine nz ?_ ?_; (focus exact aj); refine nz ?_ ?_; (focus exact aj); refine nz ?_ ?_; (focus exact aj); refine nz ?_ ?_; (focus exact tG); refine nz ?_ ?_; (focus exact tG); refine nz ?_ ?_; (focus exact tG); refine j_ ?_ ?_; (focus exact (aK af)); refine j_ ?_ ?_; (focus exact (aK (aa aj af))); refine j_ ?_ ?_; (focus exact (aK (aa aj (aa aj af)))); refine j_ ?_ ?_; (focus exact (aK (aa aj (aa aj af)))); refine j_ ?_ ?_; (focus exact (aK (aa aj (aa aj af)))); refine j_ ?_ ?_; (focus exact (aK (aa aj (aa d4 af)))); refine GJ ?_ ?_; (focus exact (ay (br (aa aj af)))); refine Jy ?_ ?_; (focus exact wo); exact af))); exact (by
  refine ai ?_ ?_; (focus exact (by refine uf 1 _ _ _ _ _ ?_ ?_ ?_ ?_ ?_ ?_; (focus exact sU.nd); (focus exact rfl); (focus first | exact Or.inl rfl | exact Or.inr rfl); (focus first | exact .inl rfl | exact .inr rfl); (focus exact rfl); refine ay ?_; refine mG ?_ ?_; (focus exact (fm (ab 1))); refine fm ?_; refine ay ?_; refine br ?_; refine j_ ?_ ?_; (focus exact (aK (aa (aK (aa aj af)) af))); refine j_ ?_ ?_; (focus exact (aK (aa (aK (aa aj (aa aj af))) af))); refine GJ ?_ ?_; (focus exact (ay (br (aa (aK (aa aj (aa aj af))) af)))); refine aa ?_ ?_; (focus exact (Fm aj aj)); refine j_ ?_ ?_; (focus exact (aK (aa aj (aa aj af)))); refine j_ ?_ ?_; (focus exact (aK (aa aj (aa (mI aj) af)))); refine j_ ?_ ?_; (focus exact (aK (aa (aK af) (aa (aK af) af)))); refine j_ ?_ ?_; (focus exact (aK (aa (aK (aa aj (aa aj af))) (aa (aK (aa aj (aa aj af))) af)))); refine j_ ?_ ?_; (focus exact (aK (aa (aK (aa aj (aa aj af))) (aa gj af)))); exact af)); exact (ao (aJ (aw (ab 1) (ax 0 G_q14 hr (aa (bj m.len (aa (ab 1) af)) af)))))))
abbrev Dw:Stmt:=top 37
abbrev q0:List Str:=["_law_layout_here"]
theorem GB:aG q0 ["_law_layout_here"] (ak Dw):=⟨rfl,rfl,rfl,by decide +kernel,rfl,by decide +kernel,by decide +kernel⟩
def yx:M Fl :=
 (do let d <- (aX 1 1 (mC cF (ae (m2 b_ (ah 0) (pure (.int 0))) (pure []))) (bh (ba 1) ((m2 (iy true) (do let xs <- (aX 2 1 (do let x <- (m2 b_ (ah 0) (pure (.int 1))); lift (aO x)) (bh (ba 2) (m2 (jR false) (ah 1) (ah 2) >>= cQ) (ah 2))); pure (D.lst xs)) (do let xs <- (cV (pure [])); pure (D.lst xs))) >>= cQ) (ah 1))); pure (Fl.rf d))
variable (P w K mg base) in
abbrev eP (k:Nat):Prop:=Kn P w K mg base dg k "_law_columns" ["_law_layout_here"] (CP 1 (fY q0 yx))
theorem Gy {k:Nat} (E:Ent K mg "_law_columns" ["_law_layout_here"] Dw) (m:Bi mg):eP P w K mg base (k + 1) :=
 Ij E GB fun _ cdv A outer s H E hr =>
  (ao (jl (bx (N':=q0) (own:=["_law_column"]) (lo:=1) (bT (bt rfl m.range (aa (aw (ab 0) aj) af))) (fun _ _ _ _ => (av 1 (show (q0 ++ (["_law_column"]:List Str):List Str).Nodup by decide +kernel))) (fun _ _ _ _ => bU (iX hr (ay (bx (N':=(q0 ++ (["_law_column"]:List Str))) (own:=["_law_head_here"]) (lo:=2) (bT (bQ (aw (ab 0) aj))) (fun _ _ _ _ => (av 2 (show ((q0 ++ (["_law_column"]:List Str)) ++ (["_law_head_here"]:List Str):List Str).Nodup by decide +kernel))) (fun _ _ _ _ => bU (jL (ab 1) (ab 2))) (fun _ _ _ _ => (ab 2)))) (ay (br af)))) (fun _ _ _ _ => (ab 1)))))
abbrev ER:Stmt:=top 38
abbrev nv:List Str:=["_law_layout_here","_law_thing","_law_least","_law_part","_law_many","_law_heads","_law_columns_here","_law_k","_law_there"]
theorem lA:aG nv ["_law_layout_here","_law_thing","_law_least"] (ak ER):=⟨rfl,rfl,rfl,by decide +kernel,rfl,by decide +kernel,by decide +kernel⟩
def tD:M Fl :=
 (aB (fz (n_ (fK (do let x <- (iR .tup (ah 1)); lift (cx x))) (m2 (dj true) (mC aZ (ae (ah 1) (pure []))) (pure (.int 2)) >>= cQ)) (do let d <- (pure (.bl false)); pure (Fl.rt d)) (pure .nx))
  (aB (
  do let it <- (mC kn (ae (ah 1) (ae (do let xs <- (cV (ae (mC aZ (ae (m2 b_ (ah 0) (pure (.int 1))) (pure []))) (ae (m2 b_ (ah 0) (pure (.int 0))) (pure [])))); pure (D.lst xs)) (pure [])))); forM (gN 2 (cw (ba 3) (cw (ba 4) gM))) (aB (fz (n_ (fK (do let x <- (iR .tup (ah 3)); lift (cx x))) (n_ (fK (do let x <- (mC jg (ae (do let xs <- (aX 9 1 (do let x <- (ah 3); lift (aO x)) (bh (ba 9) (pure true) (mC (aE 1 (aW vN tW)) (ae (ah 9) (pure []))))); pure (D.lst xs)) (pure []))); lift (cx x))) (m2 (dj true) (mQ eO (do let x <- (ah 3); lift (fS x))) (mC aZ (ae (ah 3) (pure []))) >>= cQ))) (do let d <- (pure (.bl false)); pure (Fl.rt d)) (pure .nx))
  (fz ((m2 (iy true) (do let xs <- (aX 9 1 (do let x <- (ah 3); lift (aO x)) (bh (ba 9) (fK ((zU zX oG (pure (.int 0)) (ah 9) (ah 4)) >>= cQ)) (ah 9))); pure (D.lst xs)) (do let xs <- (cV (pure [])); pure (D.lst xs))) >>= cQ) (do let d <- (pure (.bl false)); pure (Fl.rt d)) (pure .nx))) it.2 it.1)
  (aB (do let d <- (ah 1); (gN 2 (cw (ba 5) (cw (ba 6) gM))) d; pure Fl.nx)
  (aB (fz (n_ (m2 (dj true) (mC aZ (ae (ah 5) (pure []))) (mC aZ (ae (ah 6) (pure []))) >>= cQ) (m2 oG (mC aZ (ae (ah 5) (pure []))) (ah 2) >>= cQ)) (do let d <- (pure (.bl false)); pure (Fl.rt d)) (pure .nx))
  (aB (
  do let it <- (mC cF (ae (mC aZ (ae (ah 5) (pure []))) (pure []))); forM (ba 7) (aB (dD 8 (do let xs <- (cV (ae (m2 b_ (m2 b_ (ah 0) (pure (.int 1))) (m2 b_ (ah 5) (ah 7))) (ae (m2 b_ (m2 b_ (ah 0) (pure (.int 1))) (m2 b_ (ah 5) (m2 nK (m2 c6 (ah 7) (pure (.int 1))) (mC aZ (ae (ah 5) (pure [])))))) (pure [])))); pure (D.lst xs)))
  (fz (n_ (m2 (jR true) (m2 b_ (ah 6) (ah 7)) (m2 b_ (ah 8) (pure (.int 0))) >>= cQ) (m2 (jR true) (m2 b_ (ah 6) (ah 7)) (m2 b_ (ah 8) (pure (.int 1))) >>= cQ)) (do let d <- (pure (.bl false)); pure (Fl.rt d)) (pure .nx))) it.2 it.1)
  (do let d <- (pure (.bl true)); pure (Fl.rt d)))))))
variable (P w K mg base) in
abbrev gH (k:Nat):Prop:=Kn P w K mg base dg k "_law_turns" ["_law_layout_here","_law_thing","_law_least"] (iZ 3 (aW nv tD))
theorem GD {k:Nat} (E:Ent K mg "_law_turns" ["_law_layout_here","_law_thing","_law_least"] ER) (m:Bi mg) (G_q8:eA P w K mg base k):gH P w K mg base (k + 1) :=
 oi E lA fun _ cdv A outer s H E hr =>
  (ai (cg (iQ (fP (dU (cy (fE .tup m.isinstance m.tuple (ab 1)))) (eI (ng (bj m.len (aa (ab 1) af)) aj)))) (ao (aJ d4)) bg)
  (ai (du (w4 m.zip (aa (ab 1) (aa (ay (br (aa (bj m.len (aa (aw (ab 0) aj) af)) (aa (aw (ab 0) aj) af)))) af))) (fv (bB (av 3 lA.nd) (bB (av 4 lA.nd) dZ))) (ai (cg (iQ (fP (dU (cy (fE .tup m.isinstance m.tuple (ab 3)))) (fP (dU (cy (qj m.all (aa (ay (bx (N':=nv) (own:=["_law_one"]) (lo:=9) (bT (bQ (ab 3))) (fun _ _ _ _ => (av 9 (show (nv ++ (["_law_one"]:List Str):List Str).Nodup by decide +kernel))) (fun _ _ _ _ => cU) (fun _ _ _ _ => (aV G_q8 hr (aa (ab 9) af))))) af)))) (eI (ng (jU m.len m.set (oO (ab 3))) (bj m.len (aa (ab 3) af))))))) (ao (aJ d4)) bg)
  (ao (cg (iX hr (ay (bx (N':=nv) (own:=["_law_one"]) (lo:=9) (bT (bQ (ab 3))) (fun _ _ _ _ => (av 9 (show (nv ++ (["_law_one"]:List Str):List Str).Nodup by decide +kernel))) (fun _ _ _ _ => bU (dU (AU aj (ab 9) (ab 4)))) (fun _ _ _ _ => (ab 9)))) (ay (br af))) (ao (aJ d4)) bg))))
  (ai (nk (ab 1) (fv (bB (av 5 lA.nd) (bB (av 6 lA.nd) dZ))))
  (ai (cg (iQ (fP (ng (bj m.len (aa (ab 5) af)) (bj m.len (aa (ab 6) af))) (eI (wG (bj m.len (aa (ab 5) af)) (ab 2))))) (ao (aJ d4)) bg)
  (ai (du (bt rfl m.range (aa (bj m.len (aa (ab 5) af)) af)) (av 7 lA.nd) (ai (aU 8 lA.nd (ay (br (aa (aw (aw (ab 0) aj) (aw (ab 5) (ab 7))) (aa (aw (aw (ab 0) aj) (aw (ab 5) (mw (cP (ab 7) aj) (bj m.len (aa (ab 5) af))))) af)))))
  (ao (cg (iQ (fP (jk (aw (ab 6) (ab 7)) (aw (ab 8) aj)) (eI (jk (aw (ab 6) (ab 7)) (aw (ab 8) aj))))) (ao (aJ d4)) bg))))
  (ao (aJ d4)))))))
abbrev EN:Stmt:=top 39
abbrev kR:List Str:=["_law_box_here","_law_layout_here","_law_heads","_law_columns_here","_law_turn","_law_some","_law_fresh","_law_number","_law_head_here","_law_ends","_law_there","_law_shares"]
theorem iw:aG kR ["_law_box_here","_law_layout_here"] (ak EN):=⟨rfl,rfl,rfl,by decide +kernel,rfl,by decide +kernel,by decide +kernel⟩
def zr:M Fl :=
 (aB (sx 2 (cV (ae (do let _ <- aF 0; bR 0 2 (bp cj b5) (ae (mC aZ (ae (m2 b_ (ah 1) (pure (.int 1))) (pure []))) (pure []))) (pure []))))
  (aB (sx 3 (cV (pure [])))
  (aB (
  do let it <- (mC cF (ae (pure (.int 5)) (pure []))); forM (ba 4) (aB (dD 5 (do let xs <- (aX 12 1 (do let x <- (m2 b_ (m2 b_ (ah 1) (pure (.int 1))) (pJ 2 (m1 jN (pure (.int 1))))); lift (aO x)) (bh (ba 12) ((lL (Dj true) (do let x <- (ah 12); pure (Hn.th x)) (pV 3)) >>= cQ) (ah 12))); pure (D.lst xs)))
  (aB (sx 6 (cV (pure [])))
  (aB (
  do let it <- (mC kc (ae (m2 b_ (ah 1) (pure (.int 1))) (pure []))); forM (gN 2 (cw (ba 7) (cw (ba 8) gM))) (fz (qh ((lL (Dj true) (do let x <- (ah 7); pure (Hn.th x)) (pV 2)) >>= cQ) ((m2 (iy true) (do let xs <- (aX 12 1 (do let x <- (ah 5); lift (aO x)) (bh (ba 12) (m2 (jR false) (ah 12) (ah 8) >>= cQ) (ah 12))); pure (D.lst xs)) (do let xs <- (cV (pure [])); pure (D.lst xs))) >>= cQ)) (c5 6 (ae (ah 7) (pure []))) (pure .nx)) it.2 it.1)
  (aB (dD 9 (do let xs <- (aX 12 1 (do let x <- (ah 5); lift (aO x)) (bh (ba 12) (m2 (jR false) (ah 12) (m2 b_ (m2 b_ (ah 1) (pure (.int 1))) (pJ 2 (pure (.int 0)))) >>= cQ) (ah 12))); pure (D.lst xs)))
  (aB (fz (qh (m2 uy (jO 2) (pure (.int 1)) >>= cQ) (qh ((m2 (iy true) (ah 9) (do let xs <- (cV (pure [])); pure (D.lst xs))) >>= cQ) (n_ ((lL (zR false) (pV 6) (do let x <- (do let xs <- (cV (pure [])); pure (D.lst xs)); pure (Hn.th x))) >>= cQ) (m2 (dj false) (do let _ <- aF 0; bR 0 2 (bp cj b5) (ae (pure (.int 3)) (pure []))) (pure (.int 0)) >>= cQ)))) (do let d <- (bL (ae (do let xs <- aF 2; pure (D.tup xs)) (ae (m2 b4 (do let xs <- aF 3; pure (D.tup xs)) (bL (ae (m2 b_ (ah 9) (do let _ <- aF 0; bR 0 2 (bp cj b5) (ae (mC aZ (ae (ah 9) (pure []))) (pure [])))) (pure [])))) (pure [])))); pure (Fl.rt d)) (pure .nx))
  (aB (fz ((lL (zR false) (pV 6) (do let x <- (do let xs <- (cV (pure [])); pure (D.lst xs)); pure (Hn.th x))) >>= cQ) (do let d <- (bL (ae (do let xs <- aF 2; pure (D.tup xs)) (ae (do let xs <- aF 3; pure (D.tup xs)) (pure [])))); pure (Fl.rt d)) (pure .nx))
  (aB (dD 10 (pJ 6 (do let _ <- aF 0; bR 0 2 (bp cj b5) (ae (jO 6) (pure [])))))
  (aB (dD 11 (do let xs <- (aX 12 1 (do let x <- (ah 5); lift (aO x)) (bh (ba 12) (m2 (jR false) (ah 12) (m2 b_ (m2 b_ (ah 1) (pure (.int 1))) (ah 10)) >>= cQ) (ah 12))); pure (D.lst xs)))
  (aB (c5 3 (ae (m2 b_ (ah 11) (do let _ <- aF 0; bR 0 2 (bp cj b5) (ae (mC aZ (ae (ah 11) (pure []))) (pure [])))) (pure [])))
  (c5 2 (ae (ah 10) (pure [])))))))))))) it.2 it.1)
  (do let d <- (bL (ae (do let xs <- aF 2; pure (D.tup xs)) (ae (do let xs <- aF 3; pure (D.tup xs)) (pure [])))); pure (Fl.rt d)))))
variable (P w K mg base) in
abbrev dw (k:Nat):Prop:=Kn P w K mg base dg k "_law_drawn_turns" ["_law_box_here","_law_layout_here"] (vp 2 (bp kR zr))
theorem GK {k:Nat} (E:Ent K mg "_law_drawn_turns" ["_law_box_here","_law_layout_here"] EN) (m:Bi mg) (G_q14:bZ P w K mg base k):dw P w K mg base (k + 1) :=
 Af E iw fun _ cdv A outer s H E hr =>
  (ai (eD 2 iw.nd (br (aa (ax 0 G_q14 hr (aa (bj m.len (aa (aw (ab 1) aj) af)) af)) af)))
  (ai (eD 3 iw.nd (br af))
  (ai (du (bt rfl m.range (aa aj af)) (av 4 iw.nd) (ai (eT 5 iw.nd (N':=kR) (own:=["_law_column"]) (lo:=12) (bT (bQ (aw (aw (ab 1) aj) (km 2 (mI aj))))) (fun _ _ _ _ => (av 12 (show (kR ++ (["_law_column"]:List Str):List Str).Nodup by decide +kernel))) (fun _ _ _ _ => bU (oj (fm (ab 12)) (kv 3))) (fun _ _ _ _ => (ab 12)))
  (ai (eD 6 iw.nd (br af))
  (ai (du (vc m.enumerate (aa (aw (ab 1) aj) af)) (fv (bB (av 7 iw.nd) (bB (av 8 iw.nd) dZ))) (ao (cg (iQ (kx (oj (fm (ab 7)) (kv 2)) (jH (iX hr (ay (bx (N':=kR) (own:=["_law_column"]) (lo:=12) (bT (bQ (ab 5))) (fun _ _ _ _ => (av 12 (show (kR ++ (["_law_column"]:List Str):List Str).Nodup by decide +kernel))) (fun _ _ _ _ => bU (jL (ab 12) (ab 8))) (fun _ _ _ _ => (ab 12)))) (ay (br af)))))) (ao (cZ 6 (aa (ab 7) af))) bg)))
  (ai (eT 9 iw.nd (N':=kR) (own:=["_law_column"]) (lo:=12) (bT (bQ (ab 5))) (fun _ _ _ _ => (av 12 (show (kR ++ (["_law_column"]:List Str):List Str).Nodup by decide +kernel))) (fun _ _ _ _ => bU (jL (ab 12) (aw (aw (ab 1) aj) (km 2 aj)))) (fun _ _ _ _ => (ab 12)))
  (ai (cg (iQ (kx (yK (iC 2 m.len) aj) (kx (iX hr (ab 9) (ay (br af))) (jH (iQ (fP (xD hr (kv 6) (fm (ay (br af)))) (eI (h_ (ax 0 G_q14 hr (aa aj af)) aj)))))))) (ao (aJ (aK (aa (dP 2 m.tuple) (aa (cK (dP 3 m.tuple) (aK (aa (aw (ab 9) (ax 0 G_q14 hr (aa (bj m.len (aa (ab 9) af)) af))) af))) af))))) bg)
  (ai (cg (xD hr (kv 6) (fm (ay (br af)))) (ao (aJ (aK (aa (dP 2 m.tuple) (aa (dP 3 m.tuple) af))))) bg)
  (ai (aU 10 iw.nd (km 6 (ax 0 G_q14 hr (aa (iC 6 m.len) af))))
  (ai (eT 11 iw.nd (N':=kR) (own:=["_law_column"]) (lo:=12) (bT (bQ (ab 5))) (fun _ _ _ _ => (av 12 (show (kR ++ (["_law_column"]:List Str):List Str).Nodup by decide +kernel))) (fun _ _ _ _ => bU (jL (ab 12) (aw (aw (ab 1) aj) (ab 10)))) (fun _ _ _ _ => (ab 12)))
  (ai (cZ 3 (aa (aw (ab 11) (ax 0 G_q14 hr (aa (bj m.len (aa (ab 11) af)) af))) af))
  (ao (cZ 2 (aa (ab 10) af)))))))))))))
  (ao (aJ (aK (aa (dP 2 m.tuple) (aa (dP 3 m.tuple) af))))))))
abbrev xU:Stmt:=top 40
abbrev qX:List Str:=["_law_box_here","_law_layout_here","_law_thing","_law_heads","_law_columns_here","_law_odd_here","_law_at","_law_other","_law_column","_law_some"]
theorem gI:aG qX ["_law_box_here","_law_layout_here","_law_thing"] (ak xU):=⟨rfl,rfl,rfl,by decide +kernel,rfl,by decide +kernel,by decide +kernel⟩
def oh:M Fl :=
 (aB (do let d <- (ah 2); (gN 2 (cw (ba 3) (cw (ba 4) gM))) d; pure Fl.nx)
  (aB (dD 5 (do let _ <- aF 0; bR 0 1 (bp oZ nc) (pure [])))
  (aB (dD 6 (do let _ <- aF 0; bR 0 2 (bp cj b5) (ae (mC aZ (ae (ah 3) (pure []))) (pure []))))
  (aB (dD 7 (do let _ <- aF 0; bR 0 2 (bp cj b5) (ae (mC aZ (ae (m2 b_ (ah 1) (pure (.int 1))) (pure []))) (pure []))))
  (aB (dD 8 (do let _ <- aF 0; bR 0 2 (bp cj b5) (ae (m2 b_ (ah 1) (pure (.int 0))) (pure []))))
  (aB (sx 9 (cV (ae (bL (ae (m2 b4 (kS (ah 3) ((pure (.int 1)) >>= kQ) (pure none)) (kS (ah 3) (pure none) ((pure (.int 1)) >>= kQ))) (ae (m2 b4 (kS (ah 4) ((pure (.int 1)) >>= kQ) (pure none)) (kS (ah 4) (pure none) ((pure (.int 1)) >>= kQ))) (pure [])))) (ae (bL (ae (m1 yC (ah 3)) (ae (m1 yC (ah 4)) (pure [])))) (ae (bL (ae (ah 4) (ae (ah 3) (pure [])))) (pure []))))))
  (aB (c5 9 (ae (bL (ae (m2 b4 (m2 b4 (kS (ah 3) (pure none) ((ah 6) >>= kQ)) (bL (ae (ah 7) (pure [])))) (kS (ah 3) ((m2 c6 (ah 6) (pure (.int 1))) >>= kQ) (pure none))) (ae (ah 4) (pure [])))) (pure [])))
  (aB (c5 9 (ae (bL (ae (ah 3) (ae (m2 b4 (m2 b4 (kS (ah 4) (pure none) ((ah 6) >>= kQ)) (bL (ae (ah 8) (pure [])))) (kS (ah 4) ((m2 c6 (ah 6) (pure (.int 1))) >>= kQ) (pure none))) (pure [])))) (pure [])))
  (aB (c5 9 (ae (bL (ae (m2 b4 (kS (ah 3) (pure none) ((ah 6) >>= kQ)) (kS (ah 3) ((m2 c6 (ah 6) (pure (.int 1))) >>= kQ) (pure none))) (ae (m2 b4 (kS (ah 4) (pure none) ((ah 6) >>= kQ)) (kS (ah 4) ((m2 c6 (ah 6) (pure (.int 1))) >>= kQ) (pure none))) (pure [])))) (pure [])))
  (aB (sx 9 (lL j9 (pV 9) (do let x <- (do let xs <- (cV (ae (bL (ae (do let xs <- (mC dList (ae (ah 3) (pure []))); pure (D.lst xs)) (ae (ah 4) (pure [])))) (ae (do let xs <- (cV (ae (ah 3) (ae (ah 4) (pure [])))); pure (D.lst xs)) (ae (bL (ae (ah 3) (ae (ah 5) (pure [])))) (ae (ah 5) (ae (bL (ae (ah 3) (ae (ah 4) (ae (bL (pure [])) (pure []))))) (ae (bL (ae (ah 3) (ae (ah 3) (pure [])))) (pure [])))))))); pure (D.lst xs)); pure (Hn.th x))))
  (aB (c5 9 (ae (bL (ae (m2 b4 (ah 3) (kS (ah 3) (pure none) ((pure (.int 1)) >>= kQ))) (ae (m2 b4 (ah 4) (kS (ah 4) (pure none) ((pure (.int 1)) >>= kQ))) (pure [])))) (pure [])))
  (aB (c5 9 (ae (bL (ae (m2 b4 (m2 b4 (kS (ah 3) (pure none) ((ah 6) >>= kQ)) (bL (ae (ah 5) (pure [])))) (kS (ah 3) ((m2 c6 (ah 6) (pure (.int 1))) >>= kQ) (pure none))) (ae (ah 4) (pure [])))) (pure [])))
  (do let d <- (pJ 9 (do let _ <- aF 0; bR 0 2 (bp cj b5) (ae (pure (.int 14)) (pure [])))); pure (Fl.rt d))))))))))))))
variable (P w K mg base) in
abbrev gX (k:Nat):Prop:=Kn P w K mg base dg k "_law_bent" ["_law_box_here","_law_layout_here","_law_thing"] (vp 3 (bp qX oh))
theorem Dr {k:Nat} (E:Ent K mg "_law_bent" ["_law_box_here","_law_layout_here","_law_thing"] xU) (m:Bi mg) (G_q21:fZ P w K mg base k) (G_q14:bZ P w K mg base k):gX P w K mg base (k + 1) :=
 Af E gI fun _ cdv A outer s H E hr =>
  (ai (nk (ab 2) (fv (bB (av 3 gI.nd) (bB (av 4 gI.nd) dZ))))
  (ai (aU 5 gI.nd (ax 0 G_q21 hr af))
  (ai (aU 6 gI.nd (ax 0 G_q14 hr (aa (bj m.len (aa (ab 3) af)) af)))
  (ai (aU 7 gI.nd (ax 0 G_q14 hr (aa (bj m.len (aa (aw (ab 1) aj) af)) af)))
  (ai (aU 8 gI.nd (ax 0 G_q14 hr (aa (aw (ab 1) aj) af)))
  (ai (eD 9 gI.nd (br (aa (aK (aa (cK (bu (ab 3) (bK aj) bH) (bu (ab 3) bH (bK aj))) (aa (cK (bu (ab 4) (bK aj) bH) (bu (ab 4) bH (bK aj))) af))) (aa (aK (aa (yG (ab 3)) (aa (yG (ab 4)) af))) (aa (aK (aa (ab 4) (aa (ab 3) af))) af)))))
  (ai (cZ 9 (aa (aK (aa (cK (cK (bu (ab 3) bH (bK (ab 6))) (aK (aa (ab 7) af))) (bu (ab 3) (bK (cP (ab 6) aj)) bH)) (aa (ab 4) af))) af))
  (ai (cZ 9 (aa (aK (aa (ab 3) (aa (cK (cK (bu (ab 4) bH (bK (ab 6))) (aK (aa (ab 8) af))) (bu (ab 4) (bK (cP (ab 6) aj)) bH)) af))) af))
  (ai (cZ 9 (aa (aK (aa (cK (bu (ab 3) bH (bK (ab 6))) (bu (ab 3) (bK (cP (ab 6) aj)) bH)) (aa (cK (bu (ab 4) bH (bK (ab 6))) (bu (ab 4) (bK (cP (ab 6) aj)) bH)) af))) af))
  (ai (eD 9 gI.nd (mG (kv 9) (fm (ay (br (aa (aK (aa (ay (Cm m.list (aa (ab 3) af))) (aa (ab 4) af))) (aa (ay (br (aa (ab 3) (aa (ab 4) af)))) (aa (aK (aa (ab 3) (aa (ab 5) af))) (aa (ab 5) (aa (aK (aa (ab 3) (aa (ab 4) (aa (aK af) af)))) (aa (aK (aa (ab 3) (aa (ab 3) af))) af)))))))))))
  (ai (cZ 9 (aa (aK (aa (cK (ab 3) (bu (ab 3) bH (bK aj))) (aa (cK (ab 4) (bu (ab 4) bH (bK aj))) af))) af))
  (ai (cZ 9 (aa (aK (aa (cK (cK (bu (ab 3) bH (bK (ab 6))) (aK (aa (ab 5) af))) (bu (ab 3) (bK (cP (ab 6) aj)) bH)) (aa (ab 4) af))) af))
  (ao (aJ (km 9 (ax 0 G_q14 hr (aa aj af)))))))))))))))))
abbrev Er:Stmt:=top 41
abbrev rN:List Str:=["_law_heads","_law_names","_law_one","_law_other"]
theorem qT:aG rN ["_law_heads"] (ak Er):=⟨rfl,rfl,rfl,by decide +kernel,rfl,by decide +kernel,by decide +kernel⟩
def xp:M Fl :=
 (aB (dD 1 (do let xs <- (mC nI (ae (mC aZ (ae (ah 0) (pure []))) (pure []))); pure (D.lst xs)))
  (aB (
  do let it <- (mC cF (ae (mC aZ (ae (ah 0) (pure []))) (pure []))); forM (ba 2) (
  do let it <- (mC cF (ae (ah 2) (pure []))); forM (ba 3) (fz ((m2 (iy true) (do let xs <- (aX 4 1 (do let x <- (m2 b_ (ah 0) (ah 2)); lift (aO x)) (bh (ba 4) (m2 (jR false) (ah 4) (m2 b_ (ah 0) (ah 3)) >>= cQ) (ah 4))); pure (D.lst xs)) (do let xs <- (cV (pure [])); pure (D.lst xs))) >>= cQ) (dD 1 (do let xs <- (aX 4 1 (do let x <- (ah 1); lift (aO x)) (bh (ba 4) (pure true) (m2 b_ (do let xs <- (cV (ae (ah 4) (ae (m2 b_ (ah 1) (ah 2)) (pure [])))); pure (D.lst xs)) (mC ju (ae (m2 (iy false) (ah 4) (m2 b_ (ah 1) (ah 3))) (pure [])))))); pure (D.lst xs))) (pure .nx)) it.2 it.1) it.2 it.1)
  (do let d <- (mQ eO (do let x <- (ah 1); lift (fS x))); pure (Fl.rt d))))
variable (P w K mg base) in
abbrev fA (k:Nat):Prop:=Kn P w K mg base dg k "_law_pieces" ["_law_heads"] (iZ 1 (aW rN xp))
theorem Gi {k:Nat} (E:Ent K mg "_law_pieces" ["_law_heads"] Er) (m:Bi mg):fA P w K mg base (k + 1) :=
 oi E qT fun _ cdv A outer s H E hr =>
  (ai (aU 1 qT.nd (ay (mX m.list m.range (aa (bj m.len (aa (ab 0) af)) af))))
  (ai (du (bt rfl m.range (aa (bj m.len (aa (ab 0) af)) af)) (av 2 qT.nd) (ao (du (bt rfl m.range (aa (ab 2) af)) (av 3 qT.nd) (ao (cg (iX hr (ay (bx (N':=rN) (own:=["_law_column"]) (lo:=4) (bT (bQ (aw (ab 0) (ab 2)))) (fun _ _ _ _ => (av 4 (show (rN ++ (["_law_column"]:List Str):List Str).Nodup by decide +kernel))) (fun _ _ _ _ => bU (jL (ab 4) (aw (ab 0) (ab 3)))) (fun _ _ _ _ => (ab 4)))) (ay (br af))) (ao (aU 1 qT.nd (ay (bx (N':=rN) (own:=["_law_name"]) (lo:=4) (bT (bQ (ab 1))) (fun _ _ _ _ => (av 4 (show (rN ++ (["_law_name"]:List Str):List Str).Nodup by decide +kernel))) (fun _ _ _ _ => cU) (fun _ _ _ _ => (aw (ay (br (aa (ab 4) (aa (aw (ab 1) (ab 2)) af)))) (ud m.int (aa (Gg hr (ab 4) (aw (ab 1) (ab 3))) af)))))))) bg)))))
  (ao (aJ (jU m.len m.set (oO (ab 1)))))))
abbrev rF:Stmt:=top 42
abbrev mH:List Str:=["_law_script","_law_k","_law_box_here","_law_layout_here","_law_places","_law_due","_law_counts","_law_found","_law_thing","_law_things","_law_some","_law_told"]
theorem d7:aG mH ["_law_script"] (ak rF):=⟨rfl,rfl,rfl,by decide +kernel,rfl,by decide +kernel,by decide +kernel⟩
def uC:M Fl :=
 (aB (
  do let it <- (mC cF (ae (mC lu (ae (pure (.int 1)) (ae (mC jG (ae (mC aZ (ae (ah 0) (pure []))) (ae (pure (.int 5)) (pure [])))) (pure [])))) (pure []))); forM (ba 1) (aB (sx 2 (mC (aE 2 (fY rA oC)) (ae (ah 0) (ae (ah 1) (pure [])))))
  (aB (dD 3 (do let _ <- aF 2; bR 2 3 (bp qv xW) (ae (pure (.int 7)) (ae (pure (.int 6)) (pure [])))))
  (aB (dD 4 (mC vU (ae (do let xs <- (aX 12 1 (do let x <- (m2 b_ (ah 3) (pure (.int 1))); lift (aO x)) (bh (ba 12) (pure true) (mC aZ (ae (ah 12) (pure []))))); pure (D.lst xs)) (pure []))))
  (aB (dD 5 (bL (ae (mC aZ (ae (do let xs <- (mC (aE 1 (fY q0 yx)) (ae (ah 3) (pure []))); pure (D.lst xs)) (pure []))) (ae (mC aZ (ae (m2 b_ (ah 3) (pure (.int 1))) (pure []))) (ae (ah 4) (ae (mC (aE 1 (aW rN xp)) (ae (m2 b_ (ah 3) (pure (.int 1))) (pure []))) (pure [])))))))
  (aB (dD 6 (mC (aE 1 (aW nZ rG)) (ae (ah 3) (pure []))))
  (aB (fz (n_ (fK (do let x <- (iR .tup (ah 6)); lift (cx x))) (n_ ((m2 (iy true) (ah 6) (ah 5)) >>= cQ) (fK (do let x <- (mC jg (ae (do let xs <- (aX 12 1 (do let x <- (ah 6); lift (aO x)) (bh (ba 12) (pure true) (mC (aE 1 (aW vN tW)) (ae (ah 12) (pure []))))); pure (D.lst xs)) (pure []))); lift (cx x))))) (do let d <- (pure (.bl false)); pure (Fl.rt d)) (pure .nx))
  (aB (dD 7 (mC (aE 1 (aW o_ mF)) (ae (ah 3) (pure []))))
  (aB (fz ((m2 (iy true) (m2 (jI false) (ah 7) (pure .non)) (m2 (dj false) (m2 c6 (m2 b_ (ah 5) (pure (.int 0))) (m2 b_ (ah 5) (pure (.int 1)))) (m2 c6 (m2 b_ (ah 5) (pure (.int 2))) (m2 b_ (ah 5) (pure (.int 3)))))) >>= cQ) (do let d <- (pure (.bl false)); pure (Fl.rt d)) (pure .nx))
  (aB (fz (qh (m2 (jI true) (ah 7) (pure .non) >>= cQ) (fK (do let x <- (mC (aE 3 (aW nv tD)) (ae (ah 3) (ae (ah 7) (ae (pure (.int 2)) (pure []))))); lift (cx x)))) (do let d <- (pure (.bl false)); pure (Fl.rt d)) (pure .nx))
  (aB (dD 8 (do let _ <- aF 2; bR 2 2 (bp kR zr) (ae (ah 3) (pure []))))
  (aB (dD 9 (do let xs <- (cV (ae (ah 8) (ae (do let _ <- aF 2; bR 2 3 (bp qX oh) (ae (ah 3) (ae (ah 8) (pure [])))) (ae (ah 7) (ae (do let _ <- aF 2; bR 2 3 (bp qX oh) (ae (ah 3) (ae (Gu (ah 7) (ah 8)) (pure [])))) (pure [])))))); pure (D.lst xs)))
  (
  do let it <- (do let x <- (do let xs <- (lL j9 (do let x <- (ah 9); pure (Hn.th x)) (do let x <- (do let xs <- (cV (ae (do let _ <- aF 2; bR 2 1 (bp oZ nc) (pure [])) (pure []))); pure (D.lst xs)); pure (Hn.th x))); pure (D.lst xs)); lift (aO x)); forM (ba 10) (aB (dD 11 (mC (aE 2 (aW jw oH)) (ae (ah 3) (ae (ah 10) (pure [])))))
  (fz (n_ (fK (do let x <- (iR .bool (ah 11)); lift (cx x))) ((m2 (iy true) (ah 11) (mC (aE 3 (aW nv tD)) (ae (ah 3) (ae (ah 10) (ae (pure (.int 2)) (pure [])))))) >>= cQ)) (do let d <- (pure (.bl false)); pure (Fl.rt d)) (pure .nx))) it.2 it.1)))))))))))) it.2 it.1)
  (do let d <- (pure (.bl true)); pure (Fl.rt d)))
theorem Hj {k:Nat} (m:Bi mg) (G_q16:gX P w K mg base k) (G_q24:i9 P w K mg base k) (G_q3:eP P w K mg base k) (G_q2:dw P w K mg base k) (G_q5:fB P w K mg base k) (G_q21:fZ P w K mg base k) (G_q4:fA P w K mg base k) (G_q9:gH P w K mg base k) (G_q8:eA P w K mg base k) (G_q12:iu P w K mg base k) (G_q28:jZ P w K mg base k) (G_q29:j8 P w K mg base k) (f:Addr) (cdv:Value) (A:Around) (outer:List Env) (s:Shared) (H:Hp) (E:XK) (hr:cX k (A.deeper (PyProof.Rows.envOfC "law" (ak rF) s.heap.objs.size f cdv))):rZ (jz dg P w K mg base mH "law" (ak rF) f cdv A outer s H E).nox (cz rF) uC :=
  (ai (du (bt rfl m.range (aa (r8 m.max (aa aj (aa (pS m.min (aa (bj m.len (aa (ab 0) af)) (aa aj af))) af))) af)) (av 1 d7.nd) (ai (eD 2 d7.nd (jM G_q24 hr (aa (ab 0) (aa (ab 1) af))))
  (ai (aU 3 d7.nd (ax 2 G_q5 hr (aa aj (aa aj af))))
  (ai (aU 4 d7.nd (yq m.sum (aa (ay (bx (N':=mH) (own:=["_law_head_here"]) (lo:=12) (bT (bQ (aw (ab 3) aj))) (fun _ _ _ _ => (av 12 (show (mH ++ (["_law_head_here"]:List Str):List Str).Nodup by decide +kernel))) (fun _ _ _ _ => cU) (fun _ _ _ _ => (bj m.len (aa (ab 12) af))))) af)))
  (ai (aU 5 d7.nd (aK (aa (bj m.len (aa (ay (jM G_q3 hr (aa (ab 3) af))) af)) (aa (bj m.len (aa (aw (ab 3) aj) af)) (aa (ab 4) (aa (aV G_q4 hr (aa (aw (ab 3) aj) af)) af))))))
  (ai (aU 6 d7.nd (aV G_q12 hr (aa (ab 3) af)))
  (ai (cg (iQ (fP (dU (cy (fE .tup m.isinstance m.tuple (ab 6)))) (fP (iX hr (ab 6) (ab 5)) (eI (dU (cy (qj m.all (aa (ay (bx (N':=mH) (own:=["_law_one"]) (lo:=12) (bT (bQ (ab 6))) (fun _ _ _ _ => (av 12 (show (mH ++ (["_law_one"]:List Str):List Str).Nodup by decide +kernel))) (fun _ _ _ _ => cU) (fun _ _ _ _ => (aV G_q8 hr (aa (ab 12) af))))) af)))))))) (ao (aJ d4)) bg)
  (ai (aU 7 d7.nd (aV G_q29 hr (aa (ab 3) af)))
  (ai (cg (iX hr (EE (ab 7) gj) (zy (cP (aw (ab 5) aj) (aw (ab 5) aj)) (cP (aw (ab 5) aj) (aw (ab 5) aj)))) (ao (aJ d4)) bg)
  (ai (cg (iQ (kx (qg (ab 7) gj) (jH (dU (cy (aV G_q9 hr (aa (ab 3) (aa (ab 7) (aa aj af))))))))) (ao (aJ d4)) bg)
  (ai (aU 8 d7.nd (ax 2 G_q2 hr (aa (ab 3) af)))
  (ai (aU 9 d7.nd (ay (br (aa (ab 8) (aa (ax 2 G_q16 hr (aa (ab 3) (aa (ab 8) af))) (aa (ab 7) (aa (ax 2 G_q16 hr (aa (ab 3) (aa (DY (ab 7) (kg (ab 8))) af))) af)))))))
  (ao (du (bQ (ay (mG (fm (ab 9)) (fm (ay (br (aa (ax 2 G_q21 hr af) af))))))) (av 10 d7.nd) (ai (aU 11 d7.nd (aV G_q28 hr (aa (ab 3) (aa (ab 10) af))))
  (ao (cg (iQ (fP (dU (cy (fE .bool m.isinstance m.bool (ab 11)))) (eI (iX hr (ab 11) (aV G_q9 hr (aa (ab 3) (aa (ab 10) (aa aj af)))))))) (ao (aJ d4)) bg)))))))))))))))))
  (ao (aJ d4)))
end
end K43
namespace K43
inductive fH (E:List (Nat × Nat)):Nat -> Nat -> Prop
 | refl (a:Nat):fH E a a
 | step {a b c:Nat}:((a,b) ∈ E ∨ (b,a) ∈ E) -> fH E b c -> fH E a c
theorem fH.trans {E:List (Nat × Nat)} {a b c:Nat} (h:fH E a b) (g:fH E b c):fH E a c:= by
 induction h with
 | refl => exact g
 | step e _ ih => exact .step e (ih g)
theorem fH.one {E:List (Nat × Nat)} {a b:Nat} (h:(a,b) ∈ E ∨ (b,a) ∈ E):fH E a b:=.step h (.refl b)
theorem fH.symm {E:List (Nat × Nat)} {a b:Nat} (h:fH E a b):fH E b a:= by
 induction h with
 | refl => exact .refl _
 | step e _ ih => exact ih.trans (.one e.symm)
theorem fH.mono {E F:List (Nat × Nat)} (s:∀ e ∈ E,e ∈ F) {a b:Nat} (h:fH E a b):fH F a b:= by
 induction h with
 | refl => exact .refl _
 | step e _ ih => exact .step (e.imp (s _) (s _)) ih
theorem fH.nil {a b:Nat} (h:fH [] a b):a = b:= by
 cases h with
 | refl => rfl
 | step e _ => rcases e with e | e <;> cases e
theorem l6 {E:List (Nat × Nat)} {u v a b:Nat}:fH ((u,v) :: E) a b ↔ fH E a b ∨ (fH E a u ∧ fH E v b) ∨ (fH E a v ∧ fH E u b):= by
 constructor
 ·intro h
  induction h with
  | refl => exact .inl (.refl _)
  | @step a b c e _ ih =>
   have e':(a = u ∧ b = v) ∨ (a = v ∧ b = u) ∨ (a,b) ∈ E ∨ (b,a) ∈ E:= by
    rcases e with e | e
    ·rcases List.mem_cons.mp e with e | e
     ·cases e; exact .inl ⟨rfl,rfl⟩
     ·exact .inr (.inr (.inl e))
    ·rcases List.mem_cons.mp e with e | e
     ·cases e; exact .inr (.inl ⟨rfl,rfl⟩)
     ·exact .inr (.inr (.inr e))
   rcases e' with ⟨rfl,rfl⟩ | ⟨rfl,rfl⟩ | e
   ·rcases ih with h | ⟨_,h⟩ | ⟨_,h⟩
    ·exact .inr (.inl ⟨.refl _,h⟩)
    ·exact .inr (.inl ⟨.refl _,h⟩)
    ·exact .inl h
   ·rcases ih with h | ⟨_,h⟩ | ⟨_,h⟩
    ·exact .inr (.inr ⟨.refl _,h⟩)
    ·exact .inl h
    ·exact .inr (.inr ⟨.refl _,h⟩)
   ·rcases ih with h | ⟨h1,h2⟩ | ⟨h1,h2⟩
    ·exact .inl (.step e h)
    ·exact .inr (.inl ⟨.step e h1,h2⟩)
    ·exact .inr (.inr ⟨.step e h1,h2⟩)
 ·have m:∀ e ∈ E,e ∈ (u,v) :: E:=fun e he => List.mem_cons_of_mem _ he
  have uv:fH ((u,v) :: E) u v:=.one (.inl List.mem_cons_self)
  rintro (h | ⟨h1,h2⟩ | ⟨h1,h2⟩)
  ·exact h.mono m
  ·exact (h1.mono m).trans (uv.trans (h2.mono m))
  ·exact (h1.mono m).trans (uv.symm.trans (h2.mono m))
def qk (f:Nat -> Nat) (E:List (Nat × Nat)):Prop:=∀ a b,f a = f b ↔ fH E a b
def xi (f:Nat -> Nat) (u v:Nat):Nat -> Nat:=fun a => if f a = f u then f v else f a
theorem BF:qk id []:=fun a b => ⟨fun h => by cases h; exact .refl _,fun h => h.nil⟩
theorem pH {f:Nat -> Nat} {E:List (Nat × Nat)} (L:qk f E) (u v:Nat):qk (xi f u v) ((u,v) :: E):=fun a b => by
 rw [l6,<- L a b,<- L a u,<- L v b,<- L a v,<- L u b]
 unfold xi
 by_cases h1:f a = f u <;> by_cases h2:f b = f u
 ·simp [h1,h2]
 ·simp [h1,h2]
  constructor
  ·exact fun h => .inr (.inl h)
  ·rintro (h | h | ⟨_,h⟩)
   ·exact absurd h.symm h2
   ·exact h
   ·exact absurd h.symm h2
 ·simp [h1,h2]
 ·have h3:¬ f u = f b:=fun z => h2 z.symm
  simp [h1,h2,h3]
theorem ph:∀ E:List (Nat × Nat),∃ f,qk f E
 | [] => ⟨id,BF⟩
 | (u,v) :: E => by
  obtain ⟨f,L⟩:=ph E
  exact ⟨_,pH L u v⟩
def uq:List Nat -> List Nat
 | [] => []
 | x :: l => if x ∈ l then uq l else x :: uq l
theorem d6 {a:Nat}:∀ {l:List Nat},a ∈ uq l ↔ a ∈ l
 | [] => Iff.rfl
 | x :: l => by
  unfold uq
  split
  ·rename_i h
   rw [d6,List.mem_cons]
   exact ⟨.inr,fun z => z.elim (fun e => e ▸ h) id⟩
  ·rw [List.mem_cons,d6,List.mem_cons]
theorem kB:∀ l:List Nat,(uq l).Nodup
 | [] => List.nodup_nil
 | x :: l => by
  unfold uq
  split
  ·exact kB l
  ·rename_i h
   exact List.nodup_cons.mpr ⟨fun z => h (d6.mp z),kB l⟩
theorem CK:∀ {l:List Nat},l.Nodup -> uq l = l
 | [],_ => rfl
 | x :: l,h => by
  have h:=List.nodup_cons.mp h
  unfold uq
  rw [if_neg h.1,CK h.2]
def cls (f:Nat -> Nat) (V:List Nat):Nat:=(uq (V.map f)).length
theorem g9 {f g:Nat -> Nat}:∀ {V:List Nat},(∀ a ∈ V,∀ b ∈ V,f a = f b ↔ g a = g b) -> cls f V = cls g V
 | [],_ => rfl
 | x :: V,h => by
  have ih:=g9 (f:=f) (g:=g) (V:=V) fun a ha b hb => h a (List.mem_cons_of_mem _ ha) b (List.mem_cons_of_mem _ hb)
  have e:f x ∈ V.map f ↔ g x ∈ V.map g:= by
   rw [List.mem_map,List.mem_map]
   constructor
   ·rintro ⟨y,hy,e⟩
    exact ⟨y,hy,(h y (List.mem_cons_of_mem _ hy) x List.mem_cons_self).mp e⟩
   ·rintro ⟨y,hy,e⟩
    exact ⟨y,hy,(h y (List.mem_cons_of_mem _ hy) x List.mem_cons_self).mpr e⟩
  unfold cls at *
  rw [List.map_cons,List.map_cons]
  unfold uq
  by_cases q:f x ∈ V.map f
  ·rw [if_pos q,if_pos (e.mp q)]; exact ih
  ·rw [if_neg q,if_neg fun z => q (e.mpr z),List.length_cons,List.length_cons,ih]
theorem AE {f:Nat -> Nat} {V:List Nat} {u v:Nat} (hu:u ∈ V) (hv:v ∈ V) (h:f u ≠ f v):cls (xi f u v) V + 1 = cls f V:= by
 have p:(uq (V.map (xi f u v)) ++ [f u]).Perm (uq (V.map f)):= by
  refine (List.perm_ext_iff_of_nodup (List.nodup_append.mpr ⟨kB _,by simp,?_⟩) (kB _)).mpr fun a => ?_
  ·intro a ha b hb e
   rw [List.mem_singleton.mp hb] at e
   subst e
   obtain ⟨y,_,e⟩:=List.mem_map.mp (d6.mp ha)
   unfold xi at e
   split at e
   ·exact h e.symm
   ·rename_i q; exact q e
  ·rw [List.mem_append,d6,d6,List.mem_map,List.mem_map,List.mem_singleton]
   constructor
   ·rintro (⟨y,hy,e⟩ | rfl)
    ·unfold xi at e
     split at e
     ·exact ⟨v,hv,e⟩
     ·exact ⟨y,hy,e⟩
    ·exact ⟨u,hu,rfl⟩
   ·rintro ⟨y,hy,rfl⟩
    by_cases q:f y = f u
    ·exact .inr q
    ·exact .inl ⟨y,hy,if_neg q⟩
 have:=p.length_eq
 rw [List.length_append] at this
 exact this
def va (E:List (Nat × Nat)):Prop:=∀ k,(h:k < E.length) -> ¬ fH (E.take k) E[k].1 E[k].2
theorem va.sub {E:List (Nat × Nat)} {p:Nat × Nat -> Bool} (h:va E):va (E.filter p):= by
 have gen:∀ (F:List (Nat × Nat)),va F -> va (F.filter p):= by
  intro F
  have rev:∀ (n:Nat) (F:List (Nat × Nat)),F.length = n -> va F -> va (F.filter p):= by
   intro n
   induction n with
   | zero =>
    intro F hl _
    rw [List.eq_nil_of_length_eq_zero hl]
    intro k hk
    simp at hk
   | succ n ih =>
    intro F hl hF
    have hne:F ≠ []:=fun z => by rw [z] at hl; cases hl
    have e:=List.dropLast_concat_getLast hne
    generalize hG:F.dropLast = G at *
    generalize hx:F.getLast hne = x at *
    have lG:G.length = n:=by rw [<- hG,List.length_dropLast,hl]; rfl
    have fG:va G:=fun k hk z => by
     have hk':k < F.length:=by omega
     refine hF k hk' ?_
     have e1:F.take k = G.take k:=by rw [<- e,List.take_append_of_le_length (by omega)]
     have e2:F[k] = G[k]:= by
      have:F[k]? = G[k]?:=by rw [<- e,List.getElem?_append_left hk]
      rw [List.getElem?_eq_getElem hk',List.getElem?_eq_getElem hk] at this
      exact Option.some.inj this
     rw [e1,e2]; exact z
    have nx:¬ fH G x.1 x.2:=fun z => by
     have hk':n < F.length:=by omega
     refine hF n hk' ?_
     have e1:F.take n = G:=by rw [<- e,List.take_append_of_le_length (by omega),<- lG,List.take_length]
     have e2:F[n] = x:= by
      have:F[n]? = some x:=by rw [<- e,List.getElem?_append_right (by omega),lG]; simp
      rw [List.getElem?_eq_getElem hk'] at this
      exact Option.some.inj this
     rw [e1,e2]; exact z
    have ih:=ih G lG fG
    rw [<- e,List.filter_append]
    cases hp:p x with
    | false => simpa [hp] using ih
    | true =>
     have:[x].filter p = [x]:=by simp [hp]
     rw [this]
     intro k hk
     rw [List.length_append,List.length_singleton] at hk
     by_cases q:k < (G.filter p).length
     ·rw [List.take_append_of_le_length (by omega),List.getElem_append_left q]
      exact ih k q
     ·have:k = (G.filter p).length:=by omega
      subst this
      rw [List.take_append_of_le_length (Nat.le_refl _),List.take_length,List.getElem_append_right (Nat.le_refl _)]
      simp only [Nat.sub_self,List.getElem_cons_zero]
      exact fun z => nx (z.mono fun e he => (List.mem_filter.mp he).1)
  exact rev _ F rfl
 exact gen E h
theorem jQ {V:List Nat} (nd:V.Nodup):∀ (E:List (Nat × Nat)) (k:Nat),(∀ e ∈ E,e.1 ∈ V ∧ e.2 ∈ V) -> k ≤ E.length -> ∀ f,qk f (E.take k) -> V.length ≤ cls f V + k ∧ ((∀ j,(h:j < E.length) -> j < k -> ¬ fH (E.take j) E[j].1 E[j].2) ↔ cls f V + k = V.length)
 | E,0,hE,hk,f,L => by
  have e:cls f V = V.length:= by
   have:=g9 (f:=f) (g:=id) (V:=V) fun a _ b _ => by
    rw [L a b]
    exact ⟨fun h => by rw [List.take_zero] at h; exact h.nil,fun h => by cases h; exact .refl _⟩
   rw [this]
   unfold cls
   rw [List.map_id,CK nd]
  rw [e]
  exact ⟨by omega,⟨fun _ => by omega,fun _ j _ hj => by omega⟩⟩
 | E,k + 1,hE,hk,f,L => by
  have hk':k < E.length:=by omega
  obtain ⟨g,Lg⟩:=ph (E.take k)
  obtain ⟨i1,i2⟩:=jQ nd E k hE (by omega) g Lg
  obtain ⟨mu,mv⟩:=hE _ (List.getElem_mem hk')
  have tk:E.take (k + 1) = E.take k ++ [E[k]]:=List.take_succ_eq_append_getElem hk'
  have L2:=pH Lg E[k].1 E[k].2
  have same:cls f V = cls (xi g E[k].1 E[k].2) V:=g9 fun a _ b _ => by
   rw [L a b,L2 a b,tk]
   constructor
   ·exact fH.mono fun e he => by
     rcases List.mem_append.mp he with he | he
     ·exact List.mem_cons_of_mem _ he
     ·rw [List.mem_singleton.mp he]; exact List.mem_cons_self
   ·exact fH.mono fun e he => by
     rcases List.mem_cons.mp he with he | he
     ·rw [he]; exact List.mem_append.mpr (.inr (List.mem_singleton.mpr rfl))
     ·exact List.mem_append.mpr (.inl he)
  by_cases q:g E[k].1 = g E[k].2
  ·have e:xi g E[k].1 E[k].2 = g:= by
    funext a
    unfold xi
    split
    ·rename_i z; rw [z,q]
    ·rfl
   rw [same,e]
   refine ⟨by omega,⟨fun h => absurd ((Lg _ _).mp q) (h k hk' (by omega)),fun h => by omega⟩⟩
  ·have c:=AE (f:=g) mu mv q
   rw [same]
   refine ⟨by omega,?_⟩
   constructor
   ·intro h
    have:=i2.mp fun j hj hjk => h j hj (by omega)
    omega
   ·intro h j hj hjk
    by_cases e:j = k
    ·subst e
     exact fun z => q ((Lg _ _).mpr z)
    ·exact i2.mpr (by omega) j hj (by omega)
theorem oX {V:List Nat} (nd:V.Nodup) {E:List (Nat × Nat)} (hE:∀ e ∈ E,e.1 ∈ V ∧ e.2 ∈ V) {f:Nat -> Nat} (L:qk f E):V.length ≤ cls f V + E.length ∧ (va E ↔ cls f V + E.length = V.length):= by
 have h:=jQ nd E E.length hE (Nat.le_refl _) f (by rw [List.take_length]; exact L)
 exact ⟨h.1,⟨fun z => h.2.mp fun j hj _ => z j hj,fun z j hj => h.2.mpr z j hj hj⟩⟩
theorem BQ {f:Nat -> Nat} {V:List Nat} (h:V ≠ []):1 ≤ cls f V:= by
 unfold cls
 cases V with
 | nil => exact absurd rfl h
 | cons x V =>
  refine List.length_pos_of_mem (a:=f x) (d6.mpr ?_)
  simp
end K43
namespace K43
def e_ (N k:Nat):Nat:=if k + 1 = N then 0 else k + 1
theorem je {N k:Nat} (h:k < N):e_ N k < N:=by unfold e_; split <;> omega
structure Lp (F:Nat -> List Int) (n N:Nat) (h:Nat -> Nat) (c:Nat -> Int):Prop where
 n2:2 ≤ N
 hi:∀ i j,i < N -> j < N -> h i = h j -> i = j
 hl:∀ i,i < N -> h i < n
 ci:∀ i j,i < N -> j < N -> c i = c j -> i = j
 a:∀ k,k < N -> c k ∈ F (h k)
 b:∀ k,k < N -> c k ∈ F (h (e_ N k))
section
variable {F:Nat -> List Int} {n:Nat}
def inc (F:Nat -> List Int) (n:Nat):List (Nat × Nat):=(List.range n).flatMap fun i => (F i).map fun c => (i,n + c.toNat)
theorem dH {e:Nat × Nat}:e ∈ inc F n ↔ e.1 < n ∧ ∃ c ∈ F e.1,e.2 = n + c.toNat:= by
 unfold inc
 rw [List.mem_flatMap]
 constructor
 ·rintro ⟨i,hi,he⟩
  obtain ⟨c,hc,rfl⟩:=List.mem_map.mp he
  exact ⟨List.mem_range.mp hi,c,hc,rfl⟩
 ·rintro ⟨h1,c,hc,h2⟩
  exact ⟨e.1,List.mem_range.mpr h1,List.mem_map.mpr ⟨c,hc,by rw [<- h2]⟩⟩
theorem Bl (F:Nat -> List Int) (n:Nat):(inc F n).length = ((List.range n).map fun i => (F i).length).sum:= by
 unfold inc
 rw [List.length_flatMap]
 congr 1
 exact List.map_congr_left fun i _ => by rw [List.length_map]
theorem FQ (hN:∀ i,(F i).Nodup) (hp:∀ i,∀ c ∈ F i,0 ≤ c):(inc F n).Nodup:= by
 unfold inc
 rw [List.nodup_iff_pairwise_ne,List.pairwise_flatMap]
 refine ⟨fun i _ => ?_,?_⟩
 ·rw [List.pairwise_map]
  refine List.Pairwise.imp_of_mem (fun {x y} hx hy hne e => ?_) (hN i)
  have hx:=hp i x hx
  have hy:=hp i y hy
  simp only [Prod.mk.injEq,true_and] at e
  omega
 ·refine List.Pairwise.imp (fun {i j} hij x hx y hy e => ?_) List.pairwise_lt_range
  obtain ⟨c,_,rfl⟩:=List.mem_map.mp hx
  obtain ⟨d,_,rfl⟩:=List.mem_map.mp hy
  simp only [Prod.mk.injEq] at e
  omega
theorem sy (hp:∀ i,∀ c ∈ F i,0 ≤ c) {N:Nat} {h:Nat -> Nat} {c:Nat -> Int} (L:Lp F n N h c):¬ va (inc F n):=fun hF => by
 have hn2:=L.n2
 have cp:∀ k,k < N -> 0 ≤ c k:=fun k hk => hp _ _ (L.a k hk)
 have ce:∀ i j,i < N -> j < N -> n + (c i).toNat = n + (c j).toNat -> i = j:=fun i j hi hj e => by
  have h1:=cp i hi
  have h2:=cp j hj
  exact L.ci i j hi hj (by omega)
 have nxn:∀ k,k < N -> k ≠ e_ N k:=fun k hk => by unfold e_; split <;> omega
 generalize hC:(List.range N).map (fun k => (h k,n + (c k).toNat)) ++ (List.range N).map (fun k => (h (e_ N k),n + (c k).toNat)) = C1
 generalize hW:(List.range N).map h ++ (List.range N).map (fun k => n + (c k).toNat) = W
 have lC:C1.length = 2 * N:=by rw [<- hC]; simp; omega
 have lW:W.length = 2 * N:=by rw [<- hW]; simp; omega
 have ndC:C1.Nodup:= by
  rw [<- hC]
  refine List.nodup_append.mpr ⟨?_,?_,?_⟩
  ·rw [List.nodup_iff_pairwise_ne,List.pairwise_map]
   refine List.Pairwise.imp_of_mem (fun {x y} hx hy hlt e => ?_) List.pairwise_lt_range
   simp only [Prod.mk.injEq] at e
   have:=ce x y (List.mem_range.mp hx) (List.mem_range.mp hy) e.2
   omega
  ·rw [List.nodup_iff_pairwise_ne,List.pairwise_map]
   refine List.Pairwise.imp_of_mem (fun {x y} hx hy hlt e => ?_) List.pairwise_lt_range
   simp only [Prod.mk.injEq] at e
   have:=ce x y (List.mem_range.mp hx) (List.mem_range.mp hy) e.2
   omega
  ·intro x hx y hy e
   obtain ⟨i,hi,rfl⟩:=List.mem_map.mp hx
   obtain ⟨j,hj,rfl⟩:=List.mem_map.mp hy
   have hi:=List.mem_range.mp hi
   have hj:=List.mem_range.mp hj
   simp only [Prod.mk.injEq] at e
   have ij:=ce i j hi hj e.2
   subst ij
   exact nxn i hi (L.hi i _ hi (je hi) e.1)
 have ndW:W.Nodup:= by
  rw [<- hW]
  refine List.nodup_append.mpr ⟨?_,?_,?_⟩
  ·rw [List.nodup_iff_pairwise_ne,List.pairwise_map]
   refine List.Pairwise.imp_of_mem (fun {x y} hx hy hlt e => ?_) List.pairwise_lt_range
   have:=L.hi x y (List.mem_range.mp hx) (List.mem_range.mp hy) e
   omega
  ·rw [List.nodup_iff_pairwise_ne,List.pairwise_map]
   refine List.Pairwise.imp_of_mem (fun {x y} hx hy hlt e => ?_) List.pairwise_lt_range
   have:=ce x y (List.mem_range.mp hx) (List.mem_range.mp hy) e
   omega
  ·intro x hx y hy e
   obtain ⟨i,hi,rfl⟩:=List.mem_map.mp hx
   obtain ⟨j,hj,rfl⟩:=List.mem_map.mp hy
   have:=L.hl i (List.mem_range.mp hi)
   omega
 have sub:∀ e ∈ C1,e ∈ (inc F n).filter fun e => decide (e ∈ C1):=fun e he => by
  refine List.mem_filter.mpr ⟨?_,decide_eq_true he⟩
  rw [<- hC] at he
  rcases List.mem_append.mp he with he | he
  ·obtain ⟨k,hk,rfl⟩:=List.mem_map.mp he
   have hk:=List.mem_range.mp hk
   exact dH.mpr ⟨L.hl k hk,c k,L.a k hk,rfl⟩
  ·obtain ⟨k,hk,rfl⟩:=List.mem_map.mp he
   have hk:=List.mem_range.mp hk
   exact dH.mpr ⟨L.hl _ (je hk),c k,L.b k hk,rfl⟩
 have hl:=List.Nodup.length_le_of_subset ndC sub
 have ends:∀ e ∈ (inc F n).filter (fun e => decide (e ∈ C1)),e.1 ∈ W ∧ e.2 ∈ W:=fun e he => by
  have he:=of_decide_eq_true (List.mem_filter.mp he).2
  rw [<- hC] at he
  rw [<- hW]
  rcases List.mem_append.mp he with he | he
  ·obtain ⟨k,hk,rfl⟩:=List.mem_map.mp he
   exact ⟨List.mem_append.mpr (.inl (List.mem_map.mpr ⟨k,hk,rfl⟩)),List.mem_append.mpr (.inr (List.mem_map.mpr ⟨k,hk,rfl⟩))⟩
  ·obtain ⟨k,hk,rfl⟩:=List.mem_map.mp he
   exact ⟨List.mem_append.mpr (.inl (List.mem_map.mpr ⟨e_ N k,List.mem_range.mpr (je (List.mem_range.mp hk)),rfl⟩)),List.mem_append.mpr (.inr (List.mem_map.mpr ⟨k,hk,rfl⟩))⟩
 obtain ⟨f,Lf⟩:=ph ((inc F n).filter fun e => decide (e ∈ C1))
 have cnt:=(oX ndW ends Lf).2.mp hF.sub
 have pos:=BQ (f:=f) (V:=W) fun z => by rw [z] at lW; simp at lW; omega
 omega
def Jr (E:List (Nat × Nat)) (a b:Nat):Prop:=(a,b) ∈ E ∨ (b,a) ∈ E
def Wk (E:List (Nat × Nat)):List Nat -> Prop
 | [] => True
 | [_] => True
 | a :: b :: r => Jr E a b ∧ Wk E (b :: r)
theorem Wk.tail {E:List (Nat × Nat)}:∀ {a:Nat} {l:List Nat},Wk E (a :: l) -> Wk E l
 | _,[],_ => trivial
 | _,_ :: _,h => h.2
theorem Wk.drop {E:List (Nat × Nat)}:∀ {l r:List Nat},Wk E (l ++ r) -> Wk E r
 | [],_,h => h
 | _ :: l,_,h => Wk.drop (l:=l) h.tail
theorem Wk.get {E:List (Nat × Nat)}:∀ {l:List Nat} {k:Nat},Wk E l -> k + 1 < l.length -> Jr E (l.getD k 0) (l.getD (k + 1) 0)
 | [],_,_,hk => by simp at hk
 | [_],_,_,hk => by simp at hk
 | a :: b :: r,0,h,_ => h.1
 | a :: b :: r,k + 1,h,hk => by
  have:=Wk.get (l:=b :: r) (k:=k) h.2 (by simpa using hk)
  simpa using this
theorem path {E:List (Nat × Nat)} {a b:Nat} (h:fH E a b):∃ p:List Nat,Wk E (a :: p) ∧ (a :: p).Nodup ∧ (a :: p).getLast (List.cons_ne_nil _ _) = b:= by
 induction h with
 | refl a => exact ⟨[],trivial,by simp,rfl⟩
 | @step a b c e _ ih =>
  obtain ⟨p,w,nd,l⟩:=ih
  by_cases q:a ∈ b :: p
  ·obtain ⟨l1,l2,e2⟩:=List.append_of_mem q
   refine ⟨l2,?_,?_,?_⟩
   ·rw [e2] at w; exact w.drop
   ·rw [e2] at nd
    exact (List.nodup_append.mp nd).2.1
   ·have:(b :: p).getLast (List.cons_ne_nil _ _) = (l1 ++ a :: l2).getLast (by simp):=by congr 1
    rw [l] at this
    rw [this,List.getLast_append_of_ne_nil (by simp)]
  ·exact ⟨b :: p,⟨e,w⟩,List.nodup_cons.mpr ⟨q,nd⟩,by rw [List.getLast_cons (List.cons_ne_nil _ _)]; exact l⟩
theorem getD_inj {l:List Nat} (nd:l.Nodup) {i j:Nat} (hi:i < l.length) (hj:j < l.length) (e:l.getD i 0 = l.getD j 0):i = j:= by
 simp only [List.getD_eq_getElem?_getD,List.getElem?_eq_getElem hi,List.getElem?_eq_getElem hj,Option.getD_some] at e
 exact (List.getElem_inj nd).mp e
theorem sX (hN:∀ i,(F i).Nodup) (hp:∀ i,∀ c ∈ F i,0 ≤ c) (hF:¬ va (inc F n)):∃ N h c,Lp F n N h c:= by
 have:∃ k,∃ h:k < (inc F n).length,fH ((inc F n).take k) (inc F n)[k].1 (inc F n)[k].2:= by
  refine Classical.byContradiction fun q => hF fun k hk z => q ⟨k,hk,z⟩
 obtain ⟨k,hk,hR⟩:=this
 have nd:=FQ (n:=n) hN hp
 have hnot:(inc F n)[k] ∉ (inc F n).take k:=fun z => by
  obtain ⟨j,hj,e⟩:=List.getElem_of_mem z
  rw [List.getElem_take] at e
  have hjk:j < k:=by rw [List.length_take] at hj; omega
  have:=(List.getElem_inj nd).mp e
  omega
 have hin:=dH.mp (List.getElem_mem hk)
 generalize hx:(inc F n)[k] = x at *
 obtain ⟨i,y⟩:=x
 obtain ⟨hi,c0,hc0,hy⟩:=hin
 simp only at hi hc0 hy hR
 have adj:∀ a b,Jr ((inc F n).take k) a b -> (a < n ∧ ∃ c ∈ F a,b = n + c.toNat) ∨ (b < n ∧ ∃ c ∈ F b,a = n + c.toNat):=fun a b h => by
  rcases h with h | h
  ·exact .inl (dH.mp (List.mem_of_mem_take h))
  ·exact .inr (dH.mp (List.mem_of_mem_take h))
 obtain ⟨p,w,ndp,hl⟩:=path hR
 have hq0:(i :: p).getD 0 0 = i:=rfl
 have hql:(i :: p).getD ((i :: p).length - 1) 0 = y:= by
  rw [<- hl,List.getLast_eq_getElem]
  simp
 clear hl
 generalize i :: p = q at *
 have hlen:1 ≤ q.length:= by
  cases q with
  | nil => simp at hq0 hql; omega
  | cons => simp
 have par:∀ m,m < q.length -> (q.getD m 0 < n ↔ m % 2 = 0):= by
  intro m
  induction m with
  | zero => intro _; rw [hq0]; simp [hi]
  | succ m ih =>
   intro hm
   have ih:=ih (by omega)
   rcases adj _ _ (w.get hm) with ⟨h1,c,_,h2⟩ | ⟨h1,c,_,h2⟩
   ·have:=ih.mp h1
    rw [h2]
    omega
   ·have:¬ q.getD m 0 < n:=by rw [h2]; omega
    have h3:¬ m % 2 = 0:=fun z => this (ih.mpr z)
    exact ⟨fun _ => by omega,fun _ => h1⟩
 have hlast:=par (q.length - 1) (by omega)
 rw [hql,hy] at hlast
 have hodd:(q.length - 1) % 2 = 1:= by
  have:¬ (q.length - 1) % 2 = 0:=fun z => by have:=hlast.mpr z; omega
  omega
 obtain ⟨N,hN2⟩:∃ N,q.length = 2 * N:=⟨q.length / 2,by omega⟩
 have ca:∀ m,m < N -> ((q.getD (2 * m + 1) 0 - n:Nat):Int) ∈ F (q.getD (2 * m) 0) ∧ n ≤ q.getD (2 * m + 1) 0:=fun m hm => by
  have h0:=(par (2 * m) (by omega)).mpr (by omega)
  rcases adj _ _ (w.get (k:=2 * m) (by omega)) with ⟨h1,c,hc,h2⟩ | ⟨h1,c,hc,h2⟩
  ·have hcp:=hp _ _ hc
   rw [h2]
   refine ⟨?_,by omega⟩
   rw [show ((n + c.toNat - n:Nat):Int) = c by omega]
   exact hc
  ·omega
 have cb:∀ m,m + 1 < N -> ((q.getD (2 * m + 1) 0 - n:Nat):Int) ∈ F (q.getD (2 * m + 2) 0):=fun m hm => by
  have h0:=(par (2 * m + 2) (by omega)).mpr (by omega)
  rcases adj _ _ (w.get (k:=2 * m + 1) (by omega)) with ⟨h1,c,hc,h2⟩ | ⟨h1,c,hc,h2⟩
  ·have:=(ca m (by omega)).2
   omega
  ·have hcp:=hp _ _ hc
   rw [h2,show ((n + c.toNat - n:Nat):Int) = c by omega]
   exact hc
 have n2:2 ≤ N:= by
  refine Classical.byContradiction fun z => ?_
  have hN1:N = 1:=by omega
  subst hN1
  have ad:=w.get (k:=0) (by omega)
  have e1:q.getD (0 + 1) 0 = y:=by rw [<- hql,hN2]
  rw [hq0,e1] at ad
  rcases ad with ad | ad
  ·exact hnot ad
  ·have:=(dH.mp (List.mem_of_mem_take ad)).1
   simp only at this
   omega
 refine ⟨N,fun m => q.getD (2 * m) 0,fun m => ((q.getD (2 * m + 1) 0 - n:Nat):Int),n2,fun a b ha hb e => ?_,fun m hm => (par _ (by omega)).mpr (by omega),fun a b ha hb e => ?_,fun m hm => (ca m hm).1,fun m hm => ?_⟩
 ·have:=getD_inj ndp (i:=2 * a) (j:=2 * b) (by omega) (by omega) e
  omega
 ·have h1:=(ca a ha).2
  have h2:=(ca b hb).2
  have:=getD_inj ndp (i:=2 * a + 1) (j:=2 * b + 1) (by omega) (by omega) (by omega)
  omega
 ·show _ ∈ F (q.getD (2 * e_ N m) 0)
  unfold e_
  split
  ·rename_i e
   have e1:q.getD (2 * m + 1) 0 = y:=by rw [<- hql,hN2,show 2 * N - 1 = 2 * m + 1 by omega]
   have hcp:=hp _ _ hc0
   rw [e1,hy,show ((n + c0.toNat - n:Nat):Int) = c0 by omega,Nat.mul_zero,hq0]
   exact hc0
  ·exact cb m (by omega)
end
end K43
namespace K43
section
variable {F:Nat -> List Int} {n:Nat}
def cq (H:List Nat):Nat:=H.getD (H.length - 1) 0
def vt (rec:List Nat -> List Int -> Option (List Nat × List Int)) (H:List Nat) (C:List Int) (i:Nat):Option (List Nat × List Int) :=
 if i = cq H then none else if i ∈ H then some (H.drop (H.idxOf i),C.drop (H.idxOf i)) else rec (H ++ [i]) C
def u7 (F:Nat -> List Int) (n:Nat) (c:Int):List Nat:=(List.range n).filter fun i => decide (c ∈ F i)
def cW (F:Nat -> List Int) (n:Nat):Nat -> List Nat -> List Int -> Option (List Nat × List Int)
 | 0,_,_ => none
 | f + 1,H,C => (F (cq H)).findSome? fun c => if c ∈ C then none else (u7 F n c).findSome? fun i => vt (cW F n f) H (C ++ [c]) i
structure Pa (F:Nat -> List Int) (n:Nat) (H:List Nat) (C:List Int):Prop where
 nH:H.Nodup
 nC:C.Nodup
 lt:∀ i ∈ H,i < n
 len:C.length + 1 = H.length
 a:∀ k,k < C.length -> C.getD k 0 ∈ F (H.getD k 0)
 b:∀ k,k < C.length -> C.getD k 0 ∈ F (H.getD (k + 1) 0)
structure LL (F:Nat -> List Int) (n:Nat) (H:List Nat) (C:List Int):Prop where
 n2:2 ≤ H.length
 nH:H.Nodup
 nC:C.Nodup
 lt:∀ i ∈ H,i < n
 l:C.length = H.length
 a:∀ k,k < H.length -> C.getD k 0 ∈ F (H.getD k 0)
 b:∀ k,k < H.length -> C.getD k 0 ∈ F (H.getD (e_ H.length k) 0)
theorem jy {c:Int} {i:Nat}:i ∈ u7 F n c ↔ i < n ∧ c ∈ F i:= by
 unfold u7
 rw [List.mem_filter,List.mem_range,decide_eq_true_eq]
theorem eZ {α:Type} {l r:List α} {d:α} {k:Nat} (h:k < l.length):(l ++ r).getD k d = l.getD k d:= by
 simp [List.getD_eq_getElem?_getD,List.getElem?_append_left h]
theorem fL {α:Type} {l:List α} {x d:α}:(l ++ [x]).getD l.length d = x:= by
 simp [List.getD_eq_getElem?_getD]
theorem Pa.more {H:List Nat} {C:List Int} (P:Pa F n H C) {c:Int} {i:Nat} (hc:c ∉ C) (h1:c ∈ F (cq H)) (hi:i ∉ H) (hn:i < n) (h2:c ∈ F i):Pa F n (H ++ [i]) (C ++ [c]):= by
 have hl:=P.len
 refine ⟨List.nodup_append.mpr ⟨P.nH,by simp,fun a ha b hb z => by rw [List.mem_singleton.mp hb] at z; exact hi (z ▸ ha)⟩,List.nodup_append.mpr ⟨P.nC,by simp,fun a ha b hb z => by rw [List.mem_singleton.mp hb] at z; exact hc (z ▸ ha)⟩,fun j hj => ?_,by simp; omega,fun k hk => ?_,fun k hk => ?_⟩
 ·rcases List.mem_append.mp hj with hj | hj
  ·exact P.lt j hj
  ·rw [List.mem_singleton.mp hj]; exact hn
 ·rw [List.length_append,List.length_singleton] at hk
  by_cases q:k < C.length
  ·rw [eZ q,eZ (by omega)]; exact P.a k q
  ·have:k = C.length:=by omega
   subst this
   rw [fL,eZ (by omega)]
   unfold cq at h1
   rw [<- hl] at h1
   exact h1
 ·rw [List.length_append,List.length_singleton] at hk
  by_cases q:k < C.length
  ·rw [eZ q,eZ (by omega)]; exact P.b k q
  ·have:k = C.length:=by omega
   subst this
   rw [fL,hl,fL]
   exact h2
theorem iJ {α:Type} {l:List α} {d:α} {p k:Nat}:(l.drop p).getD k d = l.getD (p + k) d:= by
 simp [List.getD_eq_getElem?_getD]
theorem mL:∀ (f:Nat) (H:List Nat) (C:List Int),Pa F n H C -> ∀ {H' C'},cW F n f H C = some (H',C') -> LL F n H' C'
 | 0,_,_,_,_,_,e => by cases e
 | f + 1,H,C,P,H',C',e => by
  unfold cW at e
  obtain ⟨c,hc,e⟩:=List.exists_of_findSome?_eq_some e
  split at e
  ·cases e
  ·rename_i hcC
   obtain ⟨i,hi,e⟩:=List.exists_of_findSome?_eq_some e
   obtain ⟨hin,hci⟩:=jy.mp hi
   have hl:=P.len
   unfold vt at e
   split at e
   ·cases e
   ·rename_i hne
    split at e
    ·rename_i hm
     cases e
     have hp:H.idxOf i < H.length:=List.idxOf_lt_length_iff.mpr hm
     have ei:H.getD (H.idxOf i) 0 = i:= by
      simp [List.getD_eq_getElem?_getD,List.getElem?_eq_getElem hp]
     have hp2:H.idxOf i + 1 < H.length:= by
      refine Classical.byContradiction fun z => hne ?_
      unfold cq
      rw [show H.length - 1 = H.idxOf i by omega,ei]
     generalize H.idxOf i = p at *
     have nC':(C ++ [c]).Nodup:=List.nodup_append.mpr ⟨P.nC,by simp,fun a ha b hb z => by rw [List.mem_singleton.mp hb] at z; exact hcC (z ▸ ha)⟩
     have ga:∀ k,k < H.length -> (C ++ [c]).getD k 0 ∈ F (H.getD k 0):=fun k hk => by
      by_cases q:k < C.length
      ·rw [eZ q]; exact P.a k q
      ·have:k = C.length:=by omega
       subst this
       rw [fL]
       unfold cq at hc
       rw [<- hl] at hc
       exact hc
     refine ⟨by rw [List.length_drop]; omega,(List.drop_sublist _ _).nodup P.nH,(List.drop_sublist _ _).nodup nC',fun j hj => P.lt j (List.mem_of_mem_drop hj),by rw [List.length_drop,List.length_drop,List.length_append,List.length_singleton]; omega,fun k hk => ?_,fun k hk => ?_⟩
     ·rw [List.length_drop] at hk
      rw [iJ,iJ]
      exact ga _ (by omega)
     ·rw [List.length_drop] at hk ⊢
      rw [iJ,iJ]
      unfold e_
      split
      ·rename_i e
       rw [Nat.add_zero,ei,show p + k = C.length by omega,fL]
       exact hci
      ·rw [eZ (by omega)]
       exact P.b (p + k) (by omega)
    ·rename_i hm
     exact mL f _ _ (P.more hcC hc hm hin hci) e
theorem kz {α β:Type} {f:α -> Option β} {l:List α} {x:α} (hx:x ∈ l) (h:f x ≠ none):l.findSome? f ≠ none:=fun z => h (List.findSome?_eq_none_iff.mp z x hx)
theorem B6 {α:Type} (h:Nat -> α) (d:α) {j k:Nat} (hk:k < j):((List.range j).map h).getD k d = h k:= by
 simp [List.getD_eq_getElem?_getD,hk]
theorem oz {N:Nat} {h:Nat -> Nat} {c:Nat -> Int} (L:Lp F n N h c):∀ (t j f:Nat),N - j = t -> 1 ≤ j -> j ≤ N -> t < f -> cW F n f ((List.range j).map h) ((List.range (j - 1)).map c) ≠ none
 | t,j,0,_,_,_,hf => by omega
 | t,j,f + 1,ht,h1,hj,hf => by
  have n2:=L.n2
  unfold cW
  have eL:cq ((List.range j).map h) = h (j - 1):= by
   unfold cq
   rw [List.length_map,List.length_range,B6 h 0 (by omega)]
  rw [eL]
  refine kz (x:=c (j - 1)) (L.a (j - 1) (by omega)) ?_
  rw [if_neg fun z => by
   obtain ⟨k,hk,e⟩:=List.mem_map.mp z
   have hk:=List.mem_range.mp hk
   have:=L.ci k (j - 1) (by omega) (by omega) e
   omega]
  have hn:=je (N:=N) (k:=j - 1) (by omega)
  refine kz (x:=h (e_ N (j - 1))) (jy.mpr ⟨L.hl _ hn,L.b (j - 1) (by omega)⟩) ?_
  unfold vt
  rw [eL]
  rw [if_neg fun z => by
   have:=L.hi _ _ hn (show j - 1 < N by omega) z
   unfold e_ at this
   split at this <;> omega]
  by_cases q:j = N
  ·have e0:e_ N (j - 1) = 0:=by unfold e_; rw [if_pos (by omega)]
   rw [e0,if_pos (List.mem_map.mpr ⟨0,List.mem_range.mpr (by omega),rfl⟩)]
   simp
  ·have e0:e_ N (j - 1) = j:=by unfold e_; rw [if_neg (by omega)]; omega
   rw [e0,if_neg fun z => by
    obtain ⟨k,hk,e⟩:=List.mem_map.mp z
    have hk:=List.mem_range.mp hk
    have:=L.hi k j (by omega) (by omega) e
    omega]
   have e1:(List.range j).map h ++ [h j] = (List.range (j + 1)).map h:=by rw [List.range_succ,List.map_append]; rfl
   have e2:(List.range (j - 1)).map c ++ [c (j - 1)] = (List.range (j + 1 - 1)).map c:= by
    rw [show j + 1 - 1 = (j - 1) + 1 by omega,List.range_succ,List.map_append]; rfl
   rw [e1,e2]
   exact oz L (t - 1) (j + 1) f (by omega) (by omega) (by omega) (by omega)
theorem o5:∀ (n:Nat) (ls:List Nat),ls.Nodup -> (∀ i ∈ ls,i < n) -> ls.length ≤ n
 | 0,[],_,_ => Nat.le_refl _
 | 0,a :: r,_,h => absurd (h a List.mem_cons_self) (Nat.not_lt_zero a)
 | n + 1,ls,hn,h => by
  have h1:=o5 n (ls.erase n) (hn.erase n) fun i hi => by
   have:=(hn.mem_erase_iff).mp hi
   have:=h i this.2
   omega
  rw [List.length_erase] at h1
  split at h1 <;> omega
theorem LL.lp {H:List Nat} {C:List Int} (L:LL F n H C):Lp F n H.length (fun k => H.getD k 0) (fun k => C.getD k 0):= by
 refine ⟨L.n2,fun i j hi hj e => getD_inj L.nH hi hj e,fun i hi => L.lt _ ?_,fun i j hi hj e => ?_,L.a,L.b⟩
 ·simp only [List.getD_eq_getElem?_getD,List.getElem?_eq_getElem hi,Option.getD_some]
  exact List.getElem_mem hi
 ·have hi':i < C.length:=by rw [L.l]; exact hi
  have hj':j < C.length:=by rw [L.l]; exact hj
  simp only [List.getD_eq_getElem?_getD,List.getElem?_eq_getElem hi',List.getElem?_eq_getElem hj',Option.getD_some] at e
  exact (List.getElem_inj L.nC).mp e
theorem vZ (hN:∀ i,(F i).Nodup) (hp:∀ i,∀ c ∈ F i,0 ≤ c) {f:Nat} (hf:n ≤ f):(∀ i,i < n -> cW F n f [i] [] = none) ↔ va (inc F n):= by
 constructor
 ·intro h
  refine Classical.byContradiction fun q => ?_
  obtain ⟨N,hh,c,L⟩:=sX hN hp q
  have n2:=L.n2
  have hNn:N ≤ n:= by
   have:=o5 n ((List.range N).map hh) (by
    rw [List.nodup_iff_pairwise_ne,List.pairwise_map]
    refine List.Pairwise.imp_of_mem (fun {x y} hx hy hlt e => ?_) List.pairwise_lt_range
    have:=L.hi x y (List.mem_range.mp hx) (List.mem_range.mp hy) e
    omega) (fun i hi => by
     obtain ⟨k,hk,rfl⟩:=List.mem_map.mp hi
     exact L.hl k (List.mem_range.mp hk))
   simpa using this
  have:=oz L (N - 1) 1 f rfl (by omega) (by omega) (by omega)
  exact this (h (hh 0) (L.hl 0 (by omega)))
 ·intro hF i hi
  cases e:cW F n f [i] [] with
  | none => rfl
  | some r =>
   obtain ⟨H,C⟩:=r
   have:=mL f [i] [] ⟨by simp,by simp,fun j hj => by rw [List.mem_singleton.mp hj]; exact hi,rfl,fun k hk => by simp at hk,fun k hk => by simp at hk⟩ e
   exact absurd hF (sy hp this.lp)
def vn (F:Nat -> List Int) (E:List (Nat × Nat)) (n:Nat):Prop:=(∀ e ∈ E,e.1 < n ∧ e.2 < n ∧ ∃ c ∈ F e.1,c ∈ F e.2) ∧ ∀ i j,i < n -> j < n -> i ≠ j -> (∃ c ∈ F i,c ∈ F j) -> (i,j) ∈ E ∨ (j,i) ∈ E
def my (F:Nat -> List Int) (n:Nat) (g:Nat -> Nat) (x:Nat):Nat:=if x < n then g x else match (u7 F n ((x - n:Nat):Int)).head? with
 | some j => g j
 | none => 0
theorem xK {c:Int} {j:Nat} (h:(u7 F n c).head? = some j):j < n ∧ c ∈ F j:=jy.mp (List.mem_of_mem_head? (by rw [h]; rfl))
theorem nr {c:Int} {i:Nat} (hi:i < n) (hc:c ∈ F i):∃ j,(u7 F n c).head? = some j:= by
 have:i ∈ u7 F n c:=jy.mpr ⟨hi,hc⟩
 cases e:u7 F n c with
 | nil => rw [e] at this; cases this
 | cons j r => exact ⟨j,rfl⟩
theorem uH {E:List (Nat × Nat)} (T:vn F E n) {c:Int} {i j:Nat} (hi:i < n) (hj:j < n) (h1:c ∈ F i) (h2:c ∈ F j):fH E i j:= by
 by_cases q:i = j
 ·subst q; exact .refl _
 ·exact .one (T.2 i j hi hj q ⟨c,h1,h2⟩)
theorem rH (hp:∀ i,∀ c ∈ F i,0 ≤ c) {E:List (Nat × Nat)} (T:vn F E n) {g:Nat -> Nat} (L:qk g E) {a b:Nat} (h:(a,b) ∈ inc F n):my F n g a = my F n g b:= by
 obtain ⟨ha,c,hc,hb⟩:=dH.mp h
 simp only at ha hc hb
 have hcp:=hp _ _ hc
 obtain ⟨j,hj⟩:=nr ha hc
 obtain ⟨j1,j2⟩:=xK hj
 have e1:my F n g a = g a:=if_pos ha
 have e2:my F n g b = g j:= by
  unfold my
  rw [if_neg (by omega),hb,show ((n + c.toNat - n:Nat):Int) = c by omega,hj]
 rw [e1,e2]
 exact (L a j).mpr (uH T ha j1 hc j2)
theorem k0 (hp:∀ i,∀ c ∈ F i,0 ≤ c) {E:List (Nat × Nat)} (T:vn F E n) {g:Nat -> Nat} (L:qk g E) {a b:Nat} (h:fH (inc F n) a b):my F n g a = my F n g b:= by
 induction h with
 | refl => rfl
 | step e _ ih =>
  rw [<- ih]
  rcases e with e | e
  ·exact rH hp T L e
  ·exact (rH hp T L e).symm
theorem AI {E:List (Nat × Nat)} (T:vn F E n) {a b:Nat} (h:fH E a b):fH (inc F n) a b:= by
 have one:∀ x y,(x,y) ∈ E -> fH (inc F n) x y:=fun x y h => by
  obtain ⟨h1,h2,c,h3,h4⟩:=T.1 _ h
  exact .step (b:=n + c.toNat) (.inl (dH.mpr ⟨h1,c,h3,rfl⟩)) (.one (.inr (dH.mpr ⟨h2,c,h4,rfl⟩)))
 induction h with
 | refl => exact .refl _
 | step e _ ih =>
  rcases e with e | e
  ·exact (one _ _ e).trans ih
  ·exact (one _ _ e).symm.trans ih
def jb (F:Nat -> List Int) (n M:Nat):List Nat:=(List.range M).filter fun c => (List.range n).any fun i => decide ((c:Int) ∈ F i)
theorem tJ (hN:∀ i,(F i).Nodup) {M:Nat} (hp:∀ i,∀ c ∈ F i,0 ≤ c ∧ c < (M:Int)) {E:List (Nat × Nat)} (T:vn F E n) {g:Nat -> Nat} (L:qk g E) :
  va (inc F n) ↔ (jb F n M).length + n = ((List.range n).map fun i => (F i).length).sum + cls g (List.range n):= by
 have hp0:∀ i,∀ c ∈ F i,0 ≤ c:=fun i c hc => (hp i c hc).1
 generalize hV:List.range n ++ (jb F n M).map (fun c => n + c) = V
 have colM:∀ c,c ∈ jb F n M ↔ c < M ∧ ∃ i,i < n ∧ (c:Int) ∈ F i:=fun c => by
  unfold jb
  rw [List.mem_filter,List.mem_range,List.any_eq_true]
  simp only [List.mem_range,decide_eq_true_eq]
 have ndV:V.Nodup:= by
  rw [<- hV]
  refine List.nodup_append.mpr ⟨List.nodup_range,?_,fun a ha b hb z => ?_⟩
  ·rw [List.nodup_iff_pairwise_ne,List.pairwise_map]
   exact List.Pairwise.imp (fun {a b} (h:a < b) e => by omega) (List.pairwise_lt_range.filter _)
  ·obtain ⟨c,_,rfl⟩:=List.mem_map.mp hb
   have:=List.mem_range.mp ha
   omega
 have ends:∀ e ∈ inc F n,e.1 ∈ V ∧ e.2 ∈ V:=fun e he => by
  obtain ⟨h1,c,hc,h2⟩:=dH.mp he
  rw [<- hV]
  refine ⟨List.mem_append.mpr (.inl (List.mem_range.mpr h1)),List.mem_append.mpr (.inr (List.mem_map.mpr ⟨c.toNat,(colM _).mpr ⟨?_,e.1,h1,?_⟩,h2.symm⟩))⟩
  ·have:=hp _ _ hc; omega
  ·rw [show ((c.toNat:Nat):Int) = c by have:=hp _ _ hc; omega]; exact hc
 obtain ⟨f,Lf⟩:=ph (inc F n)
 have cnt:=(oX ndV ends Lf).2
 have anchor:∀ a ∈ V,∃ j,j < n ∧ fH (inc F n) a j:=fun a ha => by
  rw [<- hV] at ha
  rcases List.mem_append.mp ha with ha | ha
  ·exact ⟨a,List.mem_range.mp ha,.refl _⟩
  ·obtain ⟨c,hc,rfl⟩:=List.mem_map.mp ha
   obtain ⟨_,i,hi,hci⟩:=(colM c).mp hc
   exact ⟨i,hi,.one (.inr (dH.mpr ⟨hi,c,hci,by simp⟩))⟩
 have same:cls f V = cls (my F n g) V:=g9 fun a ha b hb => by
  rw [Lf a b]
  constructor
  ·exact k0 hp0 T L
  ·intro e
   obtain ⟨j,hj,rj⟩:=anchor a ha
   obtain ⟨k,hk,rk⟩:=anchor b hb
   have e1:=k0 hp0 T L rj
   have e2:=k0 hp0 T L rk
   rw [e1,e2] at e
   have e3:my F n g j = g j:=if_pos hj
   have e4:my F n g k = g k:=if_pos hk
   rw [e3,e4] at e
   exact rj.trans ((AI T ((L j k).mp e)).trans rk.symm)
 have few:cls (my F n g) V = cls g (List.range n):= by
  unfold cls
  refine List.Perm.length_eq ((List.perm_ext_iff_of_nodup (kB _) (kB _)).mpr fun x => ?_)
  rw [d6,d6,List.mem_map,List.mem_map]
  constructor
  ·rintro ⟨a,ha,rfl⟩
   obtain ⟨j,hj,rj⟩:=anchor a ha
   refine ⟨j,List.mem_range.mpr hj,?_⟩
   rw [k0 hp0 T L rj]
   exact (if_pos hj).symm
  ·rintro ⟨a,ha,rfl⟩
   refine ⟨a,?_,if_pos (List.mem_range.mp ha)⟩
   rw [<- hV]
   exact List.mem_append.mpr (.inl ha)
 have lV:V.length = n + (jb F n M).length:=by rw [<- hV]; simp
 rw [cnt,same,few,lV,Bl]
 omega
end
end K43
namespace K43
open PySem L2 Jt
def hD (h:List Int):D:=.tup (h.map .int)
def bw (m:Int) (hs:List (List Int)):D:=.tup [.int m,.tup (hs.map hD)]
def lD (ls:List Nat):List D:=ls.map fun (i:Nat) => .int (i:Int)
def G (hs:List (List Int)) (i:Nat):List Int:=hs.getD i []
theorem vM (h:List Int):kD (h.map .int) = some (h.map V.int):= by
 induction h with
 | nil => rfl
 | cons a r ih => simp [kD,flat,ih]
theorem A_ (c:Int) (h:List Int):FY (.int c) (h.map V.int) = decide (c ∈ h):= by
 induction h with
 | nil => rfl
 | cons a r ih =>
  show (a == c || FY (.int c) (r.map V.int)) = _
  rw [ih]
  by_cases e:c = a
  ·subst e; simp
  ·simp [e,Ne.symm e]
theorem gJ (neg:Bool) (c:Int) (h:List Int):jR neg (.int c) (hD h) = some (.bl (if neg then !decide (c ∈ h) else decide (c ∈ h))):= by
 simp [jR,hD,fS,flat,vM,A_]
theorem mY (h:List Int):aO (hD h) = some (aR (h.map .int)):=rfl
theorem ee {α:Type} (f:α -> Bool) (as:List α):boolsOf (as.map fun a => .bl (f a)) = some (as.map f):= by
 induction as with
 | nil => rfl
 | cons a r ih => simp [boolsOf,ih]
theorem er {α:Type} (xs:List α) (i:Nat) (h:i < xs.length):ji xs (i:Int) = some xs[i]:= by
 have h1:(i:Int) < xs.length:=by omega
 simp [ji,sY,h1,h]
theorem gy {hs:List (List Int)} {i:Nat} (h:i < hs.length):b_ (.tup (hs.map hD)) (.int (i:Int)) = some (hD (G hs i)):= by
 show ji _ _ = _
 rw [er _ _ (by simpa using h)]
 simp [G,h]
theorem cY (m:Int) (hs:List (List Int)):b_ (bw m hs) (.int 1) = some (.tup (hs.map hD)):=rfl
theorem ik (m:Int) (hs:List (List Int)):b_ (bw m hs) (.int 0) = some (.int m):=rfl
theorem AO (neg:Bool) (a b:Int):iy neg (.int a) (.int b) = some (.bl (if neg then !decide (a = b) else decide (a = b))):= by
 exact Dx neg a b
theorem f9 (neg:Bool) (a b:Nat):iy neg (.int (a:Int)) (.int (b:Int)) = some (.bl (if neg then !decide (a = b) else decide (a = b))):= by
 rw [AO]
 simp only [Int.natCast_inj,show ((a:Int) = (b:Int)) = (a = b) from propext Int.ofNat_inj]
theorem de (neg:Bool) (xs:List D):iy neg (.lst xs) (.lst []) = some (.bl (if neg then !xs.isEmpty else xs.isEmpty)):= by
 cases xs <;> simp [iy,kX,d9,d9.go]
theorem ja (n:Nat):bP 0 n = lD (List.range n):= by
 simp [bP,lD]
theorem f_ (n i:Nat) (h:i < (bP 0 n).length):(bP 0 n)[i] = .int (i:Int):=by simp [bP]
variable {hs:List (List Int)} {ls:List Nat} {x:D}
theorem tx {i j:Int} (h:-(2 ^ 64) < j) (h2:j < 2 ^ 64):nF (.int i) (.int j) = some (.int (i * j)):= by
 show (if ((decide (-(2 ^ 64) < i) && decide (i < 2 ^ 64)) || (decide (-(2 ^ 64) < j) && decide (j < 2 ^ 64))) = true then _ else _) = _
 rw [if_pos (by rw [decide_eq_true h,decide_eq_true h2]; simp)]
def eB (m:Int) (h:List Int):Prop:=h ≠ [] ∧ h.Pairwise (· < ·) ∧ ∀ c ∈ h,0 ≤ c ∧ c < m
theorem pf:∀ (l:List Int) (lo hi:Int),l.Pairwise (· < ·) -> (∀ y ∈ l,lo ≤ y ∧ y < hi) -> lo ≤ hi -> (l.length:Int) ≤ hi - lo
 | [],lo,hi,_,_,h => by simp; omega
 | z :: t,lo,hi,hp,hb,h => by
  rw [List.pairwise_cons] at hp
  have hz:=hb z List.mem_cons_self
  have:=pf t (z + 1) hi hp.2 (fun y hy => ⟨by have:=hp.1 y hy; omega,(hb y (List.mem_cons_of_mem _ hy)).2⟩) (by omega)
  rw [List.length_cons]; omega
theorem eB.len {m:Int} {h:List Int} (H:eB m h) (h1:1 ≤ m) (hm:m ≤ 7):h.length ≤ 7:= by
 have:=pf h 0 m H.2.1 H.2.2 (by omega)
 omega
theorem dI (a:Int):∀ l:List Int,a ∈ i4 l ↔ a ∈ l
 | [] => by simp [i4]
 | x :: r => by
  unfold i4
  split
  ·rename_i h
   rw [dI a r,List.mem_cons]
   constructor
   ·exact .inr
   ·rintro (rfl | h')
    ·exact (dI a r).mp h
    ·exact h'
  ·rw [List.mem_cons,List.mem_cons,dI a r]
theorem dQ:∀ l:List Int,(i4 l).Nodup
 | [] => by simp [i4]
 | x :: r => by
  unfold i4
  split
  ·exact dQ r
  ·rename_i h
   exact List.nodup_cons.mpr ⟨h,dQ r⟩
theorem lR {l:List Int} (h:l.Nodup):(dk l).Pairwise (· < ·):= by
 refine ((lJ l).and ((eR l).nodup_iff.mpr h)).imp fun {a b} h => ?_
 have:=h.1
 have:=h.2
 omega
theorem jS {a:Int} {l:List Int}:a ∈ dk l ↔ a ∈ l:=(eR l).mem_iff
def LQ (d:D) (xs:List D):Prop:=∃ (m:Int) (hs:List (List Int)) (n:Int),d = bw m hs ∧ xs = [.int n] ∧ 1 ≤ hs.length ∧ hs.length ≤ 6 ∧ (1 ≤ m ∧ m ≤ 7) ∧ ∀ h ∈ hs,eB m h
theorem eE (h:List Int):dC (h.map .int) = some h:= by
 induction h with
 | nil => rfl
 | cons a r ih => simp [dC,ih]
theorem A3 (h:List Int):(i4 h).length ≤ h.length:= by
 induction h with
 | nil => simp [i4]
 | cons a r ih => unfold i4; split <;> simp <;> omega
theorem oU (h:List Int):(dk h).length = h.length:=(eR h).length_eq
theorem jF (neg:Bool) (xs:List D):zR neg (.lst xs) (.lst []) = some (.bl (if neg then !xs.isEmpty else xs.isEmpty)):=de neg xs
theorem w8 (hs:List (List Int)) (n:Int) (hp:0 < hs.length):∃ h ∈ hs,b_ (.lst (hs.map hD)) (.int (n % (hs.length:Int))) = some (hD h):= by
 have h1:=Int.emod_nonneg n (show (hs.length:Int) ≠ 0 by omega)
 have h2:=Int.emod_lt_of_pos n (show (0:Int) < hs.length by omega)
 obtain ⟨j,hj⟩:∃ j:Nat,n % (hs.length:Int) = (j:Int):=⟨(n % (hs.length:Int)).toNat,by omega⟩
 have hlt:j < hs.length:=by omega
 refine ⟨hs[j],List.getElem_mem hlt,?_⟩
 rw [hj]
 show ji _ _ = _
 rw [er _ _ (by simpa using hlt)]
 simp
theorem kr {α β:Type} (f:α -> β):∀ (l:List α) (j:Nat),(l.map f).eraseIdx j = (l.eraseIdx j).map f
 | [],_ => rfl
 | _ :: _,0 => rfl
 | a :: r,j + 1 => by
  show f a :: (r.map f).eraseIdx j = f a :: (r.eraseIdx j).map f
  rw [kr f r j]
theorem c8 (xs:List D):cN [.lst xs] = some (.tup xs):=rfl
def isInt:D -> Bool
 | .int _ => true
 | _ => false
def dh (n:Int):D -> Bool
 | .int i => decide (0 ≤ i) && decide (i < n)
 | _ => false
theorem wI (x:D):aW u6 rP [x] = some (.bl (isInt x)):= by
 apply cu
 show Ok rP [.pu x] _
 unfold rP
 cases x <;> simp [cJ,pZ,isInt]
theorem gY (x:D):aW vN tW [x] = some (.bl (isInt x)):= by
 apply cu
 show Ok tW [.pu x] _
 unfold tW
 cases x <;> simp [cJ,pZ,isInt]
theorem yF (x:D) (n:Int):aW mN kI [x,.int n] = some (.bl (dh n x)):= by
 apply cu
 show Ok kI [.pu x,.pu (.int n)] _
 unfold kI
 cases x with
 | int i =>
  by_cases h:0 ≤ i
  ·simp [aE,wI,isInt,dh,zX,oG,b9,h]
  ·simp [aE,wI,isInt,dh,zX,oG,b9,h]
 | _ => simp [aE,wI,isInt,dh]
def ky (n:Int):D -> Bool
 | .tup xs => xs.all (dh n)
 | _ => false
def Short (x:D):Prop:=∀ xs,x = .tup xs -> xs.length ≤ 60
theorem GX {x:D} (n:Int) (h:Short x):aW o7 rq [x,.int n] = some (.bl (ky n x)):= by
 apply cu
 show Ok rq [.pu x,.pu (.int n)] _
 unfold rq
 cases x with
 | tup xs =>
  have hl:=h xs rfl
  simp [cJ,pZ]
  refine a_ xs id (fun x => some (.bl (dh n x))) rfl ?_ (by omega) (fun x hx => ?_) ?_
  ·simp [aO]
  ·simp [aE,yF]
  ·simp [jg,ee,List.filterMap_eq_map,ky,Function.comp_def]
 | _ => simp [cJ,pZ,ky]
theorem mZ {n:Nat}:∀ {xs:List D},xs.all (dh n) = true -> ∃ ls:List Nat,xs = lD ls ∧ ∀ i ∈ ls,i < n
 | [],_ => ⟨[],rfl,by simp⟩
 | x :: xs,h => by
  simp only [List.all_cons,Bool.and_eq_true] at h
  obtain ⟨ls,rfl,hl⟩:=mZ h.2
  cases x with
  | int i =>
   simp only [dh,Bool.and_eq_true,decide_eq_true_eq] at h
   refine ⟨i.toNat :: ls,?_,?_⟩
   ·simp [lD]; omega
   ·intro j hj
    rcases List.mem_cons.mp hj with rfl | hj
    ·omega
    ·exact hl j hj
  | _ => simp [dh] at h
theorem x9 {n:Nat} (ls:List Nat):(lD ls).all (dh n) = ls.all fun i => decide (i < n):= by
 unfold lD
 rw [List.all_map]
 refine List.all_congr rfl fun i => ?_
 simp [dh]
theorem ko:∀ l:List Int,(i4 l).length = l.length ↔ l.Nodup
 | [] => by simp [i4]
 | x :: r => by
  have h1:=A3 r
  unfold i4
  rw [List.nodup_cons,<- ko r]
  split
  ·rename_i h
   rw [dI] at h
   constructor
   ·intro e; rw [List.length_cons] at e; omega
   ·exact fun q => absurd h q.1
  ·rename_i h
   rw [dI] at h
   simp [h]
theorem gU {ls:List Nat}:(ls.map fun (i:Nat) => (i:Int)).Nodup ↔ ls.Nodup:= by
 constructor
 ·intro h
  exact List.Pairwise.of_map (S:=(· ≠ ·)) _ (fun a b hab e => hab (by rw [e])) h
 ·intro h
  exact List.Pairwise.map _ (fun a b hab e => hab (Int.ofNat_inj.mp e)) h
theorem fU (ls:List Nat):dC (lD ls) = some (ls.map fun (i:Nat) => (i:Int)):= by
 have:lD ls = (ls.map fun (i:Nat) => (i:Int)).map .int:=by simp [lD]
 rw [this,eE]
theorem sG {ls ls':List Nat} (e:lD ls = lD ls'):ls = ls':= by
 have:=congrArg dC e
 rw [fU,fU] at this
 exact List.map_inj_right (fun a b q => Int.ofNat_inj.mp q) |>.mp (Option.some.inj this)
theorem c7 (ls:List Nat):(lD ls).length = ls.length:=by simp [lD]
variable {hs:List (List Int)} {ls:List Nat}
theorem wz (xs:List D) (k:Nat):cutD xs none (some (k:Int)) = xs.take k:= by
 unfold cutD
 rw [show HT.sIx xs.length 0 none = 0 from rfl,HT.sIx_nat,List.drop_zero,Nat.sub_zero]
 rw [List.take_eq_take_iff]
 omega
theorem uj (xs:List D) (lo hi:Option Int):(cutD xs lo hi).length ≤ xs.length:= by
 unfold cutD
 rw [List.length_take,List.length_drop]
 omega
theorem Bb (ls:List Nat) (k:Nat):(lD ls).take k = lD (ls.take k):=by simp [lD,List.map_take]
variable {hs:List (List Int)} {ls:List Nat}
theorem l9:∀ {xs:List D},xs.all isInt = true -> ∃ ns:List Int,xs = ns.map .int
 | [],_ => ⟨[],rfl⟩
 | x :: xs,h => by
  simp only [List.all_cons,Bool.and_eq_true] at h
  obtain ⟨ns,rfl⟩:=l9 h.2
  cases x with
  | int i => exact ⟨i :: ns,rfl⟩
  | _ => cases h.1
theorem yt (neg:Bool) (k:Nat) (ls:List Nat):jR neg (.int (k:Int)) (.tup (lD ls)) = some (.bl (if neg then !decide (k ∈ ls) else decide (k ∈ ls))):= by
 have:lD ls = (ls.map fun (i:Nat) => (i:Int)).map .int:=by simp [lD]
 have e:=gJ neg k (ls.map fun (i:Nat) => (i:Int))
 unfold hD at e
 rw [this,e]
 have:((k:Int) ∈ ls.map fun (i:Nat) => (i:Int)) = (k ∈ ls):= by
  refine propext ⟨fun h => ?_,fun h => List.mem_map.mpr ⟨k,h,rfl⟩⟩
  obtain ⟨i,hi,e⟩:=List.mem_map.mp h
  rw [<- Int.ofNat_inj.mp e]; exact hi
 simp only [this]
variable {hs:List (List Int)} {ls:List Nat}
theorem kh:∀ (n:Nat) (ls:List Nat),ls.Nodup -> (∀ i ∈ ls,i < n) -> ls.length ≤ n
 | 0,[],_,_ => Nat.le_refl _
 | 0,a :: r,_,h => absurd (h a List.mem_cons_self) (Nat.not_lt_zero a)
 | n + 1,ls,hn,h => by
  have h1:=kh n (ls.erase n) (hn.erase n) fun i hi => by
   have:=(hn.mem_erase_iff).mp hi
   have:=h i this.2
   omega
  rw [List.length_erase] at h1
  split at h1 <;> omega
theorem jr (xs:List D) (n:Int) (h:0 < xs.length):∃ d ∈ xs,b_ (.lst xs) (.int (n % (xs.length:Int))) = some d:= by
 have h1:=Int.emod_nonneg n (show (xs.length:Int) ≠ 0 by omega)
 have h2:=Int.emod_lt_of_pos n (show (0:Int) < xs.length by omega)
 obtain ⟨j,hj⟩:∃ j:Nat,n % (xs.length:Int) = (j:Int):=⟨(n % (xs.length:Int)).toNat,by omega⟩
 have hlt:j < xs.length:=by omega
 refine ⟨xs[j],List.getElem_mem hlt,?_⟩
 rw [hj]
 show ji _ _ = _
 rw [er _ _ hlt]
variable {hs:List (List Int)} {ls:List Nat}
theorem qU (xs ys:List D) (h1:xs.length ≤ 100) (h2:ys.length ≤ 100):b4 (.tup xs) (.tup ys) = some (.tup (xs ++ ys)):= by
 show (if xs.length + ys.length ≤ 100000 then _ else _) = _
 rw [if_pos (by omega)]
theorem iH {xs:List D} (h:xs.length ≤ 60):Short (.tup xs):=fun ys e => by cases e; exact h
end K43
namespace K43
open PySem L2 Jt
open Builtin.Int (intBits)
theorem tX (ns:List Int) (hb:∀ i ∈ ns,intBits i ≤ 2 ^ 20) (k:Nat) (hk:k < 100):∃ c:Int,aW ux lQ [.lst (ns.map .int),.int k] = some (.int c) ∧ intBits c ≤ 2 ^ 20:= by
 by_cases h:k < ns.length
 ·refine ⟨ns[k],cu ?_,hb _ (List.getElem_mem h)⟩
  show Ok lQ [.pu (.lst (ns.map .int)),.pu (.int k)] _
  unfold lQ
  have e:b_ (.lst (ns.map .int)) (.int (k:Int)) = some (.int ns[k]):= by
   show ji _ _ = _
   rw [er _ _ (by simpa using h)]
   simp
  simp [aZ,oG,b9,h,e]
 ·refine ⟨6151 * (k:Int) + 29,cu ?_,?_⟩
  ·show Ok lQ [.pu (.lst (ns.map .int)),.pu (.int k)] _
   unfold lQ
   simp [aZ,oG,b9,h,nF,c6]
  ·exact Nat.le_trans (intBits_le_64 (by omega) (by omega)) (by decide)
theorem rL {i j:Int} (h:intBits i + intBits j ≤ 134217728):om (.int i) (.int j) = some (.int (i * j)):= by
 show (if decide (intBits i + intBits j ≤ 134217728) = true then _ else _) = _
 rw [decide_eq_true h]; rfl
theorem vH {c:Int} (hc:intBits c ≤ 2 ^ 20) (k:Nat) (hk:k < 100):∃ n:Int,aW qr oV [.int c,.int k] = some (.int n):= by
 have key:∃ d,aW qr oV [.int c,.int k] = some d ∧ ∃ n,d = .int n:= by
  apply pw
  show Ok oV [.pu (.int c),.pu (.int k),.un] _
  unfold oV
  have s1:∀ z:Int,-(2 ^ 63) < z -> z < 2 ^ 63 -> intBits z ≤ 64:=fun z h1 h2 => intBits_le_64 (by omega) (by omega)
  have e1:nF (.int (c + 1)) (.int 40692) = some (.int ((c + 1) * 40692)):=tx (by omega) (by omega)
  have e2:nF (.int 104729) (.int (k:Int)) = some (.int (104729 * (k:Int))):=tx (by omega) (by omega)
  have b1:=PyProof.Rows.bits_add hc (s1 1 (by omega) (by omega))
  have b2:=PyProof.Rows.bits_mul b1 (s1 40692 (by omega) (by omega))
  have b3:=PyProof.Rows.bits_add b2 (s1 (104729 * (k:Int)) (by omega) (by omega))
  have e3:om (.int ((c + 1) * 40692 + 104729 * (k:Int))) (.int ((c + 1) * 40692 + 104729 * (k:Int))) = some (.int (((c + 1) * 40692 + 104729 * (k:Int)) * ((c + 1) * 40692 + 104729 * (k:Int)))):=rL (Nat.le_trans (Nat.add_le_add b3 b3) (by decide))
  have g1:=Int.emod_nonneg (((c + 1) * 40692 + 104729 * (k:Int)) * ((c + 1) * 40692 + 104729 * (k:Int))) (show (2147483399:Int) ≠ 0 by omega)
  have g2:=Int.emod_lt_of_pos (((c + 1) * 40692 + 104729 * (k:Int)) * ((c + 1) * 40692 + 104729 * (k:Int))) (show (0:Int) < 2147483399 by omega)
  simp only [cM,dR,eW,bG,au,List.getElem?_cons_zero,List.getElem?_cons_succ,Option.some.injEq,Jt.Slot.pu.injEq,exists_eq_left',c6,b9,if_true,cv,e1,e2]
  refine ⟨by simp,?_⟩
  simp only [List.set_cons_succ,List.set_cons_zero,List.getElem?_cons_zero,List.getElem?_cons_succ,Option.some.injEq,Jt.Slot.pu.injEq,exists_eq_left',eW,bG,e3,cv,au,nK,b9]
  generalize (((c + 1) * 40692 + 104729 * (k:Int)) * ((c + 1) * 40692 + 104729 * (k:Int))) % 2147483399 = z at g1 g2 ⊢
  have e4:om (.int (z + k)) (.int (z + k + 31)) = some (.int ((z + k) * (z + k + 31))):=rL (Nat.le_trans (Nat.add_le_add (s1 (z + k) (by omega) (by omega)) (s1 (z + k + 31) (by omega) (by omega))) (by decide))
  simp [e4,c6,b9]
 obtain ⟨d,e,n,rfl⟩:=key
 exact ⟨n,e⟩
theorem vv (ns:List Int) (hb:∀ i ∈ ns,intBits i ≤ 2 ^ 20) (k:Nat) (hk:k < 100):∃ n:Int,fY rA oC [.lst (ns.map .int),.int k] = some [.int n]:= by
 obtain ⟨c,ec,bc⟩:=tX ns hb k hk
 have:∃ d,fY rA oC [.lst (ns.map .int),.int k] = some d ∧ ∃ c,d = [.int c]:= by
  apply uX
  show Ok oC [.pu (.lst (ns.map .int)),.pu (.int k),.un,.un,.un] _
  unfold oC
  simp [aE,ec,nK,FJ,b9,bJ]
  by_cases h:c % 2 = 0
  ·simp [h]
  ·simp [h,cF,bz]
   refine ua (bP 0 24) (fun _ δ => ∃ a x,δ = [.pu (.lst (ns.map .int)),.pu (.int k),.pu (.int c),.pu (.int a),x]) ?_ (fun i hk δ hI => ?_) (fun δ hI => ?_)
   ·exact ⟨_,_,rfl⟩
   ·obtain ⟨a,x,rfl⟩:=hI
    have hk':i < 24:=by simpa [bP] using hk
    have e4:∀ z:Int,nF (.int z) (.int 2147483647) = some (.int (z * 2147483647)):=fun z => tx (by omega) (by omega)
    obtain ⟨m,em⟩:=vH bc i (by omega)
    rw [f_]
    simp [e4,aE,em,c6,b9]
   ·obtain ⟨a,x,rfl⟩:=hI
    simp
 obtain ⟨d,e,c,rfl⟩:=this
 exact ⟨c,e⟩
theorem aH (n j:Int) (h:0 < j) (h2:j < 1073741824):bp cj b5 [.int n] [.int j] = some (.int (n % j),[.int (n / j)]):= by
 have:∃ d xs',bp cj b5 [.int n] [.int j] = some (d,xs') ∧ (d = .int (n % j) ∧ xs' = [.int (n / j)]):= by
  apply d_
  show Ok b5 [.ow true [.int n],.pu (.int j),.un,.un] _
  unfold b5
  simp [jv,b_,ji,sY,h,h2]
 obtain ⟨d,xs',e,rfl,rfl⟩:=this
 exact e
def Up (M k:Nat) (cs:List Int):Prop:=cs.Pairwise (· < ·) ∧ ∀ c ∈ cs,0 ≤ c ∧ c < (k:Int) ∧ c < (M:Int)
theorem Up.snoc {M k:Nat} {cs:List Int} (h:Up M k cs) (hk:k < M):Up M (k + 1) (cs ++ [(k:Int)]):= by
 refine ⟨List.pairwise_append.mpr ⟨h.1,by simp,fun a ha b hb => ?_⟩,fun c hc => ?_⟩
 ·rw [List.mem_singleton.mp hb]; exact (h.2 a ha).2.1
 ·rcases List.mem_append.mp hc with q | q
  ·have:=h.2 c q; omega
  ·rw [List.mem_singleton.mp q]; omega
theorem Up.more {M k:Nat} {cs:List Int} (h:Up M k cs):Up M (k + 1) cs:=⟨h.1,fun c hc => by have:=h.2 c hc; omega⟩
theorem lr (n0:Int) {M:Nat} (hM1:1 ≤ M) (hM7:M ≤ 7):∃ d xs',bp gS i5 [.int n0] [.int M] = some (d,xs') ∧ (∃ h,d = hD h ∧ eB M h) ∧ ∃ n:Int,xs' = [.int n]:= by
 apply d_
 show Ok i5 [.ow true [.int n0],.pu (.int M),.un] _
 unfold i5
 have sM:bz M = true:=by simp [bz]; omega
 refine aI (fun δ => ∃ (n:Int) (cs:List Int),δ = [.ow true [.int n],.pu (.int M),.pu (.lst (cs.map .int))] ∧ Up M M cs) ?_ ?_
 ·simp only [dR,ar,au]
  refine d5 (bP 0 M) (fun k acc δ => ∃ (n:Int) (cs:List Int),acc = cs.map .int ∧ δ = [.ow true [.int n],.pu (.int M),.un] ∧ Up M k cs) rfl ?_ (by simp [bP]; omega) ⟨n0,[],rfl,rfl,List.Pairwise.nil,by simp⟩ ?_ ?_
  ·simp [cF,sM]
  ·rintro j hj acc _ ha hl ⟨n,cs,rfl,rfl,hb⟩
   have hj':j < M:=by simpa [bP] using hj
   rw [f_]
   by_cases q:n % 3 = 0
   ·simp [-Prod.exists,aH,bJ,q]
    exact ⟨_,cs ++ [(j:Int)],by simp,rfl,hb.snoc hj'⟩
   ·simp [-Prod.exists,aH,bJ,q]
    exact ⟨_,cs,rfl,rfl,hb.more⟩
  ·rintro xs _ hx hl ⟨n,cs,rfl,rfl,hb⟩
   have:(bP 0 M).length = M:=by simp [bP]
   rw [this] at hb
   exact ⟨by simp,trivial,n,cs,rfl,hb⟩
 rintro _ ⟨n,cs,rfl,hb⟩
 have et:=aH n M (by omega) (by omega)
 by_cases q:cs = []
 ·subst q
  simp [-Prod.exists,de,et,c8]
  refine ⟨[n % (M:Int)],rfl,by simp,by simp,fun c hc => ?_⟩
  rw [List.mem_singleton.mp hc]
  exact ⟨Int.emod_nonneg n (by omega),Int.emod_lt_of_pos n (by omega)⟩
 ·have q':(cs.map D.int).isEmpty = false:= by
   cases cs with
   | nil => exact absurd rfl q
   | cons a r => rfl
  simp only [cM,wJ,ar,eW,bG,fg,au,dN,List.getElem?_cons_zero,List.getElem?_cons_succ,Option.some.injEq,Jt.Slot.pu.injEq,exists_eq_left',List.length_nil,Nat.zero_le,true_and,de,q',cv,fJ,Bool.false_eq_true,if_false,D.bl.injEq,eS,bC,c8]
  exact ⟨_,_,rfl,rfl,⟨cs,rfl,q,hb.1,fun c hc => by have:=hb.2 c hc; omega⟩,n,rfl⟩
end K43
namespace K43
open PySem L2 Jt
open Builtin.Int (intBits)
theorem GP (hs:List (List Int)) (c:Int):((hs.filter fun h => decide (c ∈ h)).map hD).isEmpty = !(hs.any fun h => decide (c ∈ h)):= by
 rw [List.isEmpty_map,Bool.eq_iff_iff,List.isEmpty_iff,List.filter_eq_nil_iff,Bool.not_eq_true',List.any_eq_false]
theorem vI {a b:List Int} (h1:a.Pairwise (· < ·)) (h2:b.Pairwise (· < ·)) (h:∀ x ∈ a,x ∉ b):(a ++ b).Nodup :=
 List.nodup_append.mpr ⟨h1.imp fun {x y} (q:x < y) => Int.ne_of_lt q,h2.imp fun {x y} (q:x < y) => Int.ne_of_lt q,fun x hx y hy e => h x hx (e ▸ hy)⟩
def fQ (M:Nat) (hs:List (List Int)):List Nat:=(List.range M).filter fun c => hs.any fun h => decide ((c:Int) ∈ h)
theorem qD (a b:D):b_ (.lst [a,b]) (.int 0) = some a:=rfl
theorem rT (a b:D):b_ (.lst [a,b]) (.int 1) = some b:=rfl
theorem kY (neg:Bool) (k:Nat) (ls:List Nat):jR neg (.int (k:Int)) (.lst (lD ls)) = some (.bl (if neg then !decide (k ∈ ls) else decide (k ∈ ls))):=yt neg k ls
theorem qo (n0:Int) {M Z:Nat} (hM1:1 ≤ M) (hM7:M ≤ 7) (hZ1:1 ≤ Z) (hZ6:Z ≤ 6):∃ d xs',bp iY rQ [.int n0] [.int M,.int Z] = some (d,xs') ∧ (∃ hs:List (List Int),d = .lst (hs.map hD) ∧ hs.length = Z ∧ ∀ h ∈ hs,eB M h) ∧ ∃ n:Int,xs' = [.int n]:= by
 apply d_
 show Ok rQ [.ow true [.int n0],.pu (.int M),.pu (.int Z),.un,.un,.un,.un,.un,.un,.un,.un] _
 unfold rQ
 have sM:bz M = true:=by simp [bz]; omega
 obtain ⟨d,xs',eh,⟨h0,rfl,hh0⟩,n1,rfl⟩:=lr n0 hM1 hM7
 refine aI (fun δ => δ = [.ow true [.int n1],.pu (.int M),.pu (.int Z),.ow false [hD h0],.un,.un,.un,.un,.un,.un,.un]) ?_ ?_
 ·simp [-Prod.exists,eh]
 rintro _ rfl
 have hZ':((Z:Int) - 1) = ((Z - 1:Nat):Int):=by omega
 have sZ:bz ((Z - 1:Nat):Int) = true:=by simp [bz]; omega
 refine aI (fun δ => ∃ (n:Int) (hs:List (List Int)) (a4 a5 a6 a7 a8 a9 a10:Jt.Slot),δ = [.ow true [.int n],.pu (.int M),.pu (.int Z),.ow false (hs.map hD),a4,a5,a6,a7,a8,a9,a10] ∧ hs.length = Z ∧ ∀ h ∈ hs,eB M h) ?_ ?_
 ·refine fO (bP 0 (Z - 1)) (fun k δ => ∃ (n:Int) (hs:List (List Int)) (a4 a5 a6 a7 a8 a9 a10:Jt.Slot),δ = [.ow true [.int n],.pu (.int M),.pu (.int Z),.ow false (hs.map hD),a4,a5,a6,a7,a8,a9,a10] ∧ hs.length = k + 1 ∧ ∀ h ∈ hs,eB M h) ?_ ⟨n1,[h0],_,_,_,_,_,_,_,rfl,rfl,by simpa using hh0⟩ ?_ ?_
  ·simp [jT,b9,hZ',cF,sZ]
  ·rintro k hk _ ⟨n,hs,a4,a5,a6,a7,a8,a9,a10,rfl,hlen,hq⟩
   have hk':k < Z - 1:=by simpa [bP] using hk
   rw [f_,bF]
   refine ⟨by simp,?_⟩
   simp only [List.set_cons_succ,List.set_cons_zero]
   refine aI (fun δ => ∃ n way:Int,δ = [.ow true [.int n],.pu (.int M),.pu (.int Z),.ow false (hs.map hD),.pu (.int k),.pu (.int way),a6,a7,a8,a9,a10]) ?_ ?_
   ·simp [-Prod.exists,aH]
   rintro _ ⟨n,way,rfl⟩
   have hpos:0 < hs.length:=by omega
   have et:=aH n hs.length (by omega) (by omega)
   refine aI (fun δ => ∃ (n:Int) (h:List Int),h ∈ hs ∧ δ = [.ow true [.int n],.pu (.int M),.pu (.int Z),.ow false (hs.map hD),.pu (.int k),.pu (.int way),.pu (hD h),a7,a8,a9,a10]) ?_ ?_
   ·obtain ⟨h,hh,eh⟩:=w8 hs n hpos
    have el:b_ (.lst (hs.map hD)) (.int ((hs.length:Int) - 1)) = some (hD hs[hs.length - 1]):= by
     rw [show (hs.length:Int) - 1 = ((hs.length - 1:Nat):Int) by omega]
     show ji _ _ = _
     rw [er _ _ (by simp; omega)]
     simp
    by_cases q:1 < way
    ·simp [-Prod.exists,et,jT,uy,b9,ju,q,rT,eh]
     exact ⟨_,h,hh,rfl,rfl⟩
    ·simp [-Prod.exists,et,jT,uy,b9,ju,q,qD,el]
     exact ⟨_,_,List.getElem_mem (by omega),rfl,rfl⟩
   rintro _ ⟨n,h,hh,rfl⟩
   have hok:=hq h hh
   have h7:=hok.len (by omega) (by omega)
   refine aI (fun δ => ∃ (n:Int) (cs:List Int),δ = [.ow true [.int n],.pu (.int M),.pu (.int Z),.ow false (hs.map hD),.pu (.int k),.pu (.int way),.pu (hD h),.pu (.lst (cs.map .int)),a8,a9,a10] ∧ cs.Sublist h) ?_ ?_
   ·simp only [dR,ar,au]
    refine d5 (h.map .int) (fun j acc δ => ∃ (n:Int) (cs:List Int),acc = cs.map .int ∧ δ = [.ow true [.int n],.pu (.int M),.pu (.int Z),.ow false (hs.map hD),.pu (.int k),.pu (.int way),.pu (hD h),a7,a8,a9,a10] ∧ cs.Sublist (h.take j)) rfl ?_ (by simp; omega) ⟨n,[],rfl,rfl,by simp⟩ ?_ ?_
    ·simp [mY]
    ·rintro j hj acc _ ha hl ⟨n,cs,rfl,rfl,hb⟩
     have hj':j < h.length:=by simpa using hj
     rw [List.getElem_map]
     have e3:=aH n 3 (by omega) (by omega)
     have tk:h.take (j + 1) = h.take j ++ [h[j]]:=List.take_succ_eq_append_getElem hj'
     by_cases q:0 < n % 3
     ·simp [-Prod.exists,e3,uy,b9,q]
      exact ⟨_,cs ++ [h[j]],by simp,rfl,by rw [tk]; exact List.Sublist.append hb (List.Sublist.refl _)⟩
     ·simp [-Prod.exists,e3,uy,b9,q]
      exact ⟨_,cs,rfl,rfl,by rw [tk]; exact hb.trans (List.sublist_append_left _ _)⟩
    ·rintro xs _ hx hl ⟨n,cs,rfl,rfl,hb⟩
     rw [List.length_map,List.take_length] at hb
     exact ⟨by simp,trivial,n,cs,rfl,hb⟩
   rintro _ ⟨n,cs,rfl,hcs⟩
   refine aI (fun δ => δ = [.ow true [.int n],.pu (.int M),.pu (.int Z),.ow false (hs.map hD),.pu (.int k),.pu (.int way),.pu (hD h),.pu (.lst (cs.map .int)),.pu (.lst (lD (fQ M hs))),a9,a10]) ?_ ?_
   ·simp only [dR,ar,au]
    refine a_ (List.range M) (fun (i:Nat) => .int (i:Int)) (fun c => if (hs.any fun h => decide ((c:Int) ∈ h)) = true then some (.int (c:Int)) else none) rfl ?_ (by simp; omega) (fun c hc => ?_) ?_
    ·simp [cF,sM,bP]
    ·simp only [dG,bF,ar,eW]
     refine ⟨by simp,?_⟩
     refine w6 (i:=3) (b:=false) hs hD (fun h => if decide ((c:Int) ∈ h) = true then some (hD h) else none) rfl rfl ?_ (by omega) (fun h hh => ?_) ?_
     ·simp
     ·by_cases q:(c:Int) ∈ h <;> simp [gJ,q]
     ·rw [aY]
      have:=GP hs (c:Int)
      cases q:(hs.any fun h => decide ((c:Int) ∈ h)) with
      | true =>
       rw [q] at this
       simp only [au,fg,dN,List.length_nil,Nat.zero_le,true_and,de,this,cv,fJ,if_true,D.bl.injEq,exists_eq_left']
       simp
      | false =>
       rw [q] at this
       simp only [au,fg,dN,List.length_nil,Nat.zero_le,true_and,de,this,cv,fJ,if_true,D.bl.injEq,exists_eq_left']
       simp
    ·rw [aY]
     simp [lD,fQ]
   rintro _ rfl
   refine aI (fun δ => ∃ (n:Int) (fs:List Int),δ = [.ow true [.int n],.pu (.int M),.pu (.int Z),.ow false (hs.map hD),.pu (.int k),.pu (.int way),.pu (hD h),.pu (.lst (cs.map .int)),.pu (.lst (lD (fQ M hs))),.pu (.lst (fs.map .int)),a10] ∧ Up M M fs ∧ ∀ c ∈ fs,c ∉ h) ?_ ?_
   ·simp only [dR,ar,au]
    refine d5 (bP 0 M) (fun j acc δ => ∃ (n:Int) (fs:List Int),acc = fs.map .int ∧ δ = [.ow true [.int n],.pu (.int M),.pu (.int Z),.ow false (hs.map hD),.pu (.int k),.pu (.int way),.pu (hD h),.pu (.lst (cs.map .int)),.pu (.lst (lD (fQ M hs))),a9,a10] ∧ Up M j fs ∧ ∀ c ∈ fs,c ∉ h) rfl ?_ (by simp [bP]; omega) ⟨n,[],rfl,rfl,⟨List.Pairwise.nil,by simp⟩,by simp⟩ ?_ ?_
    ·simp [cF,sM]
    ·rintro j hj acc _ ha hl ⟨n,fs,rfl,rfl,hb,hn⟩
     have hj':j < M:=by simpa [bP] using hj
     rw [f_]
     have e2:=aH n 2 (by omega) (by omega)
     by_cases q:j ∈ fQ M hs
     ·simp only [dG,bF,lq,ar,eW,bG]
      simp [-Prod.exists,kY,q]
      exact ⟨_,fs,rfl,rfl,hb.more,hn⟩
     ·have nh:(j:Int) ∉ h:=fun z => q (List.mem_filter.mpr ⟨List.mem_range.mpr hj',List.any_eq_true.mpr ⟨h,hh,decide_eq_true z⟩⟩)
      by_cases q2:n % 2 = 0
      ·simp only [dG,bF,lq,ar,eW,bG]
       simp [-Prod.exists,kY,q,e2,bJ,q2]
       refine ⟨_,fs ++ [(j:Int)],by simp,rfl,hb.snoc hj',fun c hc => ?_⟩
       rcases List.mem_append.mp hc with z | z
       ·exact hn c z
       ·rw [List.mem_singleton.mp z]; exact nh
      ·simp only [dG,bF,lq,ar,eW,bG]
       simp [-Prod.exists,kY,q,e2,bJ,q2]
       exact ⟨_,fs,rfl,rfl,hb.more,hn⟩
    ·rintro xs _ hx hl ⟨n,fs,rfl,rfl,hb,hn⟩
     have:(bP 0 M).length = M:=by simp [bP]
     rw [this] at hb
     exact ⟨by simp,trivial,n,fs,rfl,hb,hn⟩
   rintro _ ⟨n,fs,rfl,hfs,hfn⟩
   have hcl:=hcs.length_le
   have hfl:fs.length ≤ 7:= by
    have:=pf fs 0 M hfs.1 (fun c hc => by have:=hfs.2 c hc; omega) (by omega)
    omega
   have l1:cs.length + fs.length ≤ 100000:=by omega
   have l2:(cs ++ fs).length < 64:=by rw [List.length_append]; omega
   refine aI (fun δ => δ = [.ow true [.int n],.pu (.int M),.pu (.int Z),.ow false (hs.map hD),.pu (.int k),.pu (.int way),.pu (hD h),.pu (.lst (cs.map .int)),.pu (.lst (lD (fQ M hs))),.pu (.lst (fs.map .int)),.pu (.lst ((dk (cs ++ fs)).map .int))]) ?_ ?_
   ·have e:dC (cs.map D.int ++ fs.map D.int) = some (cs ++ fs):=by rw [<- List.map_append,eE]
    have es:sortI (cs.map D.int ++ fs.map D.int) = some ((dk (cs ++ fs)).map D.int):= by
     unfold sortI
     rw [e]
     exact if_pos l2
    simp [j9,vG,l1,fS,es]
   rintro _ rfl
   have hnd:(cs ++ fs).Nodup:=vI (hok.2.1.sublist hcs) hfs.1 fun x hx hy => hfn x hy (hcs.subset hx)
   have hpos':0 < h.length:=List.length_pos_iff.mpr hok.1
   have e7:=aH n h.length (by omega) (by omega)
   refine aI (fun δ => ∃ (n:Int) (g:List Int),δ = [.ow true [.int n],.pu (.int M),.pu (.int Z),.ow false (hs.map hD),.pu (.int k),.pu (.int way),.pu (hD h),.pu (.lst (cs.map .int)),.pu (.lst (lD (fQ M hs))),.pu (.lst (fs.map .int)),.pu (.lst (g.map .int))] ∧ eB M g) ?_ ?_
   ·by_cases q:dk (cs ++ fs) = []
    ·obtain ⟨j,hj,ej⟩:∃ j,∃ hj:j < h.length,n % (h.length:Int) = (j:Int):= by
      have g1:=Int.emod_nonneg n (show (h.length:Int) ≠ 0 by omega)
      have g2:=Int.emod_lt_of_pos n (show (0:Int) < h.length by omega)
      exact ⟨(n % (h.length:Int)).toNat,by omega,by omega⟩
     rw [ej] at e7
     have ei:b_ (hD h) (.int (j:Int)) = some (.int h[j]):= by
      show ji _ _ = _
      rw [er _ _ (by simpa using hj)]
      simp
     have el:aZ [hD h] = some (.int h.length):=by simp [hD,aZ]
     simp [-Prod.exists,q,de,el,e7,ei]
     refine ⟨_,[h[j]],⟨rfl,rfl⟩,by simp,by simp,fun c hc => ?_⟩
     rw [List.mem_singleton.mp hc]
     exact hok.2.2 _ (List.getElem_mem hj)
    ·have q':((dk (cs ++ fs)).map D.int).isEmpty = false:= by
      cases z:dk (cs ++ fs) with
      | nil => exact absurd z q
      | cons a r => rfl
     simp only [wJ,ar,eW,bG,fg,au,dN,List.getElem?_cons_zero,List.getElem?_cons_succ,Option.some.injEq,Jt.Slot.pu.injEq,exists_eq_left',List.length_nil,Nat.zero_le,true_and,de,q',cv,fJ,Bool.false_eq_true,if_false,D.bl.injEq]
     refine ⟨n,_,rfl,q,lR hnd,fun c hc => ?_⟩
     rw [jS] at hc
     rcases List.mem_append.mp hc with z | z
     ·exact hok.2.2 c (hcs.subset z)
     ·have:=hfs.2 c z; omega
   rintro _ ⟨n,g,rfl,hg⟩
   refine dX ⟨_,_,rfl⟩ ?_
   have hl3:hs.length ≤ 100000:=by omega
   simp [c8,hl3]
   refine ⟨_,hs ++ [g],⟨rfl,by simp [hD]⟩,by simp [hlen],fun h' hh' => ?_⟩
   rcases List.mem_append.mp hh' with z | z
   ·exact hq h' z
   ·rw [List.mem_singleton.mp z]; exact hg
  ·rintro _ ⟨n,hs,a4,a5,a6,a7,a8,a9,a10,rfl,hlen,hq⟩
   have:(bP 0 (Z - 1)).length = Z - 1:=by simp [bP]
   rw [this] at hlen
   exact ⟨rfl,n,hs,_,_,_,_,_,_,_,rfl,by omega,hq⟩
 rintro _ ⟨n,hs,a4,a5,a6,a7,a8,a9,a10,rfl,hlen,hq⟩
 simp
 exact ⟨hs,rfl,hlen,hq⟩
end K43
namespace K43
open PySem L2 Jt
open Builtin.Int (intBits)
theorem Bc {M S k:Nat} (hS:3 ≤ S) (hSM:S ≤ M) (hk:k < S):eB M (dk [(k:Int),((k:Int) + 1) % (S:Int)]):= by
 have a1:=Int.emod_nonneg ((k:Int) + 1) (show (S:Int) ≠ 0 by omega)
 have a2:=Int.emod_lt_of_pos ((k:Int) + 1) (show (0:Int) < S by omega)
 have ne:(k:Int) ≠ ((k:Int) + 1) % (S:Int):= by
  by_cases q:k + 1 < S
  ·rw [Int.emod_eq_of_lt (by omega) (by omega)]; omega
  ·rw [show (k:Int) + 1 = S by omega,Int.emod_self]; omega
 refine ⟨?_,lR (by simpa using ne),?_⟩
 ·intro e
  have:=congrArg List.length e
  rw [oU] at this
  simp at this
 ·intro c hc
  rw [jS] at hc
  rcases List.mem_cons.mp hc with rfl | hc
  ·omega
  ·rw [List.mem_singleton.mp hc]; omega
theorem Cb {M S k:Nat} (hS:3 ≤ S) (hSM:S ≤ M):eB M (((List.range S).filter fun i => decide (i ≠ k)).map fun (i:Nat) => (i:Int)):= by
 refine ⟨?_,?_,?_⟩
 ·intro e
  have:(if k = 0 then 1 else 0) ∈ (List.range S).filter fun i => decide (i ≠ k):= by
   rw [List.mem_filter,List.mem_range]
   split <;> simp <;> omega
  rw [List.map_eq_nil_iff] at e
  rw [e] at this; cases this
 ·refine List.Pairwise.map _ (fun a b hab => ?_) (List.Pairwise.filter _ List.pairwise_lt_range)
  exact Int.ofNat_lt.mpr hab
 ·intro c hc
  obtain ⟨i,hi,rfl⟩:=List.mem_map.mp hc
  have:=List.mem_range.mp (List.mem_filter.mp hi).1
  omega
theorem p_ (n0:Int) {M:Nat} (hM3:3 ≤ M) (hM7:M ≤ 7):∃ d xs',bp nQ xh [.int n0] [.int M] = some (d,xs') ∧ (∃ hs:List (List Int),d = .lst (hs.map hD) ∧ 3 ≤ hs.length ∧ hs.length ≤ 6 ∧ ∀ h ∈ hs,eB M h) ∧ ∃ n:Int,xs' = [.int n]:= by
 apply d_
 show Ok xh [.ow true [.int n0],.pu (.int M),.un] _
 unfold xh
 obtain ⟨N,hN,hN1,hN2,hNM⟩:∃ N:Nat,(if (M:Int) < 6 then (M:Int) else 6) = (N:Int) ∧ 3 ≤ N ∧ N ≤ 6 ∧ N ≤ M:= by
  refine ⟨(if (M:Int) < 6 then (M:Int) else 6).toNat,?_,?_,?_,?_⟩ <;> split <;> omega
 have lot:∀ n:Int,Ok (aB (dD 2 (m2 c6 (pure (.int 3)) (do let _ <- aF 0; bR 0 2 (bp cj b5) (ae (m2 jT (mC jG (ae (pure (.int 6)) (ae (ah 1) (pure [])))) (pure (.int 2))) (pure [])))))
  (do let d <- (do let xs <- (aX 3 1 (mC cF (ae (ah 2) (pure []))) (bh (ba 3) (pure true) (mC cN (ae (do let xs <- (aX 4 1 (mC cF (ae (ah 2) (pure []))) (bh (ba 4) ((m2 (iy true) (ah 4) (ah 3)) >>= cQ) (ah 4))); pure (D.lst xs)) (pure []))))); pure (D.lst xs)); pure (Fl.rt d))) [.ow true [.int n],.pu (.int M),.un] (fun fl δ => ∃ d,fl = .rt d ∧ ∃ xs',δ[0]? = some (.ow true xs') ∧ (∃ hs:List (List Int),d = .lst (hs.map hD) ∧ 3 ≤ hs.length ∧ hs.length ≤ 6 ∧ ∀ h ∈ hs,eB M h) ∧ ∃ n:Int,xs' = [.int n]):= by
  intro n
  have hp:(0:Int) < N - 2:=by omega
  have hq:(N:Int) - 2 < 1073741824:=by omega
  obtain ⟨S,hS,hS1,hS2⟩:∃ S:Nat,3 + n % ((N:Int) - 2) = (S:Int) ∧ 3 ≤ S ∧ S ≤ N:= by
   have h1:=Int.emod_nonneg n (show (N:Int) - 2 ≠ 0 by omega)
   have h2:=Int.emod_lt_of_pos n hp
   exact ⟨(3 + n % ((N:Int) - 2)).toNat,by omega,by omega,by omega⟩
  have hsm:bz S = true:=by simp [bz]; omega
  refine aI (fun δ => δ = [.ow true [.int (n / ((N:Int) - 2))],.pu (.int M),.pu (.int S)]) ?_ ?_
  ·simp [-Prod.exists,jG,hN,jT,c6,b9,aH _ _ hp hq,hS]
  rintro _ rfl
  simp only [ar,au]
  refine a_ (List.range S) (fun (k:Nat) => .int (k:Int)) (fun k => some (hD (((List.range S).filter fun i => decide (i ≠ k)).map fun (i:Nat) => (i:Int)))) rfl ?_ (by simp; omega) (fun k _ => ?_) ?_
  ·simp [cF,hsm,bP]
  ·simp
   refine a_ (List.range S) (fun (k:Nat) => .int (k:Int)) (fun i => if decide (i ≠ k) = true then some (.int (i:Int)) else none) rfl ?_ (by simp; omega) (fun i _ => ?_) ?_
   ·simp [cF,hsm,bP]
   ·by_cases e:i = k <;> simp [f9,e]
   ·rw [aY]
    simp [cN,fS,hD]
  ·refine ⟨_,rfl,_,rfl,⟨(List.range S).map fun (k:Nat) => (((List.range S).filter fun i => decide (i ≠ k)).map fun (i:Nat) => (i:Int)),by simp [List.filterMap_eq_map'],by simp; omega,by simp; omega,fun h hh => ?_⟩,_,rfl⟩
   obtain ⟨k,hk,rfl⟩:=List.mem_map.mp hh
   exact Cb hS1 (by omega)
 by_cases h3:M = 3
 ·rw [cM]
  have:(M:Int) = 3:=by omega
  refine gP (fun b δ => b = true ∧ δ = [.ow true [.int n0],.pu (.int M),.un]) ?_ ?_ ?_
  ·simp [bJ,this]
  ·rintro _ ⟨_,rfl⟩
   refine (lot n0).mono fun fl δ1 ⟨d,e,xs',q⟩ => ?_
   subst e
   exact ⟨d,xs',rfl,q⟩
  ·rintro _ ⟨h,_⟩; cases h
 ·have h3':¬ ((M:Int) = 3):=by omega
  have e2:=aH n0 2 (by omega) (by omega)
  rw [cM]
  refine gP (fun b δ => δ = [.ow true [.int (n0 / 2)],.pu (.int M),.un]) ?_ ?_ ?_
  ·simp [-Prod.exists,bJ,h3',e2]
   omega
  ·rintro _ rfl
   refine (lot _).mono fun fl δ1 ⟨d,e,xs',q⟩ => ?_
   subst e
   exact ⟨d,xs',rfl,q⟩
  ·rintro _ rfl
   rw [au]
   generalize n0 / 2 = n
   have hp:(0:Int) < N - 3:=by omega
   have hq:(N:Int) - 3 < 1073741824:=by omega
   obtain ⟨S,hS,hS1,hS2⟩:∃ S:Nat,4 + n % ((N:Int) - 3) = (S:Int) ∧ 3 ≤ S ∧ S ≤ N:= by
    have h1:=Int.emod_nonneg n (show (N:Int) - 3 ≠ 0 by omega)
    have h2:=Int.emod_lt_of_pos n hp
    exact ⟨(4 + n % ((N:Int) - 3)).toNat,by omega,by omega,by omega⟩
   have hsm:bz S = true:=by simp [bz]; omega
   refine aI (fun δ => δ = [.ow true [.int (n / ((N:Int) - 3))],.pu (.int M),.pu (.int S)]) ?_ ?_
   ·simp [-Prod.exists,jG,hN,jT,c6,b9,aH _ _ hp hq,hS]
   rintro _ rfl
   simp only [ar,au]
   refine a_ (List.range S) (fun (k:Nat) => .int (k:Int)) (fun k => some (hD (dk [(k:Int),((k:Int) + 1) % (S:Int)]))) rfl ?_ (by simp; omega) (fun k _ => ?_) ?_
   ·simp [cF,hsm,bP]
   ·have:0 < S:=by omega
    simp [c6,nK,b9,fS,sortI,dC,this,cN,hD]
   ·refine ⟨_,_,rfl,rfl,⟨(List.range S).map fun (k:Nat) => dk [(k:Int),((k:Int) + 1) % (S:Int)],by simp [List.filterMap_eq_map'],by simp; omega,by simp; omega,fun h hh => ?_⟩,_,rfl⟩
    obtain ⟨k,hk,rfl⟩:=List.mem_map.mp hh
    exact Bc hS1 (by omega) (List.mem_range.mp hk)
theorem zG {ls:List Nat} (h:ls.Nodup) (j:Nat):(ls.eraseIdx j).Nodup:=h.sublist (List.eraseIdx_sublist ls j)
theorem j6 {ls:List Nat} (h:ls.Nodup) {j:Nat} (hj:j < ls.length):ls[j] ∉ ls.eraseIdx j:=fun hm => by
 obtain ⟨i,hi,e⟩:=List.mem_eraseIdx_iff_getElem.mp hm
 obtain ⟨hl,e⟩:=e
 have:=(List.getElem_inj h).mp e
 exact hl this
theorem rD (n0:Int) {M:Nat} {hs:List (List Int)} (hM1:1 ≤ M) (hM7:M ≤ 7) (h1:1 ≤ hs.length) (h6:hs.length ≤ 6) (hq:∀ h ∈ hs,eB M h):∃ d xs',bp fM kJ [.int n0] [.int M,.lst (hs.map hD)] = some (d,xs') ∧ (∃ gs:List (List Int),d = .tup (gs.map hD) ∧ gs.length = hs.length ∧ ∀ g ∈ gs,eB M g) ∧ ∃ n:Int,xs' = [.int n]:= by
 apply d_
 show Ok kJ [.ow true [.int n0],.pu (.int M),.pu (.lst (hs.map hD)),.un,.un,.un,.un] _
 unfold kJ
 have hn:(M:Int) < 100000:=by omega
 have sM:bz M = true:=by simp [bz]; omega
 refine aI (fun δ => δ = [.ow true [.int n0],.pu (.int M),.pu (.lst (hs.map hD)),.ow false (lD (List.range M)),.un,.un,.un]) (by simp [nI,hn,ja]) ?_
 rintro _ rfl
 refine aI (fun δ => ∃ (n:Int) (ls os:List Nat),δ = [.ow true [.int n],.pu (.int M),.pu (.lst (hs.map hD)),.ow false (lD ls),.pu (.lst (lD os)),.un,.un] ∧ os.length = M ∧ os.Nodup ∧ ∀ o ∈ os,o < M) ?_ ?_
 ·simp only [dR,ar,au]
  refine d5 (bP 0 M) (fun k acc δ => ∃ (n:Int) (ls os:List Nat),acc = lD os ∧ δ = [.ow true [.int n],.pu (.int M),.pu (.lst (hs.map hD)),.ow false (lD ls),.un,.un,.un] ∧ os.length = k ∧ ls.length + k = M ∧ os.Nodup ∧ ls.Nodup ∧ (∀ o ∈ os,o < M ∧ o ∉ ls) ∧ ∀ o ∈ ls,o < M) rfl ?_ (by simp [bP]; omega) ⟨n0,List.range M,[],rfl,rfl,rfl,by simp,by simp,List.nodup_range,by simp,by simp⟩ ?_ ?_
  ·simp [cF,sM]
  ·rintro k hk acc _ ha hl ⟨n,ls,os,rfl,rfl,h1,h2,h3,h4,h5,h6⟩
   have hk':k < M:=by simpa [bP] using hk
   have et:=aH n ls.length (by omega) (by omega)
   have g1:=Int.emod_nonneg n (show (ls.length:Int) ≠ 0 by omega)
   have g2:=Int.emod_lt_of_pos n (show (0:Int) < ls.length by omega)
   obtain ⟨j,hj⟩:∃ j:Nat,n % (ls.length:Int) = (j:Int):=⟨(n % (ls.length:Int)).toNat,by omega⟩
   have hlt:j < ls.length:=by omega
   rw [hj] at et
   rw [f_]
   simp only [dG,bF,au]
   refine ⟨by simp,?_⟩
   simp only [if_true]
   refine u3 ⟨_,_,rfl⟩ ?_
   simp [-Prod.exists,c7,et]
   have hne:=j6 h4 hlt
   have hmem:=List.getElem_mem hlt
   refine ⟨j,rfl,by omega,.int (ls[j]:Int),by simp [lD,hlt],_,ls.eraseIdx j,os ++ [ls[j]],by simp [lD],⟨rfl,kr _ ls j⟩,by simp [h1],?_,?_,zG h4 j,?_,fun o ho => h6 o (List.mem_of_mem_eraseIdx ho)⟩
   ·rw [List.length_eraseIdx,if_pos hlt]; omega
   ·refine List.nodup_append.mpr ⟨h3,by simp,fun a ha b hb e => ?_⟩
    rw [List.mem_singleton.mp hb] at e
    exact (h5 a ha).2 (e ▸ hmem)
   ·intro o ho
    rcases List.mem_append.mp ho with z | z
    ·exact ⟨(h5 o z).1,fun q => (h5 o z).2 (List.mem_of_mem_eraseIdx q)⟩
    ·rw [List.mem_singleton.mp z]; exact ⟨h6 _ hmem,hne⟩
  ·rintro xs _ hx hl ⟨n,ls,os,rfl,rfl,h1,h2,h3,h4,h5,h6⟩
   have:(bP 0 M).length = M:=by simp [bP]
   exact ⟨by simp,trivial,n,ls,os,rfl,by omega,h3,fun o ho => (h5 o ho).1⟩
 rintro _ ⟨n,ls,os,rfl,o1,o2,o3⟩
 let mv:List Int -> List Int:=fun h => dk (h.map fun c => ((os.getD c.toNat 0:Nat):Int))
 have mvOk:∀ h ∈ hs,eB M (mv h):=fun h hh => by
  obtain ⟨q1,q2,q3⟩:=hq h hh
  have inj:(h.map fun c => ((os.getD c.toNat 0:Nat):Int)).Nodup:= by
   refine List.Pairwise.map _ (fun a b (hab:a ∈ h ∧ b ∈ h ∧ a < b) e => ?_) (List.Pairwise.imp_of_mem (fun {a b} ha hb (l:a < b) => (⟨ha,hb,l⟩:a ∈ h ∧ b ∈ h ∧ a < b)) q2)
   have ha:=q3 a hab.1
   have hb:=q3 b hab.2.1
   have e':=Int.ofNat_inj.mp e
   rw [List.getD_eq_getElem?_getD,List.getD_eq_getElem?_getD,List.getElem?_eq_getElem (by omega),List.getElem?_eq_getElem (by omega)] at e'
   have:=(List.getElem_inj o2).mp e'
   have:=hab.2.2
   omega
  refine ⟨?_,lR inj,fun c hc => ?_⟩
  ·intro e
   have:=congrArg List.length e
   rw [oU,List.length_map] at this
   exact q1 (List.eq_nil_of_length_eq_zero this)
  ·rw [jS] at hc
   obtain ⟨x,hx,rfl⟩:=List.mem_map.mp hc
   have:=q3 x hx
   have hlt:x.toNat < os.length:=by omega
   rw [List.getD_eq_getElem?_getD,List.getElem?_eq_getElem hlt]
   have:=o3 _ (List.getElem_mem hlt)
   simp; omega
 refine aI (fun δ => δ = [.ow true [.int n],.pu (.int M),.pu (.lst (hs.map hD)),.ow false (lD ls),.pu (.lst (lD os)),.ow false ((hs.map mv).map hD),.un]) ?_ ?_
 ·simp only [E6]
  refine a_ hs hD (fun h => some (hD (mv h))) rfl ?_ (by omega) (fun h hh => ?_) ?_
  ·simp [aO]
  ·have h7:=(hq h hh).len (by omega) (by omega)
   simp only [dG,bF,au,if_true,eS,bC,ar,za]
   refine ⟨by simp,?_⟩
   refine a_ h .int (fun c => some (.int ((os.getD c.toNat 0:Nat):Int))) rfl ?_ (by omega) (fun c hc => ?_) ?_
   ·simp [mY]
   ·have hb:=(hq h hh).2.2 c hc
    have e:b_ (.lst (lD os)) (.int c) = some (.int ((os.getD c.toNat 0:Nat):Int)):= by
     obtain ⟨i,rfl⟩:∃ i:Nat,c = (i:Int):=⟨c.toNat,by omega⟩
     show ji _ _ = _
     have:i < os.length:=by omega
     rw [er _ _ (by rw [c7]; omega)]
     simp [lD,this]
    simp [e]
   ·have es:sortI (h.map fun c => D.int ((os.getD c.toNat 0:Nat):Int)) = some ((mv h).map D.int):= by
     have:(h.map fun c => D.int ((os.getD c.toNat 0:Nat):Int)) = (h.map fun c => ((os.getD c.toNat 0:Nat):Int)).map D.int:=by rw [List.map_map]; rfl
     unfold sortI
     rw [this,eE]
     exact if_pos (by rw [List.length_map]; omega)
    simp only [List.filterMap_eq_map',fS,cv,es,c8,au]
    simp [hD]
  ·simp [List.filterMap_eq_map']
 rintro _ rfl
 refine aI (fun δ => δ = [.ow true [.int n],.pu (.int M),.pu (.lst (hs.map hD)),.ow false (lD ls),.pu (.lst (lD os)),.ow false ((hs.map mv).map hD),.ow false []]) (by simp) ?_
 rintro _ rfl
 refine aI (fun δ => ∃ (n:Int) (gs:List (List Int)) (a5:Jt.Slot),δ = [.ow true [.int n],.pu (.int M),.pu (.lst (hs.map hD)),.ow false (lD ls),.pu (.lst (lD os)),a5,.ow false (gs.map hD)] ∧ gs.length = hs.length ∧ ∀ g ∈ gs,eB M g) ?_ ?_
 ·refine uu (fun k δ => ∃ (n:Int) (rs gs:List (List Int)),δ = [.ow true [.int n],.pu (.int M),.pu (.lst (hs.map hD)),.ow false (lD ls),.pu (.lst (lD os)),.ow false (rs.map hD),.ow false (gs.map hD)] ∧ rs.length = k ∧ gs.length + k = hs.length ∧ (∀ g ∈ gs,eB M g) ∧ ∀ g ∈ rs,eB M g) ?_ 7 hs.length _ (by omega) ⟨n,hs.map mv,[],rfl,by simp,by simp,by simp,fun g hg => ?_⟩
  ·rintro k _ ⟨n,rs,gs,rfl,r1,r2,r3,r4⟩
   have e1:(rs.map hD).isEmpty = rs.isEmpty:=by rw [List.isEmpty_map]
   cases q:rs.isEmpty with
   | true =>
    have:k = 0:=by rw [<- r1,List.isEmpty_iff.mp q]; rfl
    simp [jF,e1,q]
    exact .inl ⟨List.isEmpty_iff.mp q,_,gs,⟨rfl,rfl⟩,by omega,r3⟩
   | false =>
    simp only [ar,zk,uw,fg,au,dN,fJ,wM,zd,List.getElem?_cons_zero,List.getElem?_cons_succ,Option.some.injEq,List.length_nil,Nat.zero_le,true_and,jF,D.bl.injEq]
    refine ⟨_,_,rfl,_,_,rfl,?_⟩
    simp only [jF,e1,q,cv,D.bl.injEq,exists_eq_left']
    refine ⟨fun _ => ?_,fun h => by cases h⟩
    have hpos:0 < rs.length:=List.length_pos_iff.mpr fun z => by rw [z] at q; cases q
    have et:=aH n rs.length (by omega) (by omega)
    have g1:=Int.emod_nonneg n (show (rs.length:Int) ≠ 0 by omega)
    have g2:=Int.emod_lt_of_pos n (show (0:Int) < rs.length by omega)
    obtain ⟨j,hj⟩:∃ j:Nat,n % (rs.length:Int) = (j:Int):=⟨(n % (rs.length:Int)).toNat,by omega⟩
    have hlt:j < rs.length:=by omega
    rw [hj] at et
    refine ⟨k - 1,by omega,?_⟩
    refine dX ⟨_,_,rfl⟩ ?_
    simp only [bC]
    refine u3 ⟨_,_,rfl⟩ ?_
    simp [-Prod.exists,et]
    refine ⟨j,rfl,by omega,hD rs[j],by simp [hlt],by omega,n / (rs.length:Int),rs.eraseIdx j,gs ++ [rs[j]],⟨rfl,kr _ rs j,by simp⟩,?_,by simp; omega,fun g hg => ?_,fun g hg => r4 g (List.mem_of_mem_eraseIdx hg)⟩
    ·rw [List.length_eraseIdx,if_pos hlt]; omega
    ·rcases List.mem_append.mp hg with z | z
     ·exact r3 g z
     ·rw [List.mem_singleton.mp z]; exact r4 _ (List.getElem_mem hlt)
  ·obtain ⟨h,hh,rfl⟩:=List.mem_map.mp hg
   exact mvOk h hh
 rintro _ ⟨n,gs,a5,rfl,g1,g2⟩
 simp
 exact ⟨gs,rfl,g1,g2⟩
end K43
namespace K43
open PySem L2 Jt
open Builtin.Int (intBits)
theorem tm {lo own:Nat} {fi:M k_} {turn:D -> M (Option D)} {Q:List D -> DS -> Prop} {δ:DS} (hl:δ.length = lo) (h:Ok fi δ fun it δ' => Ok (aX lo own (pure it) turn) δ' Q):Ok (aX lo own fi turn) δ Q:= by
 obtain ⟨it,δ',e,z⟩:=h
 obtain ⟨xs,δ2,e2,q⟩:=z
 refine ⟨xs,δ2,?_,q⟩
 unfold aX at e2 ⊢
 obtain ⟨u,δ3,e3,e4⟩:=bind_some e2
 obtain ⟨it',δ4,e5,e6⟩:=bind_some e4
 obtain ⟨rfl,rfl⟩:=aq e5
 have e7:δ3 = δ':= by
  unfold iU at e3
  split at e3
  ·cases e3; rfl
  ·cases e3
 subst e7
 show (iU lo >>= _) δ = _
 have:iU lo δ = some ((),δ):=by unfold iU; rw [if_pos hl]
 simp only [M.bind_def,this,e] at e6 ⊢
 exact e6
theorem lP {M:Nat} (hM1:1 ≤ M) (hM7:M ≤ 7) (Z:Nat) (hZ:Z ≤ 100) (n:Int) {a1 a2 a4 a5 a6 a7:Jt.Slot} {fi:Jt.M k_} {Q:List D -> DS -> Prop}
  (hi:Ok fi [.ow true [.int n],a1,a2,.pu (.int M),a4,a5,a6,a7] fun it δ' => it = aR (bP 0 Z) ∧ δ' = [.ow true [.int n],a1,a2,.pu (.int M),a4,a5,a6,a7])
  (hQ:∀ (hs:List (List Int)) (n:Int),hs.length = Z -> (∀ h ∈ hs,eB M h) -> Q (hs.map hD) [.ow true [.int n],a1,a2,.pu (.int M),a4,a5,a6,a7]) :
  Ok (aX 8 1 fi (bh (ba 8) (pure true) (do let _ <- aF 0; bR 0 2 (bp gS i5) (ae (ah 3) (pure []))))) [.ow true [.int n],a1,a2,.pu (.int M),a4,a5,a6,a7] Q:= by
 refine d5 (bP 0 Z) (fun k acc δ => ∃ (n:Int) (hs:List (List Int)),acc = hs.map hD ∧ δ = [.ow true [.int n],a1,a2,.pu (.int M),a4,a5,a6,a7] ∧ hs.length = k ∧ ∀ h ∈ hs,eB M h) rfl hi (by simp [bP]; omega) ⟨n,[],rfl,rfl,rfl,by simp⟩ ?_ ?_
 ·rintro k hk acc _ ha hl ⟨n,hs,rfl,rfl,h1,h2⟩
  rw [f_]
  obtain ⟨d,xs',eh,⟨h,rfl,hh⟩,n',rfl⟩:=lr n hM1 hM7
  simp [-Prod.exists,eh]
  refine ⟨n',hs ++ [h],by simp,rfl,by simp [h1],fun g hg => ?_⟩
  rcases List.mem_append.mp hg with z | z
  ·exact h2 g z
  ·rw [List.mem_singleton.mp z]; exact hh
 ·rintro xs _ hx hl ⟨n,hs,rfl,rfl,h1,h2⟩
  exact hQ hs n (by rw [h1]; simp [bP]) h2
theorem pe (n0:Int) {P Z:Nat} (hP1:1 ≤ P) (hP7:P ≤ 7) (hZ1:1 ≤ Z) (hZ6:Z ≤ 6):∃ d xs',bp qv xW [.int n0] [.int P,.int Z] = some (d,xs') ∧ LQ d xs':= by
 apply d_
 show Ok xW [.ow true [.int n0],.pu (.int P),.pu (.int Z),.un,.un,.un,.un,.un] _
 unfold xW
 obtain ⟨M,hM,hM1,hM7⟩:∃ M:Nat,1 + n0 % (P:Int) = (M:Int) ∧ 1 ≤ M ∧ M ≤ 7:= by
  have h1:=Int.emod_nonneg n0 (show (P:Int) ≠ 0 by omega)
  have h2:=Int.emod_lt_of_pos n0 (show (0:Int) < P by omega)
  exact ⟨(1 + n0 % (P:Int)).toNat,by omega,by omega,by omega⟩
 refine aI (fun δ => ∃ n:Int,δ = [.ow true [.int n],.pu (.int P),.pu (.int Z),.pu (.int M),.un,.un,.un,.un]) ?_ ?_
 ·simp [-Prod.exists,aH n0 P (by omega) (by omega),c6,b9,hM]
 rintro _ ⟨n,rfl⟩
 obtain ⟨N,hN,hN1,hN7⟩:∃ M:Nat,1 + n % (Z:Int) = (M:Int) ∧ 1 ≤ M ∧ M ≤ Z:= by
  have h1:=Int.emod_nonneg n (show (Z:Int) ≠ 0 by omega)
  have h2:=Int.emod_lt_of_pos n (show (0:Int) < Z by omega)
  exact ⟨(1 + n % (Z:Int)).toNat,by omega,by omega,by omega⟩
 refine aI (fun δ => ∃ n:Int,δ = [.ow true [.int n],.pu (.int P),.pu (.int Z),.pu (.int M),.pu (.int N),.un,.un,.un]) ?_ ?_
 ·simp [-Prod.exists,aH n Z (by omega) (by omega),c6,b9,hN]
 rintro _ ⟨n,rfl⟩
 refine aI (fun δ => ∃ n way:Int,δ = [.ow true [.int n],.pu (.int P),.pu (.int Z),.pu (.int M),.pu (.int N),.pu (.int way),.un,.un]) ?_ ?_
 ·simp [-Prod.exists,aH n 5 (by omega) (by omega)]
 rintro _ ⟨n,way,rfl⟩
 have fin:∀ {hs:List (List Int)} (n:Int),1 ≤ hs.length -> hs.length ≤ 6 -> (∀ h ∈ hs,eB M h) -> ∃ d xs',bp fM kJ [.int n] [.int M,.lst (hs.map hD)] = some (d,xs') ∧ LQ (.tup [.int M,d]) xs':=fun n h1 h6 hq => by
  obtain ⟨d,xs',e,⟨gs,rfl,g1,g2⟩,n',rfl⟩:=rD n hM1 hM7 h1 h6 hq
  exact ⟨_,_,e,M,gs,n',rfl,rfl,by omega,by omega,by omega,g2⟩
 refine bW (decide (way = 0 ∧ 2 < M)) ?_ ?_ ?_
 ·by_cases q:way = 0
  ·by_cases q2:2 < M
   ·simp [bJ,uy,b9,q,q2]
    omega
   ·have:¬ (M:Int) > 2:=by omega
    simp [bJ,uy,b9,q,q2]
    omega
  ·simp [bJ,uy,b9,q]
 ·intro hw
  obtain ⟨hw,hM2⟩:=of_decide_eq_true hw
  obtain ⟨d,xs',eb,⟨bs,rfl,b3,b6,bq⟩,n',rfl⟩:=p_ n (by omega) hM7
  refine aI (fun δ => δ = [.ow true [.int n'],.pu (.int P),.pu (.int Z),.pu (.int M),.pu (.int N),.pu (.int way),.pu (.lst (bs.map hD)),.un]) (by simp [-Prod.exists,eb]) ?_
  rintro _ rfl
  refine aI (fun δ => ∃ (n:Int) (es:List (List Int)),δ = [.ow true [.int n],.pu (.int P),.pu (.int Z),.pu (.int M),.pu (.int N),.pu (.int way),.pu (.lst (bs.map hD)),.pu (.lst (es.map hD))] ∧ bs.length + es.length ≤ 6 ∧ ∀ h ∈ es,eB M h) ?_ ?_
  ·simp only [dR,ar,au]
   refine tm rfl ?_
   obtain ⟨W,hW,hW1,hW2⟩:∃ W:Nat,1 + (if bs.length < Z then (Z:Int) - (bs.length:Int) else 0) = (W:Int) ∧ 1 ≤ W ∧ bs.length + W ≤ 7:= by
    refine ⟨(1 + (if bs.length < Z then (Z:Int) - (bs.length:Int) else 0)).toNat,?_,?_,?_⟩ <;> split <;> omega
   obtain ⟨V,hV,hV1⟩:∃ V:Nat,n' % (W:Int) = (V:Int) ∧ V < W:= by
    have h1:=Int.emod_nonneg n' (show (W:Int) ≠ 0 by omega)
    have h2:=Int.emod_lt_of_pos n' (show (0:Int) < W by omega)
    exact ⟨(n' % (W:Int)).toNat,by omega,by omega⟩
   have sV:bz V = true:=by simp [bz]; omega
   have hcomp:∀ n:Int,Ok (aX 8 1 (pure (aR (bP 0 V))) (bh (ba 8) (pure true) (do let _ <- aF 0; bR 0 2 (bp gS i5) (ae (ah 3) (pure []))))) [.ow true [.int n],.pu (.int P),.pu (.int Z),.pu (.int M),.pu (.int N),.pu (.int way),.pu (.lst (bs.map hD)),.un] (fun xs δ => ∃ (m:Int) (es:List (List Int)),xs = es.map hD ∧ δ = [.ow true [.int m],.pu (.int P),.pu (.int Z),.pu (.int M),.pu (.int N),.pu (.int way),.pu (.lst (bs.map hD)),.un] ∧ es.length = V ∧ ∀ h ∈ es,eB M h):=fun n =>
    lP hM1 hM7 V (by omega) n (by simp) fun hs m h1 h2 => ⟨m,hs,rfl,rfl,h1,h2⟩
   have et:=aH n' W (by omega) (by omega)
   simp [-Prod.exists,aZ,jT,lu,c6,b9,hW,et,hV,cF,sV]
   refine (hcomp _).mono fun xs δ ⟨m,es,e1,e2,e3,e4⟩ => ?_
   subst e1; subst e2
   simp
   exact ⟨m,es,⟨rfl,rfl⟩,by omega,e4⟩
  rintro _ ⟨n,es,rfl,hl,eq⟩
  obtain ⟨d,xs',e,z⟩:=fin (hs:=bs ++ es) n (by simp; omega) (by simp; omega) fun h hh => by
   rcases List.mem_append.mp hh with z | z
   ·exact bq h z
   ·exact eq h z
  have ec:cutD (bs.map hD ++ es.map hD) none (some 6) = (bs ++ es).map hD:= by
   rw [<- List.map_append]
   unfold cutD
   rw [HT.sIx_none,show (some (6:Int)) = some ((6:Nat):Int) from rfl,HT.sIx_nat,List.drop_zero,List.length_map,List.take_of_length_le]
   rw [List.length_map,List.length_append]; simp; omega
  have hc:vG (bs.map hD) (es.map hD) = some (bs.map hD ++ es.map hD):= by
   unfold vG; rw [if_pos (by simp; omega)]
  rw [List.map_append] at e
  simp [-Prod.exists,j9,hc,Aw,ec,e]
  exact z
 ·intro _
  refine bW (decide (way = 1)) ?_ ?_ ?_
  ·by_cases q:way = 1 <;> simp [bJ,q]
  ·intro _
   have sN:bz N = true:=by simp [bz]; omega
   have hcomp:Ok (aX 8 1 (mC cF (ae (ah 4) (pure []))) (bh (ba 8) (pure true) (do let _ <- aF 0; bR 0 2 (bp gS i5) (ae (ah 3) (pure []))))) [.ow true [.int n],.pu (.int P),.pu (.int Z),.pu (.int M),.pu (.int N),.pu (.int way),.un,.un] (fun xs δ => ∃ (m:Int) (es:List (List Int)),xs = es.map hD ∧ δ = [.ow true [.int m],.pu (.int P),.pu (.int Z),.pu (.int M),.pu (.int N),.pu (.int way),.un,.un] ∧ es.length = N ∧ ∀ h ∈ es,eB M h) :=
    lP hM1 hM7 N (by omega) n (by simp [cF,sN]) fun hs m h1 h2 => ⟨m,hs,rfl,rfl,h1,h2⟩
   simp only [ar,uV,bC,bG,uY,au,e9,List.getElem?_cons_zero,List.getElem?_cons_succ,Option.some.injEq,Jt.Slot.pu.injEq,exists_eq_left']
   refine ⟨_,_,rfl,hcomp.mono fun xs δ ⟨m,es,e1,e2,e3,e4⟩ => ?_⟩
   subst e1; subst e2
   obtain ⟨d,xs',e,z⟩:=fin (hs:=es) m (by omega) (by omega) e4
   simp [-Prod.exists,e]
   exact z
  ·intro _
   obtain ⟨d,xs',eg,⟨hs,rfl,g1,g2⟩,n',rfl⟩:=qo n hM1 hM7 hN1 (Z:=N) (by omega)
   obtain ⟨d,xs',e,z⟩:=fin (hs:=hs) n' (by omega) (by omega) g2
   simp [-Prod.exists,eg,e]
   exact z
end K43
namespace K43
open PySem L2 Jt
def nT:List D:=[.non,.bl true,.bl false,.int (-1),.int 0,.int 1,.int 7,.int 10,.str "",.str "0",.str "none",.tup [],.tup [.int 0],.tup [.int 0,.int 1],.tup [.int 1,.int 0],.tup [.int 0,.int 0],.tup [.int 0,.bl true],.lst [.int 0],.dct,
 .tup [.tup [.int 0]],.tup [.tup [.int 0,.int 1]],.lst [.tup [.int 0,.int 1]],.int (10 ^ 39),.tup [.int 0,.int 10],.tup [.int 0,.int (-1)],.tup [.tup [],.tup []],.tup [.tup [.int 0,.int 1],.tup [.int 0,.int 1]],.tup [.tup [.int 0,.int 1],.non]]
theorem nV (n0:Int):∃ d xs',bp oZ nc [.int n0] [] = some (d,xs') ∧ (Short d ∧ ∀ p c,d = .tup [p,c] -> Short p ∧ Short c) ∧ ∃ n:Int,xs' = [.int n]:= by
 apply d_
 show Ok nc [.ow true [.int n0],.un] _
 unfold nc
 have et:=aH n0 28 (by omega) (by omega)
 have ep:wC (.int 10) (.int 39) = some (.int (10 ^ 39)):=by first | rfl | (simp [wC]; done) | (unfold wC; rw [if_pos (by decide)]; rfl)
 obtain ⟨d,hd,e⟩:=jr nT n0 (by decide)
 refine aI (fun δ => δ = [.ow true [.int n0],.pu (.lst (nT.take 19))]) (by simp [jN,nT]) ?_
 rintro _ rfl
 refine aI (fun δ => δ = [.ow true [.int n0],.pu (.lst nT)]) (by simp [jN,nT,j9,vG,ep]) ?_
 rintro _ rfl
 have el:aZ [.lst nT] = some (.int 28):=rfl
 simp [-Prod.exists,el,et]
 refine cC e ⟨_,rfl,?_,_,rfl⟩
 have all:∀ d ∈ nT,Short d:= by
  intro d hd xs e
  subst e
  simp [nT] at hd
  rcases hd with rfl | rfl | rfl | rfl | rfl | rfl | rfl | rfl | rfl | rfl | rfl | rfl | rfl <;> simp
 have all2:∀ d ∈ nT,∀ p c,d = .tup [p,c] -> Short p ∧ Short c:= by
  intro d hd p c e
  subst e
  simp [nT] at hd
  rcases hd with ⟨rfl,rfl⟩ | ⟨rfl,rfl⟩ | ⟨rfl,rfl⟩ | ⟨rfl,rfl⟩ | ⟨rfl,rfl⟩ | ⟨rfl,rfl⟩ | ⟨rfl,rfl⟩ | ⟨rfl,rfl⟩ | ⟨rfl,rfl⟩ <;> exact ⟨fun ys e => by cases e <;> simp,fun ys e => by cases e <;> simp⟩
 exact ⟨all d hd,all2 d hd⟩
end K43
namespace K43
open PySem L2 Jt
structure Sm (hs:List (List Int)):Prop where
 n:hs.length ≤ 6
 h:∀ h ∈ hs,h.length ≤ 7
variable {hs:List (List Int)}
end K43
namespace K43
open PySem L2 Jt
variable {hs:List (List Int)}
theorem lK:∀ (hs:List (List Int)) (n:Nat),kP n (hs.map hD) = (List.range hs.length).map fun (i:Nat) => .tup [.int ((n + i:Nat):Int),hD (G hs i)]:= by
 intro hs
 induction hs with
 | nil => intro n; rfl
 | cons h r ih =>
  intro n
  show D.tup [.int (n:Int),hD h] :: kP (n + 1) (r.map hD) = _
  rw [ih,List.length_cons,List.range_succ_eq_map,List.map_cons,List.map_map]
  congr 1
  refine List.map_congr_left fun i _ => ?_
  simp [G,Function.comp]
  omega
theorem Dm {M:Nat} (h6:hs.length ≤ 6) (c:Nat) (hc:c < M):aW kG oE [bw M hs,.int c] = some (.tup (lD ((List.range hs.length).filter fun i => decide ((c:Int) ∈ G hs i)))):= by
 apply cu
 show Ok oE [.pu (bw M hs),.pu (.int c),.un,.un] _
 unfold oE
 refine aI (fun δ => δ = [.pu (bw M hs),.pu (.int c),.pu (.int M),.pu (.tup (hs.map hD))]) ?_ ?_
 ·simp [bw]
 rintro _ rfl
 have eb:aW mN kI [.int (c:Int),.int (M:Int)] = some (.bl true):= by
  rw [yF]
  simp [dh]
  omega
 refine bW false ?_ (by simp) fun _ => ?_
 ·simp [aE,eb,cx]
 simp only [ar,eS,bC,au]
 refine a_ (List.range hs.length) (fun (i:Nat) => .tup [.int (i:Int),hD (G hs i)]) (fun i => if decide ((c:Int) ∈ G hs i) = true then some (.int (i:Int)) else none) rfl ?_ (by simp; omega) (fun i hi => ?_) ?_
 ·have:=lK hs 0
  simp [kc,ny,this]
 ·by_cases q:(c:Int) ∈ G hs i <;> simp [gJ,q]
 ·rw [aY]
  simp [cN,fS,lD]
theorem HS (c:Int):((List.range hs.length).filter fun i => decide (c ∈ G hs i)).isEmpty = !(hs.any fun h => decide (c ∈ h)):= by
 rw [Bool.eq_iff_iff,List.isEmpty_iff,List.filter_eq_nil_iff,Bool.not_eq_true',List.any_eq_false]
 constructor
 ·intro h x hx
  obtain ⟨i,hi,rfl⟩:=List.getElem_of_mem hx
  have:=h i (List.mem_range.mpr hi)
  simpa [G,hi] using this
 ·intro h i hi
  have hi':=List.mem_range.mp hi
  have:=h hs[i] (List.getElem_mem hi')
  simpa [G,hi'] using this
theorem nq {M:Nat} (h6:hs.length ≤ 6) (hM:M ≤ 7):fY q0 yx [bw M hs] = some (lD (fQ M hs)):= by
 apply u_
 show Ok yx [.pu (bw M hs)] _
 unfold yx
 simp only [ar,au]
 have sM:bz M = true:=by simp [bz]; omega
 refine a_ (List.range M) (fun (i:Nat) => .int (i:Int)) (fun c => if (hs.any fun h => decide ((c:Int) ∈ h)) = true then some (.int (c:Int)) else none) rfl ?_ (by simp; omega) (fun c hc => ?_) ?_
 ·simp [ik,cF,sM,bP]
 ·simp only [dG,bF,ar,eW]
  refine ⟨by simp,?_⟩
  refine a_ hs hD (fun h => if decide ((c:Int) ∈ h) = true then some (hD h) else none) rfl ?_ (by omega) (fun h hh => ?_) ?_
  ·simp [cY,aO]
  ·by_cases q:(c:Int) ∈ h <;> simp [gJ,q]
  ·rw [aY]
   have:=GP hs (c:Int)
   cases q:(hs.any fun h => decide ((c:Int) ∈ h)) with
   | true =>
    rw [q] at this
    simp only [au,fg,dN,List.length_nil,Nat.zero_le,true_and,de,this,cv,fJ,if_true,D.bl.injEq,exists_eq_left']
    simp
   | false =>
    rw [q] at this
    simp only [au,fg,dN,List.length_nil,Nat.zero_le,true_and,de,this,cv,fJ,if_true,D.bl.injEq,exists_eq_left']
    simp
 ·rw [aY]
  simp [lD,fQ]
end K43
namespace K43
open PySem L2 Jt
variable {hs:List (List Int)} {M:Nat}
theorem Cy {N:List Str} {body:Jt.M Fl} {ds:List D} (h:Ok body (entry N ds) fun fl _ => fl = .nx):aW N body ds = some .non:= by
 obtain ⟨z,δ',e,rfl⟩:=h
 unfold aW
 rw [e]
theorem fw (hs:List (List Int)):aZ [.tup (hs.map hD)] = some (.int (hs.length:Int)):=by simp [aZ]
theorem Bj {a n:Nat} (h:a < n):dh (n:Int) (.int (a:Int)) = true:=by simp [dh]; omega
theorem wH {a:Nat} (m:Int) (h:a < hs.length):aW qq oy [bw m hs,.int (a:Int)] = some .non:= by
 apply Cy
 show Ok oy [.pu (bw m hs),.pu (.int (a:Int))] _
 unfold oy
 have e:=yF (.int (a:Int)) (hs.length:Int)
 rw [Bj h] at e
 have e1:=cY m hs
 have e2:=fw hs
 generalize bw m hs = lay at *
 refine gP (fun b δ => b = false ∧ δ = [.pu lay,.pu (.int (a:Int))]) ?_ (fun _ h => by cases h.1) ?_
 ·simp [aE,e,e1,e2,cx]
 ·rintro _ ⟨_,rfl⟩
  simp
def dA (hs:List (List Int)) (a b:Nat):List Int:=(G hs a).filter fun c => decide (c ∈ G hs b)
theorem CU (m:Int) (h7:∀ h ∈ hs,h.length ≤ 7) {a b:Nat} (ha:a < hs.length) (hb:b < hs.length):aW mm oW [bw m hs,.int (a:Int),.int (b:Int)] = some (hD (dA hs a b)):= by
 apply cu
 show Ok oW [.pu (bw m hs),.pu (.int (a:Int)),.pu (.int (b:Int)),.un] _
 unfold oW
 have n1:=wH m ha
 have n2:=wH m hb
 have e1:=cY m hs
 have ga:=gy ha
 have gb:=gy hb
 have g7:(G hs a).length ≤ 7:= by
  have:G hs a = hs[a]:=by simp [G,ha]
  rw [this]; exact h7 _ (List.getElem_mem ha)
 generalize bw m hs = lay at *
 refine aI (fun δ => δ = [.pu lay,.pu (.int (a:Int)),.pu (.int (b:Int)),.un]) (by simp [aE,n1]) ?_
 rintro _ rfl
 refine aI (fun δ => δ = [.pu lay,.pu (.int (a:Int)),.pu (.int (b:Int)),.un]) (by simp [aE,n2]) ?_
 rintro _ rfl
 refine aI (fun δ => δ = [.pu lay,.pu (.int (a:Int)),.pu (.int (b:Int)),.pu (.tup (hs.map hD))]) (by simp [e1]) ?_
 rintro _ rfl
 simp only [ar,eS,bC,au]
 refine a_ (G hs a) .int (fun c => if decide (c ∈ G hs b) = true then some (.int c) else none) rfl ?_ (by omega) (fun c _ => ?_) ?_
 ·simp [ga,mY]
 ·by_cases q:c ∈ G hs b <;> simp [gb,gJ,q]
 ·rw [aY]
  simp [c8,dA,hD]
end K43
namespace K43
open PySem L2 Jt
variable {hs:List (List Int)} {M:Nat}
theorem g_ {H:List Nat} {i:Nat} (hi:i < H.length):H.getD i 0 ∈ H:= by
 simp only [List.getD_eq_getElem?_getD,List.getElem?_eq_getElem hi,Option.getD_some]
 exact List.getElem_mem hi
theorem kA {H:List Nat} {k:Nat} (h:k < H.length):b_ (.tup (lD H)) (.int (k:Int)) = some (.int ((H.getD k 0:Nat):Int)):= by
 show ji (lD H) (k:Int) = _
 rw [er (lD H) k (by rw [c7]; exact h)]
 simp [lD,h]
theorem BP {ls:List Nat} (hne:ls ≠ []):b_ (.lst (lD ls)) (.int (-1)) = some (.int ((ls.getLast hne:Nat):Int)):= by
 have hl:0 < ls.length:=List.length_pos_iff.mpr hne
 show ji (lD ls) (-1) = _
 have e:sY (lD ls).length (-1) = some (ls.length - 1):= by
  unfold sY
  simp [lD]
  omega
 unfold ji
 rw [e]
 show (lD ls)[ls.length - 1]? = _
 unfold lD
 rw [List.getElem?_map,List.getLast_eq_getElem,List.getElem?_eq_getElem (by omega)]
 rfl
theorem uB:∀ a b:List Nat,d8 (lD a) (lD b) = (a.zip b).map fun p => .tup [.int (p.1:Int),.int (p.2:Int)]
 | [],b => by cases b <;> simp [lD,d8]
 | x :: a,[] => by simp [lD,d8]
 | x :: a,y :: b => by
  have ih:=uB a b
  show D.tup [.int (x:Int),.int (y:Int)] :: d8 (lD a) (lD b) = _
  rw [ih]; rfl
theorem Aj (xs:List D) (k:Nat):cutD xs none (some (k:Int)) = xs.take k:= by
 unfold cutD
 have h1:HT.sIx xs.length 0 none = 0:=rfl
 have h2:HT.sIx xs.length xs.length (some (k:Int)) = min k xs.length:= by
  simp [HT.sIx]
  omega
 rw [h1,h2]
 simp
theorem ku (xs:List D) (k:Nat):cutD xs (some (k:Int)) none = xs.drop k:= by
 unfold cutD
 have h1:HT.sIx xs.length xs.length none = xs.length:=rfl
 have h2:HT.sIx xs.length 0 (some (k:Int)) = min k xs.length:= by
  simp [HT.sIx]
  omega
 rw [h1,h2]
 by_cases h:k ≤ xs.length
 ·rw [Nat.min_eq_left h]
  exact List.take_of_length_le (by rw [List.length_drop]; omega)
 ·rw [Nat.min_eq_right (by omega),List.drop_eq_nil_of_le (Nat.le_refl _),List.drop_eq_nil_of_le (by omega),List.take_nil]
theorem tB (H:List Nat):H.zip (H.drop 1 ++ H.take 1) = (List.range H.length).map fun k => (H.getD k 0,H.getD (e_ H.length k) 0):= by
 refine List.ext_getElem? fun k => ?_
 by_cases hk:k < H.length
 ·have hn:=je hk
  have g2:(H.drop 1 ++ H.take 1)[k]? = some (H.getD (e_ H.length k) 0):= by
   unfold e_ at hn ⊢
   by_cases e:k + 1 = H.length
   ·rw [if_pos e] at hn ⊢
    rw [List.getElem?_append_right (by rw [List.length_drop]; omega),List.length_drop,show k - (H.length - 1) = 0 by omega]
    cases H with
    | nil => simp at hk
    | cons x r => simp
   ·rw [if_neg e] at hn ⊢
    rw [List.getElem?_append_left (by rw [List.length_drop]; omega),List.getElem?_drop,Nat.add_comm 1 k,List.getElem?_eq_getElem hn]
    simp [hn]
  rw [(List.getElem?_zip_eq_some (z:=(H.getD k 0,H.getD (e_ H.length k) 0))).mpr ⟨by simp [hk],g2⟩]
  simp [hk]
 ·rw [List.getElem?_eq_none (by rw [List.length_zip,List.length_append,List.length_drop,List.length_take]; omega),List.getElem?_eq_none (by simp; omega)]
theorem Hy {H:List Nat} (hH:H.length ≤ 6):fY uk rR [.tup (lD H)] = some ((List.range H.length).map fun k => .tup [.int ((H.getD k 0:Nat):Int),.int ((H.getD (e_ H.length k) 0:Nat):Int)]):= by
 apply u_
 show Ok rR [.pu (.tup (lD H))] _
 unfold rR
 have s1:Aw (.tup (lD H)) (some 1) none = some (.tup (lD (H.drop 1))):=(congrArg (fun z => some (D.tup z)) (ku (lD H) 1)).trans (by unfold lD; rw [List.map_drop])
 have s2:Aw (.tup (lD H)) none (some 1) = some (.tup (lD (H.take 1))):=(congrArg (fun z => some (D.tup z)) (Aj (lD H) 1)).trans (by unfold lD; rw [List.map_take])
 have c1:b4 (.tup (lD (H.drop 1))) (.tup (lD (H.take 1))) = some (.tup (lD (H.drop 1 ++ H.take 1))):= by
  refine (if_pos (by simp [lD]; omega)).trans ?_
  unfold lD
  rw [List.map_append]
 have z1:Bg [.tup (lD H),.tup (lD (H.drop 1 ++ H.take 1))] = some ((List.range H.length).map fun k => .tup [.int ((H.getD k 0:Nat):Int),.int ((H.getD (e_ H.length k) 0:Nat):Int)]):= by
  show some (d8 (lD H) (lD (H.drop 1 ++ H.take 1))) = _
  rw [uB,tB,List.map_map]
  rfl
 generalize (List.range H.length).map (fun k => D.tup [.int ((H.getD k 0:Nat):Int),.int ((H.getD (e_ H.length k) 0:Nat):Int)]) = out at *
 generalize lD (H.drop 1 ++ H.take 1) = l3 at *
 generalize lD (H.drop 1) = l1 at *
 generalize lD (H.take 1) = l2 at *
 generalize lD H = l0 at *
 simp [s1,s2,c1,z1]
end K43
namespace K43
open PySem L2 Jt
variable {hs:List (List Int)} {M:Nat}
theorem Jc (ls:List Nat) (h:ls.length ≤ 60):aW Au y3 [.tup (lD ls)] = some (.bl (decide ls.Nodup)):= by
 apply cu
 show Ok y3 [.pu (.tup (lD ls))] _
 unfold y3
 have h2:ls.length < 4000:=by omega
 have e:((i4 (ls.map fun (i:Nat) => (i:Int))).length = ls.length) = ls.Nodup:= by
  have:=ko (ls.map fun (i:Nat) => (i:Int))
  rw [List.length_map] at this
  exact propext (this.trans gU)
 simp only [ar,eW,za,bG,eS,bC,au,List.getElem?_cons_zero,Option.some.injEq,Jt.Slot.pu.injEq,exists_eq_left']
 simp [fS,eO,fU,h2,aZ,bJ,BA]
 rw [show (lD ls).length = ls.length by simp [lD]]
 simp only [Int.natCast_inj,show ∀ a b:Nat,((a:Int) = (b:Int)) = (a = b) from fun a b => propext Int.ofNat_inj,e]
def nJ (n:Nat) (p:D):Prop:=∃ ls:List Nat,p = .tup (lD ls) ∧ ls.Nodup ∧ ∀ i ∈ ls,i < n
open Classical in
def E3 (n:Nat) (p:D):Bool:=decide (nJ n p)
theorem zC {n:Nat} {ls:List Nat}:nJ n (.tup (lD ls)) ↔ ls.Nodup ∧ ∀ i ∈ ls,i < n:= by
 constructor
 ·rintro ⟨ls',e,h⟩
  have e:=D.tup.inj e
  rw [sG e]; exact h
 ·exact fun h => ⟨ls,rfl,h⟩
theorem vo {n:Nat} {p:D} (h:nJ n p):ky n p = true:= by
 obtain ⟨ls,rfl,_,h⟩:=h
 show (lD ls).all (dh n) = true
 rw [x9,List.all_eq_true]
 exact fun i hi => decide_eq_true (h i hi)
theorem Fo {n:Nat} {p:D} (h:ky n p = true):∃ ls:List Nat,p = .tup (lD ls) ∧ ∀ i ∈ ls,i < n:= by
 cases p with
 | tup xs =>
  obtain ⟨ls,rfl,hl⟩:=mZ (show xs.all (dh n) = true from h)
  exact ⟨ls,rfl,hl⟩
 | _ => cases h
theorem iL {n:Nat} {p:D} (h:nJ n p):E3 n p = true:=@decide_eq_true _ (Classical.propDecidable _) h
theorem gC {n:Nat} {p:D} (h:¬ nJ n p):E3 n p = false:=@decide_eq_false _ (Classical.propDecidable _) h
theorem CW {n:Nat} {p:D} (h:Short p):aW zJ vf [p,.int (n:Int)] = some (.bl (E3 n p)):= by
 apply cu
 show Ok vf [.pu p,.pu (.int (n:Int))] _
 unfold vf
 have e:=GX (x:=p) (n:Int) h
 cases q:ky (n:Int) p with
 | false =>
  rw [q] at e
  rw [gC fun z => by rw [vo z] at q; cases q]
  simp [aE,e]
 | true =>
  rw [q] at e
  obtain ⟨ls,rfl,hl⟩:=Fo q
  have e2:=Jc ls (by have:=h _ rfl; rw [c7] at this; exact this)
  by_cases nd:ls.Nodup
  ·rw [iL (zC.mpr ⟨nd,hl⟩)]
   rw [decide_eq_true nd] at e2
   generalize D.tup (lD ls) = p at *
   simp [aE,e,e2]
  ·rw [gC fun z => nd (zC.mp z).1]
   rw [decide_eq_false nd] at e2
   generalize D.tup (lD ls) = p at *
   simp [aE,e,e2]
structure Tn (hs:List (List Int)) (M least:Nat) (H C:List Nat):Prop where
 nH:H.Nodup
 nC:C.Nodup
 lH:∀ i ∈ H,i < hs.length
 lC:∀ i ∈ C,i < M
 len:C.length = H.length
 big:least ≤ H.length
 at_:∀ k,k < H.length -> ((C.getD k 0:Nat):Int) ∈ G hs (H.getD k 0) ∧ ((C.getD k 0:Nat):Int) ∈ G hs (H.getD (e_ H.length k) 0)
def Turn (hs:List (List Int)) (M least:Nat) (t:D):Prop:=∃ H C,t = .tup [.tup (lD H),.tup (lD C)] ∧ Tn hs M least H C
open Classical in
def iW (hs:List (List Int)) (M least:Nat) (t:D):Bool:=decide (Turn hs M least t)
theorem jA {least:Nat} {H C:List Nat}:Turn hs M least (.tup [.tup (lD H),.tup (lD C)]) ↔ Tn hs M least H C:= by
 constructor
 ·rintro ⟨H',C',e,h⟩
  simp only [D.tup.injEq,List.cons.injEq,and_true] at e
  rw [sG e.1,sG e.2]; exact h
 ·exact fun h => ⟨H,C,rfl,h⟩
theorem i7 {least:Nat} {t:D} (h:Turn hs M least t):iW hs M least t = true:=@decide_eq_true _ (Classical.propDecidable _) h
theorem bX {least:Nat} {t:D} (h:¬ Turn hs M least t):iW hs M least t = false:=@decide_eq_false _ (Classical.propDecidable _) h
def pj (t:D):Prop:=∀ p c,t = .tup [p,c] -> Short p ∧ Short c
def gW:D -> Bool
 | .tup [_,_] => true
 | _ => false
theorem qw {least:Nat} {t:D} (h:Turn hs M least t):gW t = true:= by
 obtain ⟨H,C,rfl,_⟩:=h
 rfl
theorem wq {t:D} (h:gW t = true):∃ p c,t = .tup [p,c]:= by
 unfold gW at h
 split at h
 ·exact ⟨_,_,rfl⟩
 ·cases h
theorem qG {t:D} {δ:DS} (h:δ[1]? = some (.pu t)):Ok (n_ (fK (do let x <- (iR .tup (ah 1)); lift (cx x))) (m2 (dj true) (mC aZ (ae (ah 1) (pure []))) (pure (.int 2)) >>= cQ)) δ fun b δ1 => b = (!gW t) ∧ δ1 = δ:= by
 cases t with
 | tup xs =>
  have hl:aZ [.tup xs] = some (.int (xs.length:Int)):=rfl
  rcases xs with _ | ⟨a,_ | ⟨b,_ | ⟨c,r⟩⟩⟩
  ·simp [h,cx,aZ,bJ,gW]
  ·simp [h,cx,aZ,bJ,gW]
  ·simp [h,cx,aZ,bJ,gW]
  ·have:¬ ((r.length:Int) + 1 + 1 + 1 = 2):=by omega
   simp [h,cx,aZ,bJ,gW,this]
 | _ => simp [h,cx,gW]
theorem wu {H C:List Nat} (hl:C.length = H.length):d8 (lD C) ((List.range H.length).map fun k => .tup [.int ((H.getD k 0:Nat):Int),.int ((H.getD (e_ H.length k) 0:Nat):Int)]) = (List.range H.length).map fun k => .tup [.int ((C.getD k 0:Nat):Int),.tup [.int ((H.getD k 0:Nat):Int),.int ((H.getD (e_ H.length k) 0:Nat):Int)]]:= by
 have gen:∀ (C:List Nat) (f:Nat -> D),d8 (lD C) ((List.range C.length).map f) = (List.range C.length).map fun k => .tup [.int ((C.getD k 0:Nat):Int),f k]:= by
  intro C
  induction C with
  | nil => intro f; rfl
  | cons x r ih =>
   intro f
   rw [List.length_cons,List.range_succ_eq_map,List.map_cons,List.map_map,List.map_cons,List.map_map]
   show D.tup [.int (x:Int),f 0] :: d8 (lD r) _ = _
   have:=ih (fun k => f (k + 1))
   rw [show (f ∘ Nat.succ) = fun k => f (k + 1) from rfl,this]
   rfl
 rw [<- hl]
 exact gen C _
theorem GW (hS:Sm hs) {t:D} (h:pj t):aW jw oH [bw M hs,t] = some (.bl (iW hs M 2 t)):= by
 apply cu
 show Ok oH [.pu (bw M hs),.pu t,.un,.un] _
 unfold oH
 refine bW (!gW t) (qG rfl) (fun q => ?_) (fun q => ?_)
 ·rw [bX fun z => by rw [qw z] at q; cases q]
  simp
 obtain ⟨p,c,rfl⟩:=wq (t:=t) (by simpa using q)
 obtain ⟨sp,sc⟩:=h p c rfl
 have e1:=cY (M:Int) hs
 have e0:=ik (M:Int) hs
 have e2:=fw hs
 have ec:=fun {a b:Nat} (ha:a < hs.length) (hb:b < hs.length) => CU (hs:=hs) (M:Int) hS.h ha hb
 generalize bw (M:Int) hs = lay at *
 refine aI (fun δ => δ = [.pu lay,.pu (.tup [p,c]),.pu p,.pu c]) (by simp) ?_
 rintro _ rfl
 have up:=CW (n:=hs.length) sp
 have uc:=CW (n:=M) sc
 by_cases qp:nJ hs.length p
 ·by_cases qc:nJ M c
  ·rw [iL qp] at up
   rw [iL qc] at uc
   obtain ⟨H,rfl,nH,lH⟩:=qp
   obtain ⟨C,rfl,nC,lC⟩:=qc
   refine bW false ?_ (fun h => by cases h) (fun _ => ?_)
   ·generalize D.tup (lD H) = p at *
    generalize D.tup (lD C) = c at *
    simp [aE,e0,e1,e2,up,uc,cx]
   have hH:H.length ≤ 6:=Nat.le_trans (kh _ _ nH lH) hS.n
   have l1:aZ [.tup (lD H)] = some (.int (H.length:Int)):=by simp [aZ,lD]
   have l2:aZ [.tup (lD C)] = some (.int (C.length:Int)):=by simp [aZ,lD]
   have b1:oG (.int (H.length:Int)) (.int 2) = some (.bl (decide (H.length < 2))):=by simp [oG,b9]; omega
   have b2:dj true (.int (C.length:Int)) (.int (H.length:Int)) = some (.bl (!decide (C.length = H.length))):= by
    rw [bJ]
    have:decide ((C.length:Int) = (H.length:Int)) = decide (C.length = H.length):=decide_eq_decide.mpr Int.ofNat_inj
    rw [this]
    rfl
   have ew:=Hy hH
   refine bW (decide (H.length < 2) || !decide (C.length = H.length)) ?_ (fun q => ?_) (fun q => ?_)
   ·generalize D.tup (lD H) = p at *
    generalize D.tup (lD C) = c at *
    generalize decide (H.length < 2) = xb at *
    generalize decide (C.length = H.length) = yb at *
    cases xb <;> simp [l1,l2,b1,b2]
   ·rw [bX fun z => by
     have z:=jA.mp z
     have:=z.big
     have:=z.len
     simp at q
     omega]
    simp
   ·have q1:2 ≤ H.length ∧ C.length = H.length:=by simp at q; omega
    have zn:kn [.tup (lD C),.lst ((List.range H.length).map fun k => .tup [.int ((H.getD k 0:Nat):Int),.int ((H.getD (e_ H.length k) 0:Nat):Int)])] = some (aR ((List.range H.length).map fun k => .tup [.int ((C.getD k 0:Nat):Int),.tup [.int ((H.getD k 0:Nat):Int),.int ((H.getD (e_ H.length k) 0:Nat):Int)]])):= by
     show some (aR (d8 _ _)) = _
     rw [wu q1.2]
    generalize (List.range H.length).map (fun k => D.tup [.int ((H.getD k 0:Nat):Int),.int ((H.getD (e_ H.length k) 0:Nat):Int)]) = wn at *
    have tt:iW hs M 2 (.tup [.tup (lD H),.tup (lD C)]) = (List.range H.length).all fun k => decide (((C.getD k 0:Nat):Int) ∈ dA hs (H.getD k 0) (H.getD (e_ H.length k) 0)):= by
     by_cases qa:∀ k,k < H.length -> ((C.getD k 0:Nat):Int) ∈ G hs (H.getD k 0) ∧ ((C.getD k 0:Nat):Int) ∈ G hs (H.getD (e_ H.length k) 0)
     ·rw [i7 (jA.mpr ⟨nH,nC,lH,lC,q1.2,q1.1,qa⟩)]
      symm
      rw [List.all_eq_true]
      intro k hk
      obtain ⟨a,b⟩:=qa k (List.mem_range.mp hk)
      exact decide_eq_true (List.mem_filter.mpr ⟨a,decide_eq_true b⟩)
     ·rw [bX fun z => qa (jA.mp z).at_]
      symm
      rw [<- Bool.not_eq_true,List.all_eq_true]
      intro z
      refine qa fun k hk => ?_
      obtain ⟨a,b⟩:=List.mem_filter.mp (of_decide_eq_true (z k (List.mem_range.mpr hk)))
      exact ⟨a,of_decide_eq_true b⟩
    rw [tt]
    simp only [ar,eS,bC,au]
    refine a_ (List.range H.length) (fun k => .tup [.int ((C.getD k 0:Nat):Int),.tup [.int ((H.getD k 0:Nat):Int),.int ((H.getD (e_ H.length k) 0:Nat):Int)]]) (fun k => some (.bl (decide (((C.getD k 0:Nat):Int) ∈ dA hs (H.getD k 0) (H.getD (e_ H.length k) 0))))) rfl ?_ (by simp; omega) (fun k hk => ?_) ?_
    ·generalize D.tup (lD H) = p at *
     generalize D.tup (lD C) = c at *
     simp [aE,ew,zn]
    ·have hk:=List.mem_range.mp hk
     have la:=lH _ (g_ hk)
     have lb:=lH _ (g_ (je hk))
     have ecc:=ec la lb
     have di:=gJ false ((C.getD k 0:Nat):Int) (dA hs (H.getD k 0) (H.getD (e_ H.length k) 0))
     generalize D.tup (lD H) = p at *
     generalize D.tup (lD C) = c at *
     generalize dA hs (H.getD k 0) (H.getD (e_ H.length k) 0) = bl at *
     generalize H.getD k 0 = ia at *
     generalize H.getD (e_ H.length k) 0 = ib at *
     generalize ((C.getD k 0:Nat):Int) = ck at *
     simp [aE,ecc,di]
    ·rw [List.filterMap_eq_map']
     simp [jg,ee,Function.comp_def]
  ·rw [iL qp] at up
   rw [gC qc] at uc
   refine bW true ?_ (fun _ => ?_) (fun h => by cases h)
   ·simp [aE,e0,e1,e2,up,uc,cx]
   ·rw [bX fun ⟨H,C,e,z⟩ => by
     simp only [D.tup.injEq,List.cons.injEq,and_true] at e
     exact qc (e.2 ▸ ⟨C,rfl,z.nC,z.lC⟩)]
    simp
 ·rw [gC qp] at up
  refine bW true ?_ (fun _ => ?_) (fun h => by cases h)
  ·simp [aE,e1,e2,up,cx]
  ·rw [bX fun ⟨H,C,e,z⟩ => by
    simp only [D.tup.injEq,List.cons.injEq,and_true] at e
    exact qp (e.1 ▸ ⟨H,rfl,z.nH,z.lH⟩)]
   simp
end K43
namespace K43
open PySem L2 Jt
variable {hs:List (List Int)} {M:Nat}
theorem qm {n:Nat} {ns:List Int}:nJ n (.tup (ns.map .int)) ↔ ns.Nodup ∧ ∀ i ∈ ns,0 ≤ i ∧ i < (n:Int):= by
 constructor
 ·rintro ⟨ls,e,h1,h2⟩
  have e:=D.tup.inj e
  have:ns = ls.map fun (i:Nat) => (i:Int):= by
   have h:=congrArg dC e
   rw [eE,fU] at h
   exact Option.some.inj h
  subst this
  refine ⟨gU.mpr h1,fun i hi => ?_⟩
  obtain ⟨a,ha,rfl⟩:=List.mem_map.mp hi
  have:=h2 a ha
  omega
 ·rintro ⟨h1,h2⟩
  have e:(ns.map Int.toNat).map (fun (i:Nat) => (i:Int)) = ns:= by
   rw [List.map_map]
   conv => rhs; rw [<- List.map_id ns]
   refine List.map_congr_left fun i hi => ?_
   have:=(h2 i hi).1
   show ((i.toNat:Nat):Int) = i
   omega
  refine ⟨ns.map Int.toNat,?_,?_,fun i hi => ?_⟩
  ·unfold lD
   conv => lhs; rw [<- e]
   rw [List.map_map]
   rfl
  ·rw [<- gU,e]; exact h1
  ·obtain ⟨a,ha,rfl⟩:=List.mem_map.mp hi
   have:=h2 a ha
   omega
theorem vy {n:Nat} {xs:List D} (h:nJ n (.tup xs)):xs.all isInt = true:= by
 obtain ⟨ls,e,_⟩:=h
 have e:=D.tup.inj e
 subst e
 unfold lD
 rw [List.all_map,List.all_eq_true]
 exact fun _ _ => rfl
theorem o6 {n:Nat} {p:D} {a0 a1 a2 a5 a6 a7 a8:Jt.Slot} (sp:Short p) :
  Ok (aB (fz (n_ (fK (do let x <- (iR .tup (ah 3)); lift (cx x))) (n_ (fK (do let x <- (mC jg (ae (do let xs <- (aX 9 1 (do let x <- (ah 3); lift (aO x)) (bh (ba 9) (pure true) (mC (aE 1 (aW vN tW)) (ae (ah 9) (pure []))))); pure (D.lst xs)) (pure []))); lift (cx x))) (m2 (dj true) (mQ eO (do let x <- (ah 3); lift (fS x))) (mC aZ (ae (ah 3) (pure []))) >>= cQ))) (do let d <- (pure (.bl false)); pure (Fl.rt d)) (pure .nx))
  (fz ((m2 (iy true) (do let xs <- (aX 9 1 (do let x <- (ah 3); lift (aO x)) (bh (ba 9) (fK ((zU zX oG (pure (.int 0)) (ah 9) (ah 4)) >>= cQ)) (ah 9))); pure (D.lst xs)) (do let xs <- (cV (pure [])); pure (D.lst xs))) >>= cQ) (do let d <- (pure (.bl false)); pure (Fl.rt d)) (pure .nx)))
   [a0,a1,a2,.pu p,.pu (.int (n:Int)),a5,a6,a7,a8] fun fl δ => (nJ n p -> fl = .nx ∧ δ = [a0,a1,a2,.pu p,.pu (.int (n:Int)),a5,a6,a7,a8]) ∧ (¬ nJ n p -> fl = .rt (.bl false)):= by
 cases p with
 | tup xs =>
  have hl:=sp xs rfl
  cases q:xs.all isInt with
  | false =>
   have nu:¬ nJ n (.tup xs):=fun z => by rw [vy z] at q; cases q
   refine bW true ?_ (fun _ => ?_) (fun h => by cases h)
   ·simp only [pA,pD,ar,eS,bC,au,pG,bG]
    refine ⟨_,rfl,?_⟩
    simp only [gG,cx,cv,Bool.not_true,Bool.false_eq_true,if_false]
    refine a_ xs id (fun x => some (.bl (isInt x))) rfl ?_ (by omega) (fun x hx => ?_) ?_
    ·simp [aO]
    ·simp [aE,gY]
    ·have da:jg [.lst (xs.map fun x => .bl (isInt x))] = some (.bl false):= by
      have:(xs.map fun x => isInt x).all id = false:=by rw [List.all_map]; exact q
      simp only [jg,ee,Option.map_some,this]
     rw [List.filterMap_eq_map']
     generalize D.lst (xs.map fun x => .bl (isInt x)) = zs at *
     simp [da,cx]
   ·simp [nu]
  | true =>
   obtain ⟨ns,rfl⟩:=l9 q
   rw [List.length_map] at hl
   have hset:eO (ns.map .int) = some (.int ((i4 ns).length:Int)):= by
    unfold eO
    rw [eE]
    simp
    omega
   have hln:aZ [.tup (ns.map .int)] = some (.int (ns.length:Int)):=by simp [aZ]
   have hse:dj true (.int ((i4 ns).length:Int)) (.int (ns.length:Int)) = some (.bl (!decide ns.Nodup)):= by
    rw [bJ]
    have e:decide (((i4 ns).length:Int) = (ns.length:Int)) = decide ns.Nodup:=decide_eq_decide.mpr (Int.ofNat_inj.trans (ko ns))
    rw [e]
    simp
   have hsd:fS (.tup (ns.map .int)) = some (ns.map .int):=rfl
   have hsi:aO (.tup (ns.map .int)) = some (aR (ns.map .int)):=rfl
   refine bW (!decide ns.Nodup) ?_ (fun z => ?_) (fun z => ?_)
   ·simp only [pA,pD,ar,eS,bC,au,pG,bG]
    refine ⟨_,rfl,?_⟩
    simp only [gG,cx,cv,Bool.not_true,Bool.false_eq_true,if_false]
    refine a_ ns .int (fun x => some (.bl true)) rfl ?_ (by omega) (fun x hx => ?_) ?_
    ·simp [hsi]
    ·simp [aE,gY,isInt]
    ·have:boolsOf (ns.map fun _ => D.bl true) = some (ns.map fun _ => true):=ee _ _
     have t2:(ns.map fun _ => true).all id = true:=by rw [List.all_map,List.all_eq_true]; exact fun _ _ => rfl
     rw [List.filterMap_eq_map']
     simp only [jg,this,Option.map_some,t2,cv,cx,Bool.not_true,Bool.false_eq_true,if_false]
     generalize decide ns.Nodup = nb at *
     simp [hsd,hset,hln,hse]
   ·have nu:¬ nJ n (.tup (ns.map .int)):=fun u => by rw [decide_eq_true (qm.mp u).1] at z; cases z
    simp [nu]
   ·have nd:ns.Nodup:=by simpa using z
    have key:nJ n (.tup (ns.map .int)) ↔ (ns.filter fun i => !(decide (0 ≤ i) && decide (i < (n:Int)))) = []:= by
     rw [qm,List.filter_eq_nil_iff]
     simp [nd]
    have eq1:=de true ((ns.filter fun i => !(decide (0 ≤ i) && decide (i < (n:Int)))).map D.int)
    refine gP (fun b δ => b = (!((ns.filter fun i => !(decide (0 ≤ i) && decide (i < (n:Int)))).map D.int).isEmpty) ∧ δ = [a0,a1,a2,.pu (.tup (ns.map .int)),.pu (.int (n:Int)),a5,a6,a7,a8]) ?_ ?_ ?_
    ·simp only [ar,eW,au]
     refine a_ ns .int (fun i => if (!(decide (0 ≤ i) && decide (i < (n:Int)))) = true then some (.int i) else none) rfl ?_ (by omega) (fun i hi => ?_) ?_
     ·simp [hsi]
     ·by_cases h0:0 ≤ i
      ·by_cases h1:i < (n:Int)
       ·simp [zX,oG,b9,h0,h1]
       ·simp [zX,oG,b9,h0,h1]
      ·simp [zX,oG,b9,h0]
     ·rw [aY]
      generalize (ns.filter fun i => !(decide (0 ≤ i) && decide (i < (n:Int)))).map D.int = zs at *
      generalize zs.isEmpty = zb at *
      simp [eq1]
    ·rintro _ ⟨hb,rfl⟩
     have nu:¬ nJ n (.tup (ns.map .int)):=fun u => by
      rw [key.mp u] at hb; cases hb
     simp [nu]
    ·rintro _ ⟨hb,rfl⟩
     have u:nJ n (.tup (ns.map .int)):=key.mpr (by
      cases z:ns.filter fun i => !(decide (0 ≤ i) && decide (i < (n:Int))) with
      | nil => rfl
      | cons x r => rw [z] at hb; cases hb)
     exact au.mpr ⟨fun _ => ⟨rfl,rfl⟩,fun z => absurd u z⟩
 | _ =>
  refine bW true (by simp [cx]) (fun _ => ?_) (fun h => by cases h)
  simp [nJ]
theorem A7 {N k:Nat} (hk:k < N):((k:Int) + 1) % (N:Int) = ((e_ N k:Nat):Int):= by
 unfold e_
 split
 ·rename_i e
  rw [<- e]
  rw [show ((k:Int) + 1) = ((k + 1:Nat):Int) by omega,Int.emod_self]
  rfl
 ·rw [Int.emod_eq_of_lt (by omega) (by omega)]
  omega
theorem kH (hS:Sm hs) {t:D} (h:pj t) (least:Nat) (h10:least ≤ 10):aW nv tD [bw M hs,t,.int (least:Int)] = some (.bl (iW hs M least t)):= by
 apply cu
 show Ok tD [.pu (bw M hs),.pu t,.pu (.int (least:Int)),.un,.un,.un,.un,.un,.un] _
 unfold tD
 refine bW (!gW t) (qG rfl) (fun q => ?_) (fun q => ?_)
 ·rw [bX fun z => by rw [qw z] at q; cases q]
  simp
 obtain ⟨p,c,rfl⟩:=wq (t:=t) (by simpa using q)
 obtain ⟨sp,sc⟩:=h p c rfl
 have e1:=cY (M:Int) hs
 have e0:=ik (M:Int) hs
 have e2:=fw hs
 have h6:=hS.n
 generalize bw (M:Int) hs = lay at *
 rw [cM]
 refine fO [.tup [p,.int (hs.length:Int)],.tup [c,.int (M:Int)]] (fun k δ => ∃ a3 a4:Jt.Slot,δ = [.pu lay,.pu (.tup [p,c]),.pu (.int (least:Int)),a3,a4,.un,.un,.un,.un] ∧ (1 ≤ k -> nJ hs.length p) ∧ (2 ≤ k -> nJ M c)) ?_ ⟨_,_,rfl,fun h => by omega,fun h => by omega⟩ ?_ ?_
 ·have z:kn [.tup [p,c],.lst [.int (hs.length:Int),.int (M:Int)]] = some (aR [.tup [p,.int (hs.length:Int)],.tup [c,.int (M:Int)]]):=rfl
  simp [e1,e0,e2,z]
 ·rintro k hk _ ⟨a3,a4,rfl,u1,u2⟩
  have hk:k < 2:=hk
  have cases2:k = 0 ∨ k = 1:=by omega
  rcases cases2 with rfl | rfl
  ·simp only [List.getElem_cons_zero,pE,List.length_cons,List.length_nil,kj,mV,bF,List.set_cons_succ,List.set_cons_zero]
   simp only [Nat.reduceAdd,Nat.reduceLT,if_true,true_and]
   refine (o6 sp).mono fun fl δ hq => ?_
   by_cases u:nJ hs.length p
   ·obtain ⟨rfl,rfl⟩:=hq.1 u
    exact ⟨_,_,rfl,fun _ => u,fun h => by omega⟩
   ·rw [hq.2 u]
    show Fl.rt (.bl false) = _
    rw [bX fun ⟨H,C,e,z⟩ => by
     simp only [D.tup.injEq,List.cons.injEq,and_true] at e
     exact u (e.1 ▸ ⟨H,rfl,z.nH,z.lH⟩)]
  ·simp only [List.getElem_cons_succ,List.getElem_cons_zero,pE,List.length_cons,List.length_nil,kj,mV,bF,List.set_cons_succ,List.set_cons_zero]
   simp only [Nat.reduceAdd,Nat.reduceLT,if_true,true_and]
   refine (o6 sc).mono fun fl δ hq => ?_
   by_cases u:nJ M c
   ·obtain ⟨rfl,rfl⟩:=hq.1 u
    exact ⟨_,_,rfl,fun _ => u1 (by omega),fun _ => u⟩
   ·rw [hq.2 u]
    show Fl.rt (.bl false) = _
    rw [bX fun ⟨H,C,e,z⟩ => by
     simp only [D.tup.injEq,List.cons.injEq,and_true] at e
     exact u (e.2 ▸ ⟨C,rfl,z.nC,z.lC⟩)]
 ·rintro _ ⟨a3,a4,rfl,u1,u2⟩
  obtain ⟨H,rfl,nH,lH⟩:=u1 (by simp)
  obtain ⟨C,rfl,nC,lC⟩:=u2 (by simp)
  have hH:H.length ≤ 6:=Nat.le_trans (kh _ _ nH lH) hS.n
  have l1:aZ [.tup (lD H)] = some (.int (H.length:Int)):=by simp [aZ,lD]
  have l2:aZ [.tup (lD C)] = some (.int (C.length:Int)):=by simp [aZ,lD]
  have b1:oG (.int (H.length:Int)) (.int (least:Int)) = some (.bl (decide (H.length < least))):=by simp [oG,b9]
  have b2:dj true (.int (H.length:Int)) (.int (C.length:Int)) = some (.bl (!decide (H.length = C.length))):= by
   rw [bJ]
   have:decide ((H.length:Int) = (C.length:Int)) = decide (H.length = C.length):=decide_eq_decide.mpr Int.ofNat_inj
   rw [this]
   rfl
  refine aI (fun δ => δ = [.pu lay,.pu (.tup [.tup (lD H),.tup (lD C)]),.pu (.int (least:Int)),a3,a4,.pu (.tup (lD H)),.pu (.tup (lD C)),.un,.un]) (by simp) ?_
  rintro _ rfl
  have tl:=jA (hs:=hs) (M:=M) (least:=least) (H:=H) (C:=C)
  have xH:=fun k (hk:k < H.length) => kA hk
  have xC:=fun k (hk:k < C.length) => kA hk
  generalize D.tup [.tup (lD H),.tup (lD C)] = t at *
  generalize D.tup (lD H) = p at *
  generalize D.tup (lD C) = c at *
  refine bW (!decide (H.length = C.length) || decide (H.length < least)) ?_ (fun q => ?_) (fun q => ?_)
  ·generalize decide (H.length < least) = xb at *
   generalize decide (H.length = C.length) = yb at *
   cases yb <;> simp [l1,l2,b1,b2]
  ·rw [bX fun z => by
    have z:=tl.mp z
    have:=z.big
    have:=z.len
    simp at q
    omega]
   simp
  ·have q1:C.length = H.length ∧ least ≤ H.length:=by simp at q; omega
   rw [cM]
   have sH:bz (H.length:Int) = true:=by simp [bz]; omega
   refine fO (lD (List.range H.length)) (fun k δ => ∃ a7 a8:Jt.Slot,δ = [.pu lay,.pu t,.pu (.int (least:Int)),a3,a4,.pu p,.pu c,a7,a8] ∧ ∀ i,i < k -> ((C.getD i 0:Nat):Int) ∈ G hs (H.getD i 0) ∧ ((C.getD i 0:Nat):Int) ∈ G hs (H.getD (e_ H.length i) 0)) ?_ ⟨_,_,rfl,fun i h => by omega⟩ ?_ ?_
   ·simp [l1,cF,sH,ja]
   ·rintro k hk _ ⟨a7,a8,rfl,hz⟩
    have hk2:k < H.length:=by simpa [lD] using hk
    have itm:(lD (List.range H.length))[k] = .int (k:Int):=by simp [lD]
    rw [itm]
    simp only [bF,List.length_cons,List.length_nil,List.set_cons_succ,List.set_cons_zero]
    refine ⟨by omega,?_⟩
    have hn:=je hk2
    have x1:=xH k hk2
    have x2:=xH _ hn
    have x3:=xC k (by omega)
    have y1:=gy (lH _ (g_ hk2))
    have y2:=gy (lH _ (g_ hn))
    have md:nK (.int ((k:Int) + 1)) (.int (H.length:Int)) = some (.int (((k:Int) + 1) % (H.length:Int))):=if_pos (decide_eq_true (by omega:(0:Int) < (H.length:Int)))
    rw [A7 hk2] at md
    have ad:c6 (.int (k:Int)) (.int 1) = some (.int ((k:Int) + 1)):=rfl
    have d1:=gJ true ((C.getD k 0:Nat):Int) (G hs (H.getD k 0))
    have d2:=gJ true ((C.getD k 0:Nat):Int) (G hs (H.getD (e_ H.length k) 0))
    have tf:¬ (((C.getD k 0:Nat):Int) ∈ G hs (H.getD k 0) ∧ ((C.getD k 0:Nat):Int) ∈ G hs (H.getD (e_ H.length k) 0)) -> iW hs M least t = false:=fun z => bX fun q => z ((tl.mp q).at_ k hk2)
    generalize hq1:decide (((C.getD k 0:Nat):Int) ∈ G hs (H.getD k 0)) = q1 at d1
    generalize hq2:decide (((C.getD k 0:Nat):Int) ∈ G hs (H.getD (e_ H.length k) 0)) = q2 at d2
    generalize hD (G hs (H.getD k 0)) = g1 at y1 d1
    generalize hD (G hs (H.getD (e_ H.length k) 0)) = g2 at y2 d2
    generalize D.tup (hs.map hD) = hd at e1 y1 y2
    generalize ((H.getD k 0:Nat):Int) = ia at x1 y1
    generalize ((H.getD (e_ H.length k) 0:Nat):Int) = ib at x2 y2
    generalize ((e_ H.length k:Nat):Int) = nx at x2 md
    generalize ((C.getD k 0:Nat):Int) = ck at x3 d1 d2
    refine aI (fun δ => δ = [.pu lay,.pu t,.pu (.int (least:Int)),a3,a4,.pu p,.pu c,.pu (.int (k:Int)),.pu (.lst [g1,g2])]) (by simp [e1,x1,x2,y1,y2,ad,md,l1]) ?_
    rintro _ rfl
    have z0:b_ (.lst [g1,g2]) (.int 0) = some g1:=rfl
    have z1:b_ (.lst [g1,g2]) (.int 1) = some g2:=rfl
    refine gP (fun b δ => b = !(q1 && q2) ∧ δ = [.pu lay,.pu t,.pu (.int (least:Int)),a3,a4,.pu p,.pu c,.pu (.int (k:Int)),.pu (.lst [g1,g2])]) ?_ ?_ ?_
    ·cases q1 <;> simp [x3,z0,z1,d1,d2]
    ·rintro _ ⟨hb,rfl⟩
     rw [tf fun z => by
      rw [decide_eq_true z.1] at hq1
      rw [decide_eq_true z.2] at hq2
      rw [<- hq1,<- hq2] at hb
      cases hb]
     simp
    ·rintro _ ⟨hb,rfl⟩
     have hb:q1 = true ∧ q2 = true:=by simpa using hb.symm
     refine au.mpr ⟨_,_,rfl,fun i hi => ?_⟩
     by_cases e:i = k
     ·rw [e]
      exact ⟨of_decide_eq_true (hq1.trans hb.1),of_decide_eq_true (hq2.trans hb.2)⟩
     ·exact hz i (by omega)
   ·rintro _ ⟨a7,a8,rfl,hz⟩
    have:(lD (List.range H.length)).length = H.length:=by simp [lD]
    rw [this] at hz
    rw [i7 (tl.mpr ⟨nH,nC,lH,lC,q1.1,q1.2,hz⟩)]
    simp
end K43
namespace K43
open PySem L2 Jt
variable {hs:List (List Int)} {M:Nat}
def FF (d:D):Prop:=∃ a b:List D,d = .tup [.tup a,.tup b] ∧ 1 ≤ a.length ∧ a.length ≤ 6 ∧ b.length ≤ 6
theorem jV {s0 s1 s2 s3 s4 s6 s7 s8 s9 s10 s11:Jt.Slot} {ss h:List Int} {fb:Jt.M D} (h7:ss.length ≤ 7)
  (hb:∀ x:D,Ok fb [s0,s1,s2,s3,s4,.pu (.lst (ss.map .int)),s6,s7,s8,s9,s10,s11,.pu x] fun d δ' => d = hD h ∧ δ' = [s0,s1,s2,s3,s4,.pu (.lst (ss.map .int)),s6,s7,s8,s9,s10,s11,.pu x])
  {Q:List D -> DS -> Prop} (hQ:Q ((ss.filter fun c => decide (c ∈ h)).map .int) [s0,s1,s2,s3,s4,.pu (.lst (ss.map .int)),s6,s7,s8,s9,s10,s11]) :
  Ok (aX 12 1 (do let x <- (ah 5); lift (aO x)) (bh (ba 12) (m2 (jR false) (ah 12) fb >>= cQ) (ah 12))) [s0,s1,s2,s3,s4,.pu (.lst (ss.map .int)),s6,s7,s8,s9,s10,s11] Q:= by
 refine a_ ss .int (fun c => if decide (c ∈ h) = true then some (.int c) else none) rfl ?_ (by omega) (fun c hc => ?_) ?_
 ·have:aO (.lst (ss.map .int)) = some (aR (ss.map .int)):=rfl
  generalize D.lst (ss.map .int) = sd at *
  simp [this]
 ·have hbc:=hb (.int c)
  generalize D.lst (ss.map .int) = sd at *
  simp only [dG,bF,List.replicate,List.cons_append,List.nil_append,List.length_cons,List.length_nil,List.set_cons_succ,List.set_cons_zero,ar,eW,bG]
  refine ⟨by omega,.int c,rfl,hbc.mono fun d δ' hq => ?_⟩
  obtain ⟨rfl,rfl⟩:=hq
  by_cases q:c ∈ h <;> simp [gJ,q]
 ·rw [aY]; exact hQ
theorem sub_len (ss h:List Int):(ss.filter fun c => decide (c ∈ h)).length ≤ ss.length:=List.length_filter_le _ _
theorem xx {H:List Nat} (hne:H ≠ []):b_ (.lst (lD H)) (.int (-1)) = some (.int ((H.getLast hne:Nat):Int)):=BP hne
theorem D5 {H:List Nat} {k:Nat} (h:k < H.length):b_ (.lst (lD H)) (.int (k:Int)) = some (.int ((H.getD k 0:Nat):Int)):=kA h
theorem jo (hS:Sm hs) (h1:1 ≤ hs.length) (n0:Int):∃ d xs',bp kR zr [.int n0] [bw M hs] = some (d,xs') ∧ FF d ∧ ∃ n:Int,xs' = [.int n]:= by
 apply d_
 show Ok zr [.ow true [.int n0],.pu (bw M hs),.un,.un,.un,.un,.un,.un,.un,.un,.un,.un] _
 unfold zr
 have e1:=cY (M:Int) hs
 have e2:=fw hs
 have h6:=hS.n
 generalize bw (M:Int) hs = lay at *
 have et:=aH n0 (hs.length:Int) (by omega) (by omega)
 have nn:jN (.int 1) = some (.int (-1)):=by simp [jN]
 refine aI (fun δ => ∃ (n:Int) (i:Nat),i < hs.length ∧ δ = [.ow true [.int n],.pu lay,.ow false (lD [i]),.un,.un,.un,.un,.un,.un,.un,.un,.un]) ?_ ?_
 ·have hi:(n0 % (hs.length:Int)).toNat < hs.length ∧ (((n0 % (hs.length:Int)).toNat:Nat):Int) = n0 % (hs.length:Int):= by
   have a:=Int.emod_nonneg n0 (b:=(hs.length:Int)) (by omega)
   have b:=Int.emod_lt_of_pos n0 (b:=(hs.length:Int)) (by omega)
   omega
  have lx:lD [(n0 % (hs.length:Int)).toNat] = [.int (n0 % (hs.length:Int))]:= by
   show [D.int _] = _
   rw [hi.2]
  generalize (n0 % (hs.length:Int)).toNat = i at *
  generalize n0 % (hs.length:Int) = z at *
  generalize n0 / (hs.length:Int) = z2 at *
  simp [-Prod.exists,e1,e2,et]
  exact ⟨z2,i,hi.1,rfl,lx.symm⟩
 rintro _ ⟨n,i0,hi0,rfl⟩
 refine aI (fun δ => δ = [.ow true [.int n],.pu lay,.ow false (lD [i0]),.ow false [],.un,.un,.un,.un,.un,.un,.un,.un]) (by simp) ?_
 rintro _ rfl
 rw [cM]
 have fin:∀ (n:Int) (H:List Nat) (cs:List D) (a4 a5 a6 a7 a8 a9 a10 a11:Jt.Slot),1 ≤ H.length -> H.length ≤ 6 -> cs.length ≤ 6 ->
   Ok (do let d <- (bL (ae (do let xs <- aF 2; pure (D.tup xs)) (ae (do let xs <- aF 3; pure (D.tup xs)) (pure [])))); pure (Fl.rt d)) [.ow true [.int n],.pu lay,.ow false (lD H),.ow false cs,a4,a5,a6,a7,a8,a9,a10,a11] fun fl δ => ∃ d,fl = .rt d ∧ δ[0]? = some (.ow true [.int n]) ∧ FF d:= by
  intro n H cs a4 a5 a6 a7 a8 a9 a10 a11 q1 q2 q3
  simp
  exact ⟨lD H,cs,rfl,by rw [c7]; exact q1,by rw [c7]; exact q2,q3⟩
 have s5:bz 5 = true:=by decide
 refine fO (bP 0 5) (fun k δ => ∃ (n:Int) (H:List Nat) (cs:List Int) (a4 a5 a6 a7 a8 a9 a10 a11:Jt.Slot),δ = [.ow true [.int n],.pu lay,.ow false (lD H),.ow false (cs.map .int),a4,a5,a6,a7,a8,a9,a10,a11] ∧ H.length = k + 1 ∧ cs.length = k ∧ ∀ i ∈ H,i < hs.length) ?_ ⟨n,[i0],[],_,_,_,_,_,_,_,_,rfl,rfl,rfl,fun i hi => by rw [List.mem_singleton.mp hi]; exact hi0⟩ ?_ ?_
 ·simp [cF,s5]
 ·rintro k hk _ ⟨n,H,cs,a4,a5,a6,a7,a8,a9,a10,a11,rfl,hH,hc,lt⟩
  have hk5:k < 5:=by simpa [bP] using hk
  generalize (bP 0 5)[k] = turn
  have hne:H ≠ []:=fun z => by rw [z] at hH; simp at hH
  rw [bF]
  refine ⟨by simp,?_⟩
  simp only [List.set_cons_succ,List.set_cons_zero]
  have xl:=xx hne
  have gl:=lt _ (List.getLast_mem hne)
  have yl:=gy gl
  have x0:=D5 (H:=H) (k:=0) (by omega)
  have g0:=lt _ (g_ (H:=H) (i:=0) (by omega))
  have y0:=gy g0
  have h7:∀ i,i < hs.length -> (G hs i).length ≤ 7:=fun i hi => by
   have:G hs i = hs[i]:=by simp [G,hi]
   rw [this]; exact hS.h _ (List.getElem_mem hi)
  refine aI (fun δ => ∃ ss:List Int,ss.length ≤ 7 ∧ δ = [.ow true [.int n],.pu lay,.ow false (lD H),.ow false (cs.map .int),.pu turn,.pu (.lst (ss.map .int)),a6,a7,a8,a9,a10,a11]) ?_ ?_
  ·simp only [dR,ar,au]
   refine a_ (G hs (H.getLast hne)) .int (fun c => if (!decide (c ∈ cs)) = true then some (.int c) else none) rfl ?_ (by have:=h7 _ gl; omega) (fun c hc => ?_) ?_
   ·generalize H.getLast hne = hl at *
    generalize lD H = Hl at *
    have:aO (hD (G hs hl)) = some (aR ((G hs hl).map .int)):=rfl
    generalize hD (G hs hl) = gd at *
    simp [e1,nn,xl,yl,this]
   ·have d1:Dj true (.int c) (.lst (cs.map .int)) = some (.bl (!decide (c ∈ cs))):=gJ true c cs
    by_cases q:c ∈ cs
    ·rw [decide_eq_true q] at d1
     simp [d1,q]
    ·rw [decide_eq_false q] at d1
     simp [d1,q]
   ·rw [aY]
    have l:=List.length_filter_le (fun c => !decide (c ∈ cs)) (G hs (H.getLast hne))
    have:=h7 _ gl
    refine ⟨by simp,trivial,(G hs (H.getLast hne)).filter fun c => !decide (c ∈ cs),by omega,rfl⟩
  rintro _ ⟨ss,hs7,rfl⟩
  refine aI (fun δ => δ = [.ow true [.int n],.pu lay,.ow false (lD H),.ow false (cs.map .int),.pu turn,.pu (.lst (ss.map .int)),.ow false [],a7,a8,a9,a10,a11]) (by simp) ?_
  rintro _ rfl
  rw [cM]
  have en:kc [.tup (hs.map hD)] = some (aR ((List.range hs.length).map fun (i:Nat) => .tup [.int ((0 + i:Nat):Int),hD (G hs i)])):= by
   show some (aR (kP 0 (hs.map hD))) = _
   rw [lK]
  refine fO ((List.range hs.length).map fun (i:Nat) => .tup [.int ((0 + i:Nat):Int),hD (G hs i)]) (fun j δ => ∃ (fr:List Nat) (b7 b8:Jt.Slot),δ = [.ow true [.int n],.pu lay,.ow false (lD H),.ow false (cs.map .int),.pu turn,.pu (.lst (ss.map .int)),.ow false (lD fr),b7,b8,a9,a10,a11] ∧ fr.length ≤ j ∧ ∀ i ∈ fr,i < hs.length ∧ (ss.filter fun c => decide (c ∈ G hs i)) ≠ []) ?_ ⟨[],_,_,rfl,by simp,by simp⟩ ?_ ?_
  ·simp [e1,en]
  ·rintro j hj _ ⟨fr,b7,b8,rfl,hfl,hfr⟩
   have hj2:j < hs.length:=by simpa using hj
   rw [List.getElem_map,List.getElem_range,Nat.zero_add]
   simp only [pE,List.length_cons,List.length_nil,kj,mV,bF,List.set_cons_succ,List.set_cons_zero]
   simp only [Nat.reduceAdd,Nat.reduceLT,if_true,true_and]
   have d1:Dj true (.int (j:Int)) (.lst (lD H)) = some (.bl (!decide (j ∈ H))):=kY true j H
   have dn:=de true ((ss.filter fun c => decide (c ∈ G hs j)).map D.int)
   refine gP (fun b δ => (b = true -> (ss.filter fun c => decide (c ∈ G hs j)) ≠ []) ∧ δ = [.ow true [.int n],.pu lay,.ow false (lD H),.ow false (cs.map .int),.pu turn,.pu (.lst (ss.map .int)),.ow false (lD fr),.pu (.int (j:Int)),.pu (hD (G hs j)),a9,a10,a11]) ?_ ?_ ?_
   ·simp only [lq,ar,zk,bG,au,uw,zd,wM]
    refine ⟨_,rfl,false,lD H,rfl,false,lD H,rfl,?_⟩
    rw [d1]
    simp only [cv,fJ]
    refine ⟨_,rfl,?_⟩
    by_cases q:j ∈ H
    ·simp [q]
    ·rw [decide_eq_false q]
     simp only [Bool.not_false,if_true,eW,ar,au]
     refine jV (h:=G hs j) hs7 (fun x => by simp) ?_
     generalize hD (G hs j) = gd at *
     cases qz:ss.filter fun c => decide (c ∈ G hs j) with
     | nil => rw [qz] at dn; simp at dn; simp [dn]
     | cons x r =>
      rw [qz] at dn
      generalize List.map D.int (x :: r) = zz at *
      simp [dn]
      exact Classical.em _
   ·rintro _ ⟨hb,rfl⟩
    refine dX ⟨_,_,rfl⟩ ?_
    simp only [bC,bG,au]
    refine ⟨_,rfl,_,_,_,rfl,rfl,by rw [c7]; omega,fr ++ [j],.pu (.int (j:Int)),.pu (hD (G hs j)),?_,by simp; omega,fun i hi => ?_⟩
    ·simp [lD]
    ·rcases List.mem_append.mp hi with hi | hi
     ·exact hfr i hi
     ·rw [List.mem_singleton.mp hi]; exact ⟨hj2,hb rfl⟩
   ·rintro _ ⟨hb,rfl⟩
    exact au.mpr ⟨fr,_,_,rfl,by omega,hfr⟩
  rintro _ ⟨fr,b7,b8,rfl,hfl,hfr⟩
  have hfl:fr.length ≤ 6:=by simp at hfl; omega
  refine aI (fun δ => ∃ es:List Int,es.length ≤ 7 ∧ δ = [.ow true [.int n],.pu lay,.ow false (lD H),.ow false (cs.map .int),.pu turn,.pu (.lst (ss.map .int)),.ow false (lD fr),b7,b8,.pu (.lst (es.map .int)),a10,a11]) ?_ ?_
  ·simp only [dR,ar,au]
   refine jV (h:=G hs (H.getD 0 0)) hs7 (fun x => ?_) ?_
   ·generalize hD (G hs (H.getD 0 0)) = gd at *
    generalize ((H.getD 0 0:Nat):Int) = h0 at *
    have x0:b_ (.lst (lD H)) (.int 0) = some (.int h0):=x0
    generalize lD H = Hl at *
    generalize D.tup (hs.map hD) = hd at *
    simp [e1,x0,y0]
   ·exact ⟨by simp,trivial,_,Nat.le_trans (sub_len _ _) hs7,rfl⟩
  rintro _ ⟨es,he7,rfl⟩
  rw [cM]
  refine gP (fun b δ => ∃ n:Int,(b = true -> es ≠ []) ∧ δ = [.ow true [.int n],.pu lay,.ow false (lD H),.ow false (cs.map .int),.pu turn,.pu (.lst (ss.map .int)),.ow false (lD fr),b7,b8,.pu (.lst (es.map .int)),a10,a11]) ?_ ?_ ?_
  ·have t3:=aH n 3 (by omega) (by omega)
   have dn:=de true (es.map D.int)
   have gn:=jF false (lD fr)
   have ge:∀ z:Int,∃ b,uy (.int z) (.int 1) = some (.bl b):=fun z => ⟨_,rfl⟩
   obtain ⟨b1,hb1⟩:=ge ((lD H).length:Int)
   cases b1 with
   | false => simp [hb1]
   | true =>
    cases qe:es with
    | nil => rw [qe] at dn; simp at dn; simp [hb1,dn]
    | cons x r =>
     have hne2:(List.map D.int es).isEmpty = false:=by rw [qe]; rfl
     rw [<- qe]
     rw [hne2] at dn
     have hnes:es ≠ []:=by rw [qe]; simp
     generalize D.lst (es.map .int) = ed at *
     generalize hq:(lD fr).isEmpty = qf at *
     cases qf with
     | true =>
      simp [-Prod.exists,hb1,dn,gn]
      exact hnes
     | false =>
      simp [-Prod.exists,hb1,dn,gn,t3,bJ]
      by_cases q:n % 3 = 0 <;> simp [q,hnes]
  ·rintro _ ⟨n,hb,rfl⟩
   have hes:=hb rfl
   have hp:0 < es.length:=List.length_pos_iff.mpr hes
   have te:=aH n (es.length:Int) (by omega) (by omega)
   obtain ⟨d,hd,ed⟩:=jr (es.map D.int) n (by simpa using hp)
   rw [List.length_map] at ed
   have le:aZ [.lst (es.map .int)] = some (.int (es.length:Int)):=by simp [aZ]
   have c2:∀ d,b4 (.tup (cs.map .int)) (.tup [d]) = some (.tup (cs.map .int ++ [d])):=fun d => if_pos (by simp; omega)
   generalize D.lst (es.map .int) = edl at *
   simp [-Prod.exists,le,te]
   refine cC ed ?_
   simp [c2]
   refine ⟨_,_,rfl,by rw [c7]; omega,by rw [c7]; omega,?_⟩
   simp; omega
  ·rintro _ ⟨n,hb,rfl⟩
   show Ok _ _ _
   refine au.mpr ?_
   show Ok _ _ _
   have gn:=jF false (lD fr)
   refine bW ((lD fr).isEmpty) ?_ (fun q => ?_) (fun q => ?_)
   ·generalize (lD fr).isEmpty = qf at *
    simp [gn]
   ·refine (fin n H (cs.map .int) _ _ _ _ _ _ _ _ (by omega) (by omega) (by simp; omega)).mono fun fl δ hq => ?_
    obtain ⟨d,rfl,h0,hp⟩:=hq
    exact ⟨d,rfl,d,_,rfl,h0,hp,n,rfl⟩
   have hfp:0 < fr.length:= by
    cases fr with
    | nil => cases q
    | cons x r => simp
   have tf:=aH n (fr.length:Int) (by omega) (by omega)
   refine aI (fun δ => ∃ (n:Int) (i:Nat),i ∈ fr ∧ δ = [.ow true [.int n],.pu lay,.ow false (lD H),.ow false (cs.map .int),.pu turn,.pu (.lst (ss.map .int)),.ow false (lD fr),b7,b8,.pu (.lst (es.map .int)),.pu (.int (i:Int)),a11]) ?_ ?_
   ·obtain ⟨d,hd,ed⟩:=jr (lD fr) n (by rw [c7]; exact hfp)
    rw [c7] at ed
    obtain ⟨i,hi,rfl⟩:=List.mem_map.mp hd
    simp [-Prod.exists,c7,tf]
    exact cC ed ⟨by simp,_,i,hi,rfl⟩
   rintro _ ⟨n,i,hi,rfl⟩
   obtain ⟨hil,hin⟩:=hfr i hi
   have yi:=gy hil
   refine aI (fun δ => δ = [.ow true [.int n],.pu lay,.ow false (lD H),.ow false (cs.map .int),.pu turn,.pu (.lst (ss.map .int)),.ow false (lD fr),b7,b8,.pu (.lst (es.map .int)),.pu (.int (i:Int)),.pu (.lst ((ss.filter fun c => decide (c ∈ G hs i)).map .int))]) ?_ ?_
   ·simp only [dR,ar,au]
    refine jV (h:=G hs i) hs7 (fun x => ?_) ?_
    ·generalize hD (G hs i) = gd at *
     generalize D.tup (hs.map hD) = hd at *
     simp [e1,yi]
    ·simp
   rintro _ rfl
   have hl7:=sub_len ss (G hs i)
   generalize ss.filter (fun c => decide (c ∈ G hs i)) = sh at *
   have hp:0 < sh.length:=List.length_pos_iff.mpr hin
   have te:=aH n (sh.length:Int) (by omega) (by omega)
   obtain ⟨d,hd,ed⟩:=jr (sh.map D.int) n (by simpa using hp)
   rw [List.length_map] at ed
   obtain ⟨c,hc2,rfl⟩:=List.mem_map.mp hd
   have le:aZ [.lst (sh.map .int)] = some (.int (sh.length:Int)):=by simp [aZ]
   refine aI (fun δ => ∃ n:Int,δ = [.ow true [.int n],.pu lay,.ow false (lD H),.ow false ((cs ++ [c]).map .int),.pu turn,.pu (.lst (ss.map .int)),.ow false (lD fr),b7,b8,.pu (.lst (es.map .int)),.pu (.int (i:Int)),.pu (.lst (sh.map .int))]) ?_ ?_
   ·refine dX ⟨_,_,rfl⟩ ?_
    generalize D.lst (sh.map .int) = sd at *
    simp [-Prod.exists,le,te]
    exact cC ed (.inl ⟨_,rfl,by simp; omega,_,rfl⟩)
   rintro _ ⟨n,rfl⟩
   refine dX ⟨_,_,rfl⟩ ?_
   simp only [bC,bG,au]
   refine ⟨_,rfl,_,_,_,rfl,rfl,by rw [c7]; omega,n,H ++ [i],cs ++ [c],.pu turn,.pu (.lst (ss.map .int)),.ow false (lD fr),b7,b8,.pu (.lst (es.map .int)),.pu (.int (i:Int)),.pu (.lst (sh.map .int)),?_,by simp; omega,by simp; omega,fun j hj => ?_⟩
   ·simp [lD]
   ·rcases List.mem_append.mp hj with hj | hj
    ·exact lt j hj
    ·rw [List.mem_singleton.mp hj]; exact hil
 ·rintro _ ⟨n,H,cs,a4,a5,a6,a7,a8,a9,a10,a11,rfl,hH,hc,lt⟩
  have:(bP 0 5).length = 5:=by simp [bP]
  rw [this] at hH hc
  refine (fin n H (cs.map .int) _ _ _ _ _ _ _ _ (by omega) (by omega) (by simp; omega)).mono fun fl δ hq => ?_
  obtain ⟨d,rfl,h0,hp⟩:=hq
  exact ⟨d,_,rfl,h0,hp,n,rfl⟩
end K43
namespace K43
open PySem L2 Jt
variable {hs:List (List Int)} {M:Nat}
theorem yH {x:D} (h:∀ ys,x ≠ .tup ys):Short x:=fun ys e => absurd e (h ys)
theorem f6 {a b:List D} (ha:a.length ≤ 60) (hb:b.length ≤ 60):pj (.tup [.tup a,.tup b]):=fun p c e => by
 simp only [D.tup.injEq,List.cons.injEq,and_true] at e
 obtain ⟨rfl,rfl⟩:=e
 exact ⟨iH ha,iH hb⟩
theorem sI {p c:D} (hp:Short p) (hc:Short c):pj (.tup [p,c]):=fun p c e => by
 simp only [D.tup.injEq,List.cons.injEq,and_true] at e
 obtain ⟨rfl,rfl⟩:=e
 exact ⟨hp,hc⟩
theorem Eu {l:List D} {n:Int} {N:Nat} (hl:l.length = N) (hN:0 < N):∃ d ∈ l,b_ (.lst l) (.int (n % (N:Int))) = some d:= by
 subst hl
 exact jr l n hN
theorem lZ (h1:1 ≤ hs.length) (h6:hs.length ≤ 6) (hM1:1 ≤ M) (hM7:M ≤ 7) {t:D} (ht:FF t) (n0:Int):∃ d xs',bp qX oh [.int n0] [bw M hs,t] = some (d,xs') ∧ pj d ∧ ∃ n:Int,xs' = [.int n]:= by
 obtain ⟨a,b,rfl,ha1,ha6,hb6⟩:=ht
 apply d_
 show Ok oh [.ow true [.int n0],.pu (bw M hs),.pu (.tup [.tup a,.tup b]),.un,.un,.un,.un,.un,.un,.un] _
 unfold oh
 have e1:=cY (M:Int) hs
 have e0:=ik (M:Int) hs
 have e2:=fw hs
 generalize bw (M:Int) hs = lay at *
 generalize ht:D.tup [.tup a,.tup b] = t at *
 refine aI (fun δ => δ = [.ow true [.int n0],.pu lay,.pu t,.pu (.tup a),.pu (.tup b),.un,.un,.un,.un,.un]) (by rw [<- ht]; simp) ?_
 rintro _ rfl
 obtain ⟨o,xs',eo,⟨so,to⟩,n,rfl⟩:=nV n0
 refine aI (fun δ => δ = [.ow true [.int n],.pu lay,.pu t,.pu (.tup a),.pu (.tup b),.pu o,.un,.un,.un,.un]) (by simp [-Prod.exists,eo]) ?_
 rintro _ rfl
 have la:aZ [.tup a] = some (.int (a.length:Int)):=rfl
 have t1:=aH n (a.length:Int) (by omega) (by omega)
 refine aI (fun δ => ∃ n k:Int,δ = [.ow true [.int n],.pu lay,.pu t,.pu (.tup a),.pu (.tup b),.pu o,.pu (.int k),.un,.un,.un]) (by simp [-Prod.exists,la,t1]) ?_
 rintro _ ⟨n,k,rfl⟩
 have t2:=aH n (hs.length:Int) (by omega) (by omega)
 refine aI (fun δ => ∃ n i:Int,δ = [.ow true [.int n],.pu lay,.pu t,.pu (.tup a),.pu (.tup b),.pu o,.pu (.int k),.pu (.int i),.un,.un]) (by simp [-Prod.exists,e1,e2,t2]) ?_
 rintro _ ⟨n,i,rfl⟩
 have t3:=aH n (M:Int) (by omega) (by omega)
 refine aI (fun δ => ∃ n j:Int,δ = [.ow true [.int n],.pu lay,.pu t,.pu (.tup a),.pu (.tup b),.pu o,.pu (.int k),.pu (.int i),.pu (.int j),.un]) (by simp [-Prod.exists,e0,t3]) ?_
 rintro _ ⟨n,j,rfl⟩
 have sl:∀ (x:List D) lo hi,Aw (.tup x) lo hi = some (.tup (cutD x lo hi)):=fun _ _ _ => rfl
 have ca:∀ lo hi,(cutD a lo hi).length ≤ 6:=fun lo hi => Nat.le_trans (uj a lo hi) ha6
 have cb:∀ lo hi,(cutD b lo hi).length ≤ 6:=fun lo hi => Nat.le_trans (uj b lo hi) hb6
 have k1:∀ lo hi lo' hi',b4 (.tup (cutD a lo hi)) (.tup (cutD a lo' hi')) = some (.tup (cutD a lo hi ++ cutD a lo' hi')):=fun lo hi lo' hi' => qU _ _ (by have:=ca lo hi; omega) (by have:=ca lo' hi'; omega)
 have k2:∀ lo hi lo' hi',b4 (.tup (cutD b lo hi)) (.tup (cutD b lo' hi')) = some (.tup (cutD b lo hi ++ cutD b lo' hi')):=fun lo hi lo' hi' => qU _ _ (by have:=cb lo hi; omega) (by have:=cb lo' hi'; omega)
 have k3:∀ lo hi x,b4 (.tup (cutD a lo hi)) (.tup [x]) = some (.tup (cutD a lo hi ++ [x])):=fun lo hi x => qU _ _ (by have:=ca lo hi; omega) (by simp)
 have k4:∀ lo hi x,b4 (.tup (cutD b lo hi)) (.tup [x]) = some (.tup (cutD b lo hi ++ [x])):=fun lo hi x => qU _ _ (by have:=cb lo hi; omega) (by simp)
 have k5:∀ lo hi x lo' hi',b4 (.tup (cutD a lo hi ++ [x])) (.tup (cutD a lo' hi')) = some (.tup (cutD a lo hi ++ [x] ++ cutD a lo' hi')):=fun lo hi x lo' hi' => qU _ _ (by have:=ca lo hi; simp; omega) (by have:=ca lo' hi'; omega)
 have k6:∀ lo hi x lo' hi',b4 (.tup (cutD b lo hi ++ [x])) (.tup (cutD b lo' hi')) = some (.tup (cutD b lo hi ++ [x] ++ cutD b lo' hi')):=fun lo hi x lo' hi' => qU _ _ (by have:=cb lo hi; simp; omega) (by have:=cb lo' hi'; omega)
 have k7:∀ lo hi,b4 (.tup a) (.tup (cutD a lo hi)) = some (.tup (a ++ cutD a lo hi)):=fun lo hi => qU _ _ (by omega) (by have:=ca lo hi; omega)
 have k8:∀ lo hi,b4 (.tup b) (.tup (cutD b lo hi)) = some (.tup (b ++ cutD b lo hi)):=fun lo hi => qU _ _ (by omega) (by have:=cb lo hi; omega)
 have r1:yC (.tup a) = some (.tup a.reverse):=rfl
 have r2:yC (.tup b) = some (.tup b.reverse):=rfl
 have ls:dList [.tup a] = some a:=rfl
 have ad:c6 (.int k) (.int 1) = some (.int (k + 1)):=rfl
 have sa:Short (.tup a):=iH (by omega)
 have sb:Short (.tup b):=iH (by omega)
 refine aI (fun δ => ∃ l:List D,δ = [.ow true [.int n],.pu lay,.pu t,.pu (.tup a),.pu (.tup b),.pu o,.pu (.int k),.pu (.int i),.pu (.int j),.ow false l] ∧ l.length = 3 ∧ ∀ d ∈ l,pj d) ?_ ?_
 ·simp [sl,k1,k2,r1,r2]
  refine ⟨f6 ?_ ?_,f6 (by simp; omega) (by simp; omega),f6 (by omega) (by omega)⟩
  ·have:=ca (some 1) none; have:=ca none (some 1); simp only [List.length_append]; omega
  ·have:=cb (some 1) none; have:=cb none (some 1); simp only [List.length_append]; omega
 rintro _ ⟨l,rfl,hl,hd⟩
 have app:∀ {N:Nat} {l:List D} {fs:Jt.M (List D)} (d:D),l.length = N -> N ≤ 50 -> (∀ d ∈ l,pj d) -> pj d -> Ok fs [.ow true [.int n],.pu lay,.pu t,.pu (.tup a),.pu (.tup b),.pu o,.pu (.int k),.pu (.int i),.pu (.int j),.ow false l] (fun ds δ1 => ds = [d] ∧ δ1 = [.ow true [.int n],.pu lay,.pu t,.pu (.tup a),.pu (.tup b),.pu o,.pu (.int k),.pu (.int i),.pu (.int j),.ow false l]) ->
   Ok (c5 9 fs) [.ow true [.int n],.pu lay,.pu t,.pu (.tup a),.pu (.tup b),.pu o,.pu (.int k),.pu (.int i),.pu (.int j),.ow false l] fun fl δ => fl = .nx ∧ ∃ l:List D,δ = [.ow true [.int n],.pu lay,.pu t,.pu (.tup a),.pu (.tup b),.pu o,.pu (.int k),.pu (.int i),.pu (.int j),.ow false l] ∧ l.length = N + 1 ∧ ∀ d ∈ l,pj d:= by
  intro N l fs d hl hN hd h2 hfs
  refine dX ⟨_,_,rfl⟩ (hfs.mono fun ds δ1 hq => ?_)
  obtain ⟨rfl,rfl⟩:=hq
  refine ⟨d,_,_,rfl,rfl,by omega,rfl,l ++ [d],rfl,by simp [hl],fun e he => ?_⟩
  rcases List.mem_append.mp he with he | he
  ·exact hd e he
  ·rw [List.mem_singleton.mp he]; exact h2
 have la6:=ca none (some k)
 have la7:=ca (some (k + 1)) none
 have lb6:=cb none (some k)
 have lb7:=cb (some (k + 1)) none
 have la1:=ca none (some 1)
 have lb1:=cb none (some 1)
 refine aI _ (app (.tup [.tup (cutD a none (some k) ++ [.int i] ++ cutD a (some (k + 1)) none),.tup b]) hl (by omega) hd (f6 (by simp only [List.length_append,List.length_singleton]; omega) (by omega)) (by simp [sl,k3,k5,ad])) ?_
 rintro _ ⟨l,rfl,hl,hd⟩
 refine aI _ (app (.tup [.tup a,.tup (cutD b none (some k) ++ [.int j] ++ cutD b (some (k + 1)) none)]) hl (by omega) hd (f6 (by omega) (by simp only [List.length_append,List.length_singleton]; omega)) (by simp [sl,k4,k6,ad])) ?_
 rintro _ ⟨l,rfl,hl,hd⟩
 refine aI _ (app (.tup [.tup (cutD a none (some k) ++ cutD a (some (k + 1)) none),.tup (cutD b none (some k) ++ cutD b (some (k + 1)) none)]) hl (by omega) hd (f6 (by simp only [List.length_append]; omega) (by simp only [List.length_append]; omega)) (by simp [sl,k1,k2,ad])) ?_
 rintro _ ⟨l,rfl,hl,hd⟩
 have gc:∀ x y:List D,x.length + y.length ≤ 100 -> j9 (.lst x) (.lst y) = some (x ++ y):=fun x y h => by
  simp [j9,vG]
  omega
 refine aI (fun δ => ∃ l:List D,δ = [.ow true [.int n],.pu lay,.pu t,.pu (.tup a),.pu (.tup b),.pu o,.pu (.int k),.pu (.int i),.pu (.int j),.ow false l] ∧ l.length = 12 ∧ ∀ d ∈ l,pj d) ?_ ?_
 ·have g:=gc l [.tup [.lst a,.tup b],.lst [.tup a,.tup b],.tup [.tup a,o],o,.tup [.tup a,.tup b,.tup []],.tup [.tup a,.tup a]] (by simp [hl])
  have all:∀ d ∈ [D.tup [.lst a,.tup b],.lst [.tup a,.tup b],.tup [.tup a,o],o,.tup [.tup a,.tup b,.tup []],.tup [.tup a,.tup a]],pj d:= by
   intro d hd
   simp only [List.mem_cons,List.not_mem_nil,or_false] at hd
   rcases hd with rfl | rfl | rfl | rfl | rfl | rfl
   ·exact sI (yH fun _ z => nomatch z) sb
   ·exact fun p c z => nomatch z
   ·exact sI sa so
   ·exact to
   ·exact fun p c z => by simp at z
   ·exact sI sa sa
  have len:(l ++ [D.tup [.lst a,.tup b],.lst [.tup a,.tup b],.tup [.tup a,o],o,.tup [.tup a,.tup b,.tup []],.tup [.tup a,.tup a]]).length = 12:=by simp [hl]
  have all2:∀ d ∈ l ++ [D.tup [.lst a,.tup b],.lst [.tup a,.tup b],.tup [.tup a,o],o,.tup [.tup a,.tup b,.tup []],.tup [.tup a,.tup a]],pj d:=fun e he => by
   rcases List.mem_append.mp he with he | he
   ·exact hd e he
   ·exact all e he
  generalize l ++ [D.tup [.lst a,.tup b],.lst [.tup a,.tup b],.tup [.tup a,o],o,.tup [.tup a,.tup b,.tup []],.tup [.tup a,.tup a]] = l2 at *
  simp [ls,g]
  exact ⟨len,all2⟩
 rintro _ ⟨l,rfl,hl,hd⟩
 refine aI _ (app (.tup [.tup (a ++ cutD a none (some 1)),.tup (b ++ cutD b none (some 1))]) hl (by omega) hd (f6 (by simp only [List.length_append]; omega) (by simp only [List.length_append]; omega)) (by simp [sl,k7,k8])) ?_
 rintro _ ⟨l,rfl,hl,hd⟩
 refine aI _ (app (.tup [.tup (cutD a none (some k) ++ [o] ++ cutD a (some (k + 1)) none),.tup b]) hl (by omega) hd (f6 (by simp only [List.length_append,List.length_singleton]; omega) (by omega)) (by simp [sl,k3,k5,ad])) ?_
 rintro _ ⟨l,rfl,hl,hd⟩
 have t4:=aH n 14 (by omega) (by omega)
 obtain ⟨d,hdl,ed⟩:=Eu (n:=n) hl (by omega)
 have ed:b_ (.lst l) (.int (n % 14)) = some d:=ed
 simp [-Prod.exists,t4]
 refine cC ed ?_
 exact ⟨_,rfl,hd d hdl,_,rfl⟩
end K43
namespace K43
open PySem L2 Jt
variable {hs:List (List Int)} {M:Nat}
def ext (n:Nat) (l:List Nat):Nat -> Nat:=fun a => if a < n then l.getD a 0 else n + a
theorem jc {n:Nat} {l:List Nat} {a:Nat} (h:a < n):ext n l a = l.getD a 0:=if_pos h
theorem xu {n:Nat} {l:List Nat} {a:Nat} (h:¬ a < n):ext n l a = n + a:=if_neg h
theorem vw (n:Nat):qk (ext n (List.range n)) []:=fun a b => by
 have e:∀ a,ext n (List.range n) a = if a < n then a else n + a:=fun a => by
  unfold ext
  split
  ·rename_i h; simp [h]
  ·rfl
 rw [e a,e b]
 constructor
 ·intro h
  have:a = b:= by
   split at h <;> split at h <;> omega
  rw [this]; exact .refl _
 ·intro h; rw [h.nil]
def chg (x y:Nat) (l:List Nat):List Nat:=l.map fun z => if z = x then y else z
theorem A4 {n:Nat} {l:List Nat} (hl:l.length = n) (hv:∀ x ∈ l,x < n) {u v:Nat} (hu:u < n) (hv2:v < n):ext n (chg (l.getD u 0) (l.getD v 0) l) = xi (ext n l) u v:= by
 have mem:∀ a,a < n -> l.getD a 0 ∈ l:=fun a ha => by
  have:a < l.length:=by omega
  simp only [List.getD_eq_getElem?_getD,List.getElem?_eq_getElem this,Option.getD_some]
  exact List.getElem_mem this
 funext a
 unfold xi
 rw [jc hu,jc hv2]
 by_cases ha:a < n
 ·rw [jc ha,jc ha]
  have:a < l.length:=by omega
  unfold chg
  simp [List.getD_eq_getElem?_getD,List.getElem?_eq_getElem this]
 ·rw [xu ha,xu ha,if_neg]
  have:=hv _ (mem u hu)
  omega
theorem D_ {n x y:Nat} {l:List Nat} (hv:∀ z ∈ l,z < n) (hy:y < n):∀ z ∈ chg x y l,z < n:=fun z hz => by
 obtain ⟨a,ha,rfl⟩:=List.mem_map.mp hz
 split
 ·exact hy
 ·exact hv a ha
theorem zj {E:List (Nat × Nat)} {u v a b:Nat}:fH ((v,u) :: E) a b ↔ fH ((u,v) :: E) a b:= by
 rw [l6,l6]
 constructor
 ·rintro (h | h | h)
  ·exact .inl h
  ·exact .inr (.inr h)
  ·exact .inr (.inl h)
 ·rintro (h | h | h)
  ·exact .inl h
  ·exact .inr (.inr h)
  ·exact .inr (.inl h)
theorem w9 {f:Nat -> Nat} {E:List (Nat × Nat)} {u v:Nat} (L:qk f ((v,u) :: E)):qk f ((u,v) :: E):=fun a b => (L a b).trans zj
def B2 (hs:List (List Int)) (i j:Nat):Prop:=∃ c ∈ G hs i,c ∈ G hs j
theorem lj {i j:Nat}:B2 hs i j ↔ dA hs i j ≠ []:= by
 unfold B2 dA
 constructor
 ·rintro ⟨c,h1,h2⟩ z
  have:c ∈ (G hs i).filter fun c => decide (c ∈ G hs j):=List.mem_filter.mpr ⟨h1,decide_eq_true h2⟩
  rw [z] at this
  cases this
 ·intro h
  obtain ⟨c,r,e⟩:=List.exists_cons_of_ne_nil h
  have:c ∈ (G hs i).filter fun c => decide (c ∈ G hs j):=by rw [e]; simp
  obtain ⟨h1,h2⟩:=List.mem_filter.mp this
  exact ⟨c,h1,of_decide_eq_true h2⟩
structure PI (hs:List (List Int)) (l:List Nat) (E:List (Nat × Nat)) (k m:Nat):Prop where
 len:l.length = hs.length
 lt:∀ x ∈ l,x < hs.length
 lab:qk (ext hs.length l) E
 ok:∀ e ∈ E,e.1 < hs.length ∧ e.2 < hs.length ∧ B2 hs e.1 e.2
 all:∀ i j,j < i -> (i < k ∨ (i = k ∧ j < m)) -> B2 hs i j -> (i,j) ∈ E
theorem PI.start:PI hs (List.range hs.length) [] 0 0:=⟨by simp,fun x hx => List.mem_range.mp hx,vw _,fun e he => (by cases he),fun i j _ h => (by omega)⟩
theorem PI.next {l:List Nat} {E:List (Nat × Nat)} {k:Nat} (P:PI hs l E k k):PI hs l E (k + 1) 0:=⟨P.len,P.lt,P.lab,P.ok,fun i j hj h => P.all i j hj (by omega)⟩
theorem PI.skip {l:List Nat} {E:List (Nat × Nat)} {k m:Nat} (P:PI hs l E k m) (h:¬ B2 hs k m):PI hs l E k (m + 1):=⟨P.len,P.lt,P.lab,P.ok,fun i j hj hq hs => by
 by_cases q:i = k ∧ j = m
 ·obtain ⟨rfl,rfl⟩:=q; exact absurd hs h
 ·exact P.all i j hj (by omega) hs⟩
theorem PI.mem {l:List Nat} {E:List (Nat × Nat)} {k m:Nat} (P:PI hs l E k m) {a:Nat} (ha:a < hs.length):l.getD a 0 ∈ l:= by
 have:a < l.length:=by rw [P.len]; exact ha
 simp only [List.getD_eq_getElem?_getD,List.getElem?_eq_getElem this,Option.getD_some]
 exact List.getElem_mem this
theorem PI.link {l:List Nat} {E:List (Nat × Nat)} {k m:Nat} (P:PI hs l E k m) (hk:k < hs.length) (hm:m < k) (h:B2 hs k m) {u v:Nat} (huv:(u = k ∧ v = m) ∨ (u = m ∧ v = k)):PI hs (chg (l.getD u 0) (l.getD v 0) l) ((k,m) :: E) k (m + 1):= by
 have hu:u < hs.length:=by omega
 have hv:v < hs.length:=by omega
 refine ⟨by unfold chg; rw [List.length_map]; exact P.len,D_ P.lt (P.lt _ (P.mem hv)),?_,fun e he => ?_,fun i j hj hq hs => ?_⟩
 ·rw [A4 P.len P.lt hu hv]
  have L:=pH P.lab u v
  rcases huv with ⟨rfl,rfl⟩ | ⟨rfl,rfl⟩
  ·exact L
  ·exact w9 L
 ·rcases List.mem_cons.mp he with rfl | he
  ·exact ⟨hk,by show m < _; omega,h⟩
  ·exact P.ok e he
 ·by_cases q:i = k ∧ j = m
  ·obtain ⟨rfl,rfl⟩:=q; exact List.mem_cons_self
  ·exact List.mem_cons_of_mem _ (P.all i j hj (by omega) hs)
theorem PI.tog {l:List Nat} {E:List (Nat × Nat)} {m:Nat} (P:PI hs l E hs.length m):vn (G hs) E hs.length:= by
 refine ⟨P.ok,fun i j hi hj hne ⟨c,h1,h2⟩ => ?_⟩
 by_cases q:j < i
 ·exact .inl (P.all i j q (.inl hi) ⟨c,h1,h2⟩)
 ·exact .inr (P.all j i (by omega) (.inl hj) ⟨c,h2,h1⟩)
theorem BX {n:Nat} {F:Nat -> List Int} {E E':List (Nat × Nat)} (T:vn F E n) (T':vn F E' n) {g g':Nat -> Nat} (L:qk g E) (L':qk g' E'):cls g (List.range n) = cls g' (List.range n):= by
 have one:∀ {E E':List (Nat × Nat)},vn F E n -> vn F E' n -> ∀ {a b},fH E a b -> fH E' a b:=fun {E E'} T T' {a b} h => by
  have ed:∀ x y,(x,y) ∈ E -> fH E' x y:=fun x y h => by
   obtain ⟨h1,h2,c,h3,h4⟩:=T.1 _ h
   exact uH T' h1 h2 h3 h4
  induction h with
  | refl => exact .refl _
  | step e _ ih =>
   rcases e with e | e
   ·exact (ed _ _ e).trans ih
   ·exact (ed _ _ e).symm.trans ih
 exact g9 fun a _ b _ => by
  rw [L a b,L' a b]
  exact ⟨one T T',one T' T⟩
def zZ (l:List Nat) (a b:Nat):List Nat:=chg (max (l.getD a 0) (l.getD b 0)) (min (l.getD a 0) (l.getD b 0)) l
theorem Dn (l:List Nat) (a b:Nat):zZ l a b = chg (l.getD a 0) (l.getD b 0) l ∨ zZ l a b = chg (l.getD b 0) (l.getD a 0) l:= by
 unfold zZ
 by_cases h:l.getD a 0 ≤ l.getD b 0
 ·right
  rw [Nat.max_eq_right h,Nat.min_eq_left h]
 ·left
  rw [Nat.max_eq_left (by omega),Nat.min_eq_right (by omega)]
theorem HH {l:List Nat} (h6:l.length ≤ 6) {a b:Nat} (ha:a < l.length) (hb:b < l.length):aW nX qR [.tup (lD l),.int (a:Int),.int (b:Int)] = some (.tup (lD (zZ l a b))):= by
 apply cu
 show Ok qR [.pu (.tup (lD l)),.pu (.int (a:Int)),.pu (.int (b:Int)),.un,.un] _
 unfold qR
 have xa:=kA ha
 have xb:=kA hb
 have mn:jG [.int ((l.getD a 0:Nat):Int),.int ((l.getD b 0:Nat):Int)] = some (.int ((min (l.getD a 0) (l.getD b 0):Nat):Int)):= by
  simp only [jG]
  congr 2
  omega
 have mx:lu [.int ((l.getD a 0:Nat):Int),.int ((l.getD b 0:Nat):Int)] = some (.int ((max (l.getD a 0) (l.getD b 0):Nat):Int)):= by
  simp only [lu]
  congr 2
  omega
 have si:aO (.tup (lD l)) = some (aR (l.map fun (i:Nat) => D.int (i:Int))):=rfl
 unfold zZ
 generalize min (l.getD a 0) (l.getD b 0) = mi at *
 generalize max (l.getD a 0) (l.getD b 0) = ma at *
 generalize ((l.getD a 0:Nat):Int) = ya at *
 generalize ((l.getD b 0:Nat):Int) = yb at *
 generalize D.tup (lD l) = ld at *
 refine aI (fun δ => δ = [.pu ld,.pu (.int (a:Int)),.pu (.int (b:Int)),.pu (.int (mi:Int)),.un]) (by simp [xa,xb,mn]) ?_
 rintro _ rfl
 refine aI (fun δ => δ = [.pu ld,.pu (.int (a:Int)),.pu (.int (b:Int)),.pu (.int (mi:Int)),.pu (.int (ma:Int))]) (by simp [xa,xb,mx]) ?_
 rintro _ rfl
 simp only [ar,eS,bC,au]
 refine a_ l (fun (i:Nat) => .int (i:Int)) (fun z => some (.int ((if z = ma then mi else z:Nat):Int))) rfl ?_ (by omega) (fun z _ => ?_) ?_
 ·simp [si]
 ·by_cases q:z = ma
  ·simp [f9,q]
  ·simp [f9,q]
 ·rw [List.filterMap_eq_map']
  simp [c8,chg,lD]
end K43
namespace K43
open PySem L2 Jt
variable {hs:List (List Int)} {M:Nat}
def Fx (n:Nat) (l:List Nat):Prop:=∀ a,a < n -> l.getD a 0 ≤ a ∧ l.getD (l.getD a 0) 0 = l.getD a 0
theorem yQ (n:Nat):Fx n (List.range n):=fun a ha => by simp [ha]
theorem pg {x y a:Nat} {l:List Nat} (ha:a < l.length):(chg x y l).getD a 0 = if l.getD a 0 = x then y else l.getD a 0:= by
 unfold chg
 simp [List.getD_eq_getElem?_getD,List.getElem?_eq_getElem ha]
theorem DV {n:Nat} {l:List Nat} (hl:l.length = n) (h:Fx n l) {u v:Nat} (hu:u < n) (hv:v < n):Fx n (zZ l u v):=fun a ha => by
 unfold zZ
 have h1:=h a ha
 have h2:=h u hu
 have h3:=h v hv
 have hm:min (l.getD u 0) (l.getD v 0) = l.getD u 0 ∨ min (l.getD u 0) (l.getD v 0) = l.getD v 0:=by omega
 have hmm:min (l.getD u 0) (l.getD v 0) ≤ max (l.getD u 0) (l.getD v 0):=by omega
 have hfix:l.getD (min (l.getD u 0) (l.getD v 0)) 0 = min (l.getD u 0) (l.getD v 0):= by
  rcases hm with e | e <;> rw [e]
  ·exact h2.2
  ·exact h3.2
 have hlt:min (l.getD u 0) (l.getD v 0) < n:=by omega
 generalize min (l.getD u 0) (l.getD v 0) = mi at *
 generalize max (l.getD u 0) (l.getD v 0) = ma at *
 rw [pg (by omega:a < l.length)]
 by_cases q:l.getD a 0 = ma
 ·rw [if_pos q]
  refine ⟨by omega,?_⟩
  rw [pg (by omega),hfix]
  split
  ·rfl
  ·rfl
 ·rw [if_neg q]
  refine ⟨h1.1,?_⟩
  rw [pg (by omega),h1.2,if_neg q]
theorem yY {n:Nat} {l:List Nat} (hl:l.length = n) (h:Fx n l):((List.range n).filter fun a => decide (l.getD a 0 = a)).length = cls (ext n l) (List.range n):= by
 unfold cls
 refine List.Perm.length_eq ((List.perm_ext_iff_of_nodup (List.nodup_range.filter _) (kB _)).mpr fun x => ?_)
 rw [List.mem_filter,List.mem_range,decide_eq_true_eq,d6,List.mem_map]
 constructor
 ·rintro ⟨h1,h2⟩
  exact ⟨x,List.mem_range.mpr h1,by rw [jc h1]; exact h2⟩
 ·rintro ⟨a,ha,rfl⟩
  have ha:=List.mem_range.mp ha
  rw [jc ha]
  have:=h a ha
  exact ⟨by omega,this.2⟩
theorem take_range {n k:Nat} (h:k ≤ n):(List.range n).take k = List.range k:= by
 rw [List.take_range,Nat.min_eq_left h]
theorem GG (hS:Sm hs):∃ Ls,fY kE rX [bw M hs] = some Ls ∧ ∃ E g,vn (G hs) E hs.length ∧ qk g E ∧ Ls.length = cls g (List.range hs.length):= by
 apply uX
 show Ok rX [.pu (bw M hs),.un,.un,.un,.un] _
 unfold rX
 have h6:=hS.n
 have e1:=cY (M:Int) hs
 have e2:=fw hs
 have ec:=fun {a b:Nat} (ha:a < hs.length) (hb:b < hs.length) => CU (hs:=hs) (M:Int) hS.h ha hb
 generalize bw (M:Int) hs = lay at *
 have dr:nI [.int (hs.length:Int)] = some (lD (List.range hs.length)):= by
  rw [<- ja]
  simp [nI]
  omega
 have si:∀ ls:List Nat,aO (.lst (lD ls)) = some (aR (lD ls)):=fun _ => rfl
 have dt:cN [.lst (lD (List.range hs.length))] = some (.tup (lD (List.range hs.length))):=rfl
 have sl:∀ k,k ≤ hs.length -> Aw (.lst (lD (List.range hs.length))) none (some (k:Int)) = some (.lst (lD (List.range k))):=fun k hk => by
  show some (D.lst (cutD _ _ _)) = _
  rw [wz,Bb,take_range hk]
 refine aI (fun δ => δ = [.pu lay,.pu (.lst (lD (List.range hs.length))),.un,.un,.un]) (by simp [e1,e2,dr]) ?_
 rintro _ rfl
 refine aI (fun δ => δ = [.pu lay,.pu (.lst (lD (List.range hs.length))),.pu (.tup (lD (List.range hs.length))),.un,.un]) ?_ ?_
 ·generalize D.tup (lD (List.range hs.length)) = tt at *
  generalize D.lst (lD (List.range hs.length)) = nums at *
  simp [dt]
 rintro _ rfl
 rw [cM]
 refine fO (lD (List.range hs.length)) (fun k δ => ∃ (l:List Nat) (E:List (Nat × Nat)) (a3 a4:Jt.Slot),δ = [.pu lay,.pu (.lst (lD (List.range hs.length))),.pu (.tup (lD l)),a3,a4] ∧ PI hs l E k 0 ∧ Fx hs.length l) ?_ ⟨_,_,_,_,rfl,PI.start,yQ _⟩ ?_ ?_
 ·have:=si (List.range hs.length)
  generalize D.lst (lD (List.range hs.length)) = nums at *
  simp [this]
 ·rintro k hk _ ⟨l,E,a3,a4,rfl,P,hx⟩
  have hk2:k < hs.length:=by simpa [lD] using hk
  have itm:(lD (List.range hs.length))[k] = .int (k:Int):=by simp [lD]
  rw [itm]
  simp only [bF,List.length_cons,List.length_nil,List.set_cons_succ,List.set_cons_zero]
  refine ⟨by omega,?_⟩
  refine fO (lD (List.range k)) (fun m δ => ∃ (l:List Nat) (E:List (Nat × Nat)) (a4:Jt.Slot),δ = [.pu lay,.pu (.lst (lD (List.range hs.length))),.pu (.tup (lD l)),.pu (.int (k:Int)),a4] ∧ PI hs l E k m ∧ Fx hs.length l) ?_ ⟨l,E,a4,rfl,P,hx⟩ ?_ ?_
  ·have s1:=sl k (by omega)
   have s2:=si (List.range k)
   generalize D.lst (lD (List.range hs.length)) = nums at *
   generalize D.lst (lD (List.range k)) = numk at *
   simp [s1,s2]
  ·rintro m hm _ ⟨l,E,a4,rfl,P,hx⟩
   have hm2:m < k:=by simpa [lD] using hm
   have itm:(lD (List.range k))[m] = .int (m:Int):=by simp [lD]
   rw [itm]
   simp only [bF,List.length_cons,List.length_nil,List.set_cons_succ,List.set_cons_zero]
   refine ⟨by omega,?_⟩
   have hm3:m < hs.length:=by omega
   have ecc:=ec hk2 hm3
   have ml:=HH (l:=l) (by rw [P.len]; exact h6) (a:=k) (b:=m) (by rw [P.len]; exact hk2) (by rw [P.len]; exact hm3)
   have tr:cx (hD (dA hs k m)) = some (!((dA hs k m).map D.int).isEmpty):=rfl
   by_cases q:B2 hs k m
   ·have hne:((dA hs k m).map D.int).isEmpty = false:= by
     cases z:dA hs k m with
     | nil => exact absurd z (lj.mp q)
     | cons => rfl
    rw [hne] at tr
    generalize hD (dA hs k m) = bd at *
    generalize D.lst (lD (List.range hs.length)) = nums at *
    refine gP (fun b δ => b = true ∧ δ = [.pu lay,.pu nums,.pu (.tup (lD l)),.pu (.int (k:Int)),.pu (.int (m:Int))]) ?_ ?_ (fun _ h => by cases h.1)
    ·simp [aE,ecc,tr]
    ·rintro _ ⟨_,rfl⟩
     refine (show Ok _ _ fun fl δ => fl = .nx ∧ δ = [.pu lay,.pu nums,.pu (.tup (lD (zZ l k m))),.pu (.int (k:Int)),.pu (.int (m:Int))] by
      generalize D.tup (lD (zZ l k m)) = t2 at *
      generalize D.tup (lD l) = t1 at *
      simp [aE,ml]).mono fun fl δ hq => ?_
     obtain ⟨rfl,rfl⟩:=hq
     refine ⟨zZ l k m,(k,m) :: E,_,rfl,?_,DV P.len hx hk2 hm3⟩
     rcases Dn l k m with e | e <;> rw [e]
     ·exact P.link hk2 hm2 q (.inl ⟨rfl,rfl⟩)
     ·exact P.link hk2 hm2 q (.inr ⟨rfl,rfl⟩)
   ·have hne:((dA hs k m).map D.int).isEmpty = true:= by
     cases z:dA hs k m with
     | nil => rfl
     | cons x r => exact absurd (lj.mpr (by rw [z]; simp)) q
    rw [hne] at tr
    generalize hD (dA hs k m) = bd at *
    generalize D.lst (lD (List.range hs.length)) = nums at *
    refine gP (fun b δ => b = false ∧ δ = [.pu lay,.pu nums,.pu (.tup (lD l)),.pu (.int (k:Int)),.pu (.int (m:Int))]) ?_ (fun _ h => by cases h.1) ?_
    ·simp [aE,ecc,tr]
    ·rintro _ ⟨_,rfl⟩
     exact au.mpr ⟨l,E,_,rfl,P.skip q,hx⟩
  ·rintro _ ⟨l,E,a4,rfl,P,hx⟩
   have:(lD (List.range k)).length = k:=by simp [lD]
   rw [this] at P
   exact ⟨l,E,_,_,rfl,P.next,hx⟩
 ·rintro _ ⟨l,E,a3,a4,rfl,P,hx⟩
  have:(lD (List.range hs.length)).length = hs.length:=by simp [lD]
  rw [this] at P
  have gx:∀ a,a < hs.length -> b_ (.tup (lD l)) (.int (a:Int)) = some (.int ((l.getD a 0:Nat):Int)):=fun a ha => kA (by rw [P.len]; exact ha)
  have sn:=si (List.range hs.length)
  have ln:lD (List.range hs.length) = (List.range hs.length).map fun (i:Nat) => D.int (i:Int):=rfl
  rw [ln] at sn
  generalize D.tup (lD l) = tl at *
  simp only [ar,au]
  refine a_ (List.range hs.length) (fun (i:Nat) => .int (i:Int)) (fun a => if decide (l.getD a 0 = a) = true then some (.tup (lD ((List.range hs.length).filter fun b => decide (l.getD b 0 = a)))) else none) rfl ?_ (by simp; omega) (fun a ha => ?_) ?_
  ·rw [ln]
   generalize D.lst ((List.range hs.length).map fun (i:Nat) => D.int (i:Int)) = nums at *
   simp [sn]
  ·have ha:=List.mem_range.mp ha
   have ga:=gx a ha
   have eq:=f9 false (l.getD a 0) a
   simp only [dG,bF,List.replicate,List.cons_append,List.nil_append,List.length_cons,List.length_nil,List.set_cons_succ,List.set_cons_zero]
   refine ⟨by omega,?_⟩
   rw [ar]
   refine (show Ok _ _ fun d δ => d = .bl (decide (l.getD a 0 = a)) ∧ δ = [.pu lay,.pu (.lst (lD (List.range hs.length))),.pu tl,a3,a4,.pu (.int (a:Int))] by
    generalize decide (l.getD a 0 = a) = db at *
    generalize ((l.getD a 0:Nat):Int) = la at *
    generalize D.lst (lD (List.range hs.length)) = nums at *
    simp [ga,eq]).mono fun d δ hq => ?_
   obtain ⟨rfl,rfl⟩:=hq
   rw [fJ]
   refine ⟨_,rfl,?_⟩
   by_cases q:l.getD a 0 = a
   ·rw [decide_eq_true q]
    simp only [if_true,eS,bC,ar,au]
    refine a_ (List.range hs.length) (fun (i:Nat) => .int (i:Int)) (fun b => if decide (l.getD b 0 = a) = true then some (.int (b:Int)) else none) rfl ?_ (by simp; omega) (fun b hb => ?_) ?_
    ·rw [ln]
     generalize D.lst ((List.range hs.length).map fun (i:Nat) => D.int (i:Int)) = nums at *
     simp [sn]
    ·have hb:=List.mem_range.mp hb
     have gb:=gx b hb
     have eq:=f9 false (l.getD b 0) a
     generalize D.lst (lD (List.range hs.length)) = nums at *
     cases q2:decide (l.getD b 0 = a) with
     | true => rw [q2] at eq; generalize ((l.getD b 0:Nat):Int) = lb at *; simp [gb,eq]
     | false => rw [q2] at eq; generalize ((l.getD b 0:Nat):Int) = lb at *; simp [gb,eq]
    ·rw [aY]
     simp [c8,lD]
   ·rw [decide_eq_false q]
    simp
  ·rw [aY]
   refine ⟨_,rfl,E,ext hs.length l,P.tog,P.lab,?_⟩
   rw [List.length_map]
   exact yY P.len hx
theorem Ea:∀ l:List Nat,(i4 (l.map fun (i:Nat) => (i:Int))).length = (uq l).length:=fun l => by
 have p:(i4 (l.map fun (i:Nat) => (i:Int))).Perm ((uq l).map fun (i:Nat) => (i:Int)):= by
  refine (List.perm_ext_iff_of_nodup (dQ _) (gU.mpr (kB l))).mpr fun x => ?_
  rw [dI,List.mem_map,List.mem_map]
  constructor
  ·rintro ⟨a,ha,rfl⟩; exact ⟨a,d6.mpr ha,rfl⟩
  ·rintro ⟨a,ha,rfl⟩; exact ⟨a,d6.mp ha,rfl⟩
 have:=p.length_eq
 rw [List.length_map] at this
 exact this
theorem BZ {n:Nat} {l:List Nat} (hl:l.length = n):(List.range n).map (ext n l) = l:= by
 refine List.ext_getElem? fun k => ?_
 by_cases hk:k < n
 ·have:k < l.length:=by omega
  rw [List.getElem?_map,List.getElem?_range hk,List.getElem?_eq_getElem this]
  show some (ext n l k) = _
  rw [jc hk]
  simp [this]
 ·rw [List.getElem?_eq_none (by simp; omega),List.getElem?_eq_none (by omega)]
theorem pL (hS:Sm hs):∃ d,aW rN xp [.tup (hs.map hD)] = some d ∧ ∃ E g,vn (G hs) E hs.length ∧ qk g E ∧ d = .int (cls g (List.range hs.length):Int):= by
 apply pw
 show Ok xp [.pu (.tup (hs.map hD)),.un,.un,.un] _
 unfold xp
 have h6:=hS.n
 have e2:=fw hs
 have dr:nI [.int (hs.length:Int)] = some (lD (List.range hs.length)):= by
  rw [<- ja]
  simp [nI]
  omega
 have gh:∀ i,i < hs.length -> b_ (.tup (hs.map hD)) (.int (i:Int)) = some (hD (G hs i)):=fun i hi => gy hi
 generalize D.tup (hs.map hD) = hd at *
 refine aI (fun δ => δ = [.pu hd,.pu (.lst (lD (List.range hs.length))),.un,.un]) (by simp [e2,dr]) ?_
 rintro _ rfl
 rw [cM]
 have sm:∀ k:Nat,k ≤ 6 -> bz (k:Int) = true:=fun k hk => by simp [bz]; omega
 refine fO (lD (List.range hs.length)) (fun k δ => ∃ (l:List Nat) (E:List (Nat × Nat)) (a2 a3:Jt.Slot),δ = [.pu hd,.pu (.lst (lD l)),a2,a3] ∧ PI hs l E k 0) ?_ ⟨_,_,_,_,rfl,PI.start⟩ ?_ ?_
 ·have:=sm hs.length h6
  simp [e2,cF,this,ja]
 ·rintro k hk _ ⟨l,E,a2,a3,rfl,P⟩
  have hk2:k < hs.length:=by simpa [lD] using hk
  have itm:(lD (List.range hs.length))[k] = .int (k:Int):=by simp [lD]
  rw [itm]
  simp only [bF,List.length_cons,List.length_nil,List.set_cons_succ,List.set_cons_zero]
  refine ⟨by omega,?_⟩
  refine fO (lD (List.range k)) (fun m δ => ∃ (l:List Nat) (E:List (Nat × Nat)) (a3:Jt.Slot),δ = [.pu hd,.pu (.lst (lD l)),.pu (.int (k:Int)),a3] ∧ PI hs l E k m) ?_ ⟨l,E,a3,rfl,P⟩ ?_ ?_
  ·have:=sm k (by omega)
   simp [cF,this,ja]
  ·rintro m hm _ ⟨l,E,a3,rfl,P⟩
   have hm2:m < k:=by simpa [lD] using hm
   have itm:(lD (List.range k))[m] = .int (m:Int):=by simp [lD]
   rw [itm]
   simp only [bF,List.length_cons,List.length_nil,List.set_cons_succ,List.set_cons_zero]
   refine ⟨by omega,?_⟩
   have hm3:m < hs.length:=by omega
   have g1:=gh k hk2
   have g2:=gh m hm3
   have l7:(G hs k).length ≤ 7:= by
    have:G hs k = hs[k]:=by simp [G,hk2]
    rw [this]; exact hS.h _ (List.getElem_mem hk2)
   have dn:=de true ((dA hs k m).map D.int)
   have sk:aO (hD (G hs k)) = some (aR ((G hs k).map .int)):=rfl
   refine gP (fun b δ => b = (!((dA hs k m).map D.int).isEmpty) ∧ δ = [.pu hd,.pu (.lst (lD l)),.pu (.int (k:Int)),.pu (.int (m:Int))]) ?_ ?_ ?_
   ·simp only [ar,eW,au]
    refine a_ (G hs k) .int (fun c => if decide (c ∈ G hs m) = true then some (.int c) else none) rfl ?_ (by omega) (fun c _ => ?_) ?_
    ·generalize hD (G hs k) = gk at *
     simp [g1,sk]
    ·have di:=gJ false c (G hs m)
     generalize hD (G hs m) = gm at *
     by_cases q:c ∈ G hs m
     ·rw [decide_eq_true q] at di; simp [g2,di,q]
     ·rw [decide_eq_false q] at di; simp [g2,di,q]
    ·rw [aY]
     show Ok _ _ _
     unfold dA at dn ⊢
     generalize ((G hs k).filter fun c => decide (c ∈ G hs m)).map D.int = zs at *
     generalize zs.isEmpty = zb at *
     simp [dn]
   ·rintro _ ⟨hb,rfl⟩
    have q:B2 hs k m:=lj.mpr fun z => by rw [z] at hb; cases hb
    have ll:l.length = hs.length:=P.len
    have xk:=kA (H:=l) (k:=k) (by omega)
    have xm:=kA (H:=l) (k:=m) (by omega)
    have xk:b_ (.lst (lD l)) (.int (k:Int)) = some (.int ((l.getD k 0:Nat):Int)):=xk
    have xm:b_ (.lst (lD l)) (.int (m:Int)) = some (.int ((l.getD m 0:Nat):Int)):=xm
    have sl:aO (.lst (lD l)) = some (aR (l.map fun (i:Nat) => D.int (i:Int))):=rfl
    refine (show Ok _ _ fun fl δ => fl = .nx ∧ δ = [.pu hd,.pu (.lst (lD (chg (l.getD m 0) (l.getD k 0) l))),.pu (.int (k:Int)),.pu (.int (m:Int))] from ?_).mono fun fl δ hq => ?_
    ·generalize l.getD m 0 = lm at *
     generalize l.getD k 0 = lk at *
     generalize D.lst (lD l) = ld at *
     simp only [dR,ar,au]
     refine a_ l (fun (i:Nat) => .int (i:Int)) (fun z => some (.int ((if z = lm then lk else z:Nat):Int))) rfl ?_ (by omega) (fun z _ => ?_) ?_
     ·simp [sl]
     ·have eq:=f9 false z lm
      by_cases w:z = lm
      ·rw [decide_eq_true w] at eq
       rw [if_pos w]
       simp [xk,xm,eq,ju,rT]
      ·rw [decide_eq_false w] at eq
       rw [if_neg w]
       simp [xk,xm,eq,ju,qD]
     ·rw [List.filterMap_eq_map']
      simp [chg,lD]
    ·obtain ⟨rfl,rfl⟩:=hq
     exact ⟨_,(k,m) :: E,_,rfl,P.link hk2 hm2 q (.inr ⟨rfl,rfl⟩)⟩
   ·rintro _ ⟨hb,rfl⟩
    have q:¬ B2 hs k m:=fun z => by
     cases w:dA hs k m with
     | nil => exact lj.mp z w
     | cons x r => rw [w] at hb; cases hb
    exact au.mpr ⟨l,E,_,rfl,P.skip q⟩
  ·rintro _ ⟨l,E,a3,rfl,P⟩
   have:(lD (List.range k)).length = k:=by simp [lD]
   rw [this] at P
   exact ⟨l,E,_,_,rfl,P.next⟩
 ·rintro _ ⟨l,E,a2,a3,rfl,P⟩
  have:(lD (List.range hs.length)).length = hs.length:=by simp [lD]
  rw [this] at P
  have hset:eO (lD l) = some (.int ((i4 (l.map fun (i:Nat) => (i:Int))).length:Int)):= by
   unfold eO
   rw [fU]
   have:=P.len
   simp
   omega
  have sd:fS (.lst (lD l)) = some (lD l):=rfl
  generalize D.lst (lD l) = ld at *
  have hc:(i4 (l.map fun (i:Nat) => (i:Int))).length = cls (ext hs.length l) (List.range hs.length):= by
   rw [Ea]
   unfold cls
   rw [BZ P.len]
  rw [hc] at hset
  have tg:=P.tog
  have lb:=P.lab
  simp only [ar,za,bG,au]
  refine ⟨ld,rfl,cC sd (cC hset ⟨_,rfl,E,_,tg,lb,rfl⟩)⟩
end K43
namespace K43
open PySem L2 Jt
variable {hs:List (List Int)} {M:Nat}
theorem IW (h6:hs.length ≤ 6) (hM:M ≤ 7):aW vB yu [bw M hs] = some (.tup (lD (fQ M hs))):= by
 apply cu
 show Ok yu [.pu (bw M hs)] _
 unfold yu
 have e0:=ik (M:Int) hs
 have eh:=fun c hc => Dm (hs:=hs) (M:=M) h6 c hc
 generalize bw (M:Int) hs = lay at *
 have sM:bz M = true:=by simp [bz]; omega
 simp only [ar,eS,bC,au]
 refine a_ (List.range M) (fun (i:Nat) => .int (i:Int)) (fun c => if (hs.any fun h => decide ((c:Int) ∈ h)) = true then some (.int (c:Int)) else none) rfl ?_ (by simp; omega) (fun c hc => ?_) ?_
 ·simp [e0,cF,sM,bP]
 ·have e:=eh c (List.mem_range.mp hc)
  have ag:=HS (hs:=hs) (c:Int)
  have tr:cx (.tup (lD ((List.range hs.length).filter fun i => decide ((c:Int) ∈ G hs i)))) = some (hs.any fun h => decide ((c:Int) ∈ h)):= by
   show some (!(lD _).isEmpty) = _
   have:(lD ((List.range hs.length).filter fun i => decide ((c:Int) ∈ G hs i))).isEmpty = ((List.range hs.length).filter fun i => decide ((c:Int) ∈ G hs i)).isEmpty:= by
    unfold lD; rw [List.isEmpty_map]
   rw [this,ag]
   simp
  generalize D.tup (lD ((List.range hs.length).filter fun i => decide ((c:Int) ∈ G hs i))) = td at *
  cases q:hs.any fun h => decide ((c:Int) ∈ h) <;> rw [q] at tr <;> simp [aE,e,tr]
 ·rw [aY]
  simp [c8,fQ,lD]
def places (hs:List (List Int)):Int:=(hs.map fun h => (h.length:Int)).sum
theorem mB (hS:Sm hs):vU [.lst ((hs.map fun h => (h.length:Int)).map .int)] = some (.int (places hs)):= by
 show (dC _).bind _ = _
 rw [eE]
 simp only [Option.bind_some]
 rw [if_pos]
 ·rfl
 ·have:=hS.n
  simp only [pz,Bool.and_eq_true,decide_eq_true_eq,List.all_eq_true,List.length_map]
  refine ⟨by omega,fun i hi => ?_⟩
  obtain ⟨h,hh,rfl⟩:=List.mem_map.mp hi
  have:=hS.h h hh
  omega
theorem ra:∀ l:List Nat,((l.map fun (i:Nat) => (i:Int)).sum:Int) = ((l.sum:Nat):Int)
 | [] => rfl
 | x :: r => by
  rw [List.map_cons,List.sum_cons,List.sum_cons,ra r]
  omega
theorem vd:(List.range hs.length).map (G hs) = hs:= by
 refine List.ext_getElem? fun k => ?_
 by_cases hk:k < hs.length
 ·rw [List.getElem?_map,List.getElem?_range hk,List.getElem?_eq_getElem hk]
  show some (G hs k) = _
  simp [G,hk]
 ·rw [List.getElem?_eq_none (by simp; omega),List.getElem?_eq_none (by omega)]
theorem places_eq:places hs = ((((List.range hs.length).map fun i => (G hs i).length).sum:Nat):Int):= by
 unfold places
 rw [<- ra,List.map_map]
 congr 1
 have:(List.range hs.length).map ((fun (i:Nat) => (i:Int)) ∘ fun i => (G hs i).length) = ((List.range hs.length).map (G hs)).map fun h => (h.length:Int):= by
  rw [List.map_map]; rfl
 rw [this,vd]
theorem Bh:jb (G hs) hs.length M = fQ M hs:= by
 unfold jb fQ
 refine List.filter_congr fun c _ => ?_
 have:hs.any (fun h => decide ((c:Int) ∈ h)) = ((List.range hs.length).map (G hs)).any fun h => decide ((c:Int) ∈ h):=by rw [vd]
 rw [this,List.any_map]
 rfl
theorem Hs (hS:Sm hs) (hM:M ≤ 7):∃ E g,vn (G hs) E hs.length ∧ qk g E ∧ aW nZ rG [bw M hs] = some (.tup [.int ((fQ M hs).length:Int),.int (hs.length:Int),.int (places hs),.int (cls g (List.range hs.length):Int)]):= by
 obtain ⟨Ls,ep,E,g,T,L,hl⟩:=GG (M:=M) hS
 refine ⟨E,g,T,L,?_⟩
 rw [<- hl]
 apply cu
 show Ok rG [.pu (bw M hs),.un] _
 unfold rG
 have h6:=hS.n
 have e1:=cY (M:Int) hs
 have e2:=fw hs
 have ec:=IW (hs:=hs) (M:=M) h6 hM
 have l1:aZ [.tup (lD (fQ M hs))] = some (.int ((fQ M hs).length:Int)):=by simp [aZ,lD]
 have l2:aZ [.lst Ls] = some (.int (Ls.length:Int)):=rfl
 have ds:=mB hS
 have si:aO (.tup (hs.map hD)) = some (aR (hs.map hD)):=rfl
 generalize bw (M:Int) hs = lay at *
 generalize places hs = pl at *
 generalize D.tup (lD (fQ M hs)) = md at *
 refine aI (fun δ => δ = [.pu lay,.pu (.tup (hs.map hD))]) (by simp [e1]) ?_
 rintro _ rfl
 simp only [ar,uV,bC,eS,bG,au]
 refine ⟨lay,rfl,?_⟩
 refine cC (a:=md) (by simp [aE,ec]) (cC l1 ⟨_,rfl,cC e2 ?_⟩)
 refine a_ hs hD (fun h => some (.int (h.length:Int))) rfl ?_ (by omega) (fun h _ => ?_) ?_
 ·generalize D.tup (hs.map hD) = hd at *
  simp [si]
 ·have:aZ [hD h] = some (.int (h.length:Int)):=by simp [aZ,hD]
  generalize hD h = hh at *
  simp [this]
 ·rw [List.filterMap_eq_map']
  have e:(hs.map fun h => D.int (h.length:Int)) = (hs.map fun h => (h.length:Int)).map .int:=by rw [List.map_map]; rfl
  have e':hs.map ((fun h => D.int (h.length:Int))) = (hs.map fun h => (h.length:Int)).map .int:=e
  rw [e']
  refine cC ds ⟨lay,rfl,?_⟩
  refine cC (a:=Ls) (by simp [aE,ep]) (cC l2 ?_)
  simp
def wD:Option (List Nat × List Int) -> D
 | none => .non
 | some (H,C) => .tup [.tup (lD H),hD C]
theorem BC (xs:List D) {d:D} (h:xs[xs.length - 1]? = some d):ji xs (-1) = some d:= by
 have hp:xs.length - 1 < xs.length:=(List.getElem?_eq_some_iff.mp h).1
 unfold ji sY
 rw [if_neg (by omega),if_pos (by omega)]
 have:(-1 + (xs.length:Int)).toNat = xs.length - 1:=by omega
 simp only [Option.bind_some,this]
 exact h
theorem qV {H:List Nat} (h:H ≠ []):b_ (.tup (lD H)) (.int (-1)) = some (.int ((cq H:Nat):Int)):= by
 have hp:H.length - 1 < H.length:=by have:=List.length_pos_iff.mpr h; omega
 refine BC _ ?_
 rw [c7]
 unfold lD cq
 simp [hp]
theorem wX (H:List Nat) (i:Nat):(H.map fun (i:Nat) => (i:Int)).idxOf (i:Int) = H.idxOf i:= by
 induction H with
 | nil => rfl
 | cons x r ih =>
  rw [List.map_cons,List.idxOf_cons,List.idxOf_cons,ih]
  have:((x:Int) == (i:Int)) = (x == i):= by
   rw [Bool.eq_iff_iff,beq_iff_eq,beq_iff_eq]; omega
  rw [this]
theorem vR {H:List Nat} {i:Nat} (h:i ∈ H):su (.tup (lD H)) [.int (i:Int)] = some (.int ((H.idxOf i:Nat):Int)):= by
 show (dC (lD H)).bind _ = _
 rw [fU]
 simp only [Option.bind_some]
 rw [if_pos (List.mem_map.mpr ⟨i,h,rfl⟩),wX]
theorem Gd (H:List Nat) (p:Nat):Aw (.tup (lD H)) (some (p:Int)) none = some (.tup (lD (H.drop p))):= by
 show some (D.tup (cutD _ _ _)) = _
 rw [ku]
 unfold lD
 rw [List.map_drop]
theorem Gn (C:List Int) (p:Nat):Aw (hD C) (some (p:Int)) none = some (hD (C.drop p)):= by
 show some (D.tup (cutD _ _ _)) = _
 rw [ku]
 unfold hD
 rw [List.map_drop]
theorem wb {rec:List D -> Option D} {lf:List Nat -> List Int -> Option (List Nat × List Int)} {lay:D} {H:List Nat} {C:List Int} {i:Nat} (hne:H ≠ []) (h6:H.length ≤ 6) (hr:i ∉ H -> rec [lay,.tup (lD (H ++ [i])),hD C] = some (wD (lf (H ++ [i]) C))) :
  aW qx (oJ rec) [lay,.tup (lD H),hD C,.int (i:Int)] = some (wD (vt lf H C i)):= by
 apply cu
 show Ok (oJ rec) [.pu lay,.pu (.tup (lD H)),.pu (hD C),.pu (.int (i:Int)),.un] _
 unfold oJ vt
 have xl:=qV hne
 have eq:=f9 false i (cq H)
 have nn:jN (.int 1) = some (.int (-1)):=by simp [jN]
 have di:jR false (.int (i:Int)) (.tup (lD H)) = some (.bl (decide (i ∈ H))):=yt false i H
 have cc:b4 (.tup (lD H)) (.tup [.int (i:Int)]) = some (.tup (lD (H ++ [i]))):= by
  refine (if_pos (by simp [lD]; omega)).trans ?_
  simp [lD]
 have dx:=fun h => vR (H:=H) (i:=i) h
 have s1:=Gd H (H.idxOf i)
 have s2:=Gn C (H.idxOf i)
 generalize ((cq H:Nat):Int) = la at *
 refine bW (decide (i = cq H)) ?_ (fun q => ?_) (fun q => ?_)
 ·generalize decide (i = cq H) = qb at *
  generalize D.tup (lD H) = hd at *
  generalize hD C = cd at *
  simp [nn,xl,eq]
 ·rw [if_pos (of_decide_eq_true q)]
  simp [wD]
 rw [if_neg (of_decide_eq_false q)]
 by_cases hm:i ∈ H
 ·have dx:=dx hm
  rw [decide_eq_true hm] at di
  rw [if_pos hm]
  have ew:wD (some (H.drop (H.idxOf i),C.drop (H.idxOf i))) = .tup [.tup (lD (H.drop (H.idxOf i))),hD (C.drop (H.idxOf i))]:=rfl
  rw [ew]
  generalize D.tup (lD (H.drop (H.idxOf i))) = hd' at *
  generalize hD (C.drop (H.idxOf i)) = cd' at *
  generalize D.tup (lD H) = hd at *
  generalize hD C = cd at *
  generalize ((H.idxOf i:Nat):Int) = pp at *
  rw [cM]
  refine gP (fun b δ => b = true ∧ δ = [.pu lay,.pu hd,.pu cd,.pu (.int (i:Int)),.un]) ?_ ?_ (fun _ h => by cases h.1)
  ·simp [di]
  ·rintro _ ⟨_,rfl⟩
   refine aI (fun δ => δ = [.pu lay,.pu hd,.pu cd,.pu (.int (i:Int)),.pu (.int pp)]) (by simp [FT,dx]) ?_
   rintro _ rfl
   simp [s1,s2]
 ·have hr:=hr hm
  rw [decide_eq_false hm] at di
  rw [if_neg hm]
  generalize D.tup (lD (H ++ [i])) = hd' at *
  generalize D.tup (lD H) = hd at *
  generalize hD C = cd at *
  generalize wD (lf (H ++ [i]) C) = wr at *
  refine bW false ?_ (fun h => by cases h) (fun _ => ?_)
  ·simp [di]
  ·simp [cc,aE,hr]
theorem uA {α β:Type} (f:α -> Option β) (L:List α) (k:Nat) (hk:k < L.length) (h0:∀ x ∈ L.take k,f x = none) {r:β} (hr:f L[k] = some r):L.findSome? f = some r:= by
 have e:L = L.take k ++ L[k] :: L.drop (k + 1):=by rw [<- List.drop_eq_getElem_cons hk,List.take_append_drop]
 generalize L[k] = x at *
 rw [e,List.findSome?_append]
 have:(L.take k).findSome? f = none:=List.findSome?_eq_none_iff.mpr h0
 rw [this]
 simp [hr]
theorem kK (hS:Sm hs) (hF:∀ i,∀ c ∈ G hs i,0 ≤ c ∧ c < (M:Int)):∀ (f:Nat) (H:List Nat) (C:List Int),Pa (G hs) hs.length H C -> hs.length - H.length < f -> iq f [bw M hs,.tup (lD H),hD C] = some (wD (cW (G hs) hs.length f H C))
 | 0,H,C,_,hlt => by omega
 | f + 1,H,C,P,hlt => by
  have ih:=kK hS hF f
  have h6:=hS.n
  have hH:H.length ≤ hs.length:=kh hs.length H P.nH P.lt
  have hl:=P.len
  have hne:H ≠ []:=fun z => by rw [z] at hl; simp at hl
  have hla:cq H < hs.length:=P.lt _ (by
   unfold cq
   have:H.length - 1 < H.length:=by omega
   simp only [List.getD_eq_getElem?_getD,List.getElem?_eq_getElem this,Option.getD_some]
   exact List.getElem_mem this)
  show aW uM (qs (iq f)) _ = _
  apply cu
  show Ok (qs (iq f)) [.pu (bw M hs),.pu (.tup (lD H)),.pu (hD C),.un,.un,.un] _
  unfold qs
  have e1:=cY (M:Int) hs
  have xl:=qV hne
  have nn:jN (.int 1) = some (.int (-1)):=by simp [jN]
  have gl:=gy hla
  have sg:aO (hD (G hs (cq H))) = some (aR ((G hs (cq H)).map .int)):=rfl
  have eh:=fun c hc => Dm (hs:=hs) (M:=M) h6 c hc
  have by_:∀ (c:Int) (i:Nat),c ∉ C -> c ∈ G hs (cq H) -> i < hs.length -> c ∈ G hs i -> aW qx (oJ (iq f)) [bw M hs,.tup (lD H),hD (C ++ [c]),.int (i:Int)] = some (wD (vt (cW (G hs) hs.length f) H (C ++ [c]) i)):=fun c i hc h1 hi h2 =>
   wb hne (by omega) fun hm => by
    have P2:=P.more hc h1 hm hi h2
    have:=kh hs.length _ P2.nH P2.lt
    rw [List.length_append,List.length_singleton] at this
    exact ih _ _ P2 (by rw [List.length_append,List.length_singleton]; omega)
  have dn:∀ c:Int,jR true (.int c) (hD C) = some (.bl (!decide (c ∈ C))):=fun c => gJ true c C
  have cc:∀ c:Int,b4 (hD C) (.tup [.int c]) = some (hD (C ++ [c])):=fun c => by
   refine (if_pos (by simp; omega)).trans ?_
   simp [hD]
  generalize iq f = rec at *
  generalize bw (M:Int) hs = lay at *
  rw [cM]
  refine fO ((G hs (cq H)).map .int) (fun k δ => ∃ a3 a4 a5:Jt.Slot,δ = [.pu lay,.pu (.tup (lD H)),.pu (hD C),a3,a4,a5] ∧ ∀ c ∈ (G hs (cq H)).take k,(if c ∈ C then none else (u7 (G hs) hs.length c).findSome? fun i => vt (cW (G hs) hs.length f) H (C ++ [c]) i) = none) ?_ ⟨_,_,_,rfl,by simp⟩ ?_ ?_
  ·generalize D.tup (lD H) = hd at *
   generalize hD (G hs (cq H)) = gd at *
   generalize ((cq H:Nat):Int) = la at *
   generalize D.tup (hs.map hD) = hsd at *
   simp [e1,nn,xl,gl,sg]
  ·rintro k hk _ ⟨a3,a4,a5,rfl,hz⟩
   have hk2:k < (G hs (cq H)).length:=by simpa using hk
   rw [List.getElem_map]
   have mem:(G hs (cq H))[k] ∈ G hs (cq H):=List.getElem_mem hk2
   have tk1:(G hs (cq H)).take (k + 1) = (G hs (cq H)).take k ++ [(G hs (cq H))[k]]:=List.take_succ_eq_append_getElem hk2
   have fat:=fun (r:List Nat × List Int) hr => uA (fun c => if c ∈ C then none else (u7 (G hs) hs.length c).findSome? fun i => vt (cW (G hs) hs.length f) H (C ++ [c]) i) (G hs (cq H)) k hk2 hz (r:=r) hr
   generalize (G hs (cq H))[k] = c at *
   simp only [bF,List.length_cons,List.length_nil,List.set_cons_succ,List.set_cons_zero]
   refine ⟨by omega,?_⟩
   have dnc:=dn c
   have ccc:=cc c
   by_cases hc:c ∈ C
   ·rw [decide_eq_true hc] at dnc
    refine gP (fun b δ => b = false ∧ δ = [.pu lay,.pu (.tup (lD H)),.pu (hD C),.pu (.int c),a4,a5]) ?_ (fun _ h => by cases h.1) ?_
    ·generalize D.tup (lD H) = hd at *
     generalize hD C = cd at *
     simp [dnc]
    ·rintro _ ⟨_,rfl⟩
     refine au.mpr ⟨_,_,_,rfl,fun x hx => ?_⟩
     rw [tk1] at hx
     rcases List.mem_append.mp hx with hx | hx
     ·exact hz x hx
     ·rw [List.mem_singleton.mp hx,if_pos hc]
   ·rw [decide_eq_false hc] at dnc
    refine gP (fun b δ => b = true ∧ δ = [.pu lay,.pu (.tup (lD H)),.pu (hD C),.pu (.int c),a4,a5]) ?_ ?_ (fun _ h => by cases h.1)
    ·generalize D.tup (lD H) = hd at *
     generalize hD C = cd at *
     simp [dnc]
    ·rintro _ ⟨_,rfl⟩
     have hcb:=hF _ c mem
     obtain ⟨cn,rfl⟩:∃ cn:Nat,c = (cn:Int):=⟨c.toNat,by omega⟩
     have ehc:=eh cn (by omega)
     have eh2:((List.range hs.length).filter fun i => decide ((cn:Int) ∈ G hs i)) = u7 (G hs) hs.length (cn:Int):=rfl
     rw [eh2] at ehc
     have mh:∀ i ∈ u7 (G hs) hs.length (cn:Int),i < hs.length ∧ (cn:Int) ∈ G hs i:=fun i hi => jy.mp hi
     have byc:=fun i (hi:i ∈ u7 (G hs) hs.length (cn:Int)) => by_ (cn:Int) i hc mem (mh i hi).1 (mh i hi).2
     rw [if_neg hc] at fat
     generalize hh:u7 (G hs) hs.length (cn:Int) = hl2 at *
     refine fO (lD hl2) (fun j δ => ∃ a4 a5:Jt.Slot,δ = [.pu lay,.pu (.tup (lD H)),.pu (hD C),.pu (.int (cn:Int)),a4,a5] ∧ ∀ i ∈ hl2.take j,vt (cW (G hs) hs.length f) H (C ++ [(cn:Int)]) i = none) ?_ ⟨_,_,rfl,by simp⟩ ?_ ?_
     ·have:aO (.tup (lD hl2)) = some (aR (lD hl2)):=rfl
      generalize D.tup (lD hl2) = td at *
      generalize D.tup (lD H) = hd at *
      generalize hD C = cd at *
      simp [aE,ehc,this]
     ·rintro j hj _ ⟨a4,a5,rfl,hy⟩
      have hj2:j < hl2.length:=by simpa [lD] using hj
      have itm:(lD hl2)[j] = .int ((hl2[j]:Nat):Int):=by simp [lD]
      rw [itm]
      have byj:=byc hl2[j] (List.getElem_mem hj2)
      have tk2:hl2.take (j + 1) = hl2.take j ++ [hl2[j]]:=List.take_succ_eq_append_getElem hj2
      have fat2:=fun (r:List Nat × List Int) hr => uA (fun i => vt (cW (G hs) hs.length f) H (C ++ [(cn:Int)]) i) hl2 j hj2 hy (r:=r) hr
      generalize hl2[j] = i at *
      simp only [bF,List.length_cons,List.length_nil,List.set_cons_succ,List.set_cons_zero]
      refine ⟨by omega,?_⟩
      refine aI (fun δ => δ = [.pu lay,.pu (.tup (lD H)),.pu (hD C),.pu (.int (cn:Int)),.pu (.int (i:Int)),.pu (wD (vt (cW (G hs) hs.length f) H (C ++ [(cn:Int)]) i))]) ?_ ?_
      ·generalize wD (vt (cW (G hs) hs.length f) H (C ++ [(cn:Int)]) i) = wr at *
       generalize hD (C ++ [(cn:Int)]) = cd2 at *
       generalize D.tup (lD H) = hd at *
       generalize hD C = cd at *
       simp [aE,ccc,byj]
      rintro _ rfl
      cases hw:vt (cW (G hs) hs.length f) H (C ++ [(cn:Int)]) i with
      | none =>
       refine gP (fun b δ => b = false ∧ δ = [.pu lay,.pu (.tup (lD H)),.pu (hD C),.pu (.int (cn:Int)),.pu (.int (i:Int)),.pu (wD none)]) ?_ (fun _ h => by cases h.1) ?_
       ·generalize D.tup (lD H) = hd at *
        generalize hD C = cd at *
        simp [wD,jI,lU]
       ·rintro _ ⟨_,rfl⟩
        refine au.mpr ⟨_,_,rfl,fun x hx => ?_⟩
        rw [tk2] at hx
        rcases List.mem_append.mp hx with hx | hx
        ·exact hy x hx
        ·rw [List.mem_singleton.mp hx]; exact hw
      | some r =>
       have fr:=fat r (fat2 r hw)
       have el:cW (G hs) hs.length (f + 1) H C = some r:=fr
       rw [el]
       refine gP (fun b δ => b = true ∧ δ = [.pu lay,.pu (.tup (lD H)),.pu (hD C),.pu (.int (cn:Int)),.pu (.int (i:Int)),.pu (wD (some r))]) ?_ ?_ (fun _ h => by cases h.1)
       ·obtain ⟨r1,r2⟩:=r
        generalize D.tup (lD H) = hd at *
        generalize hD C = cd at *
        simp [wD,jI,lU]
       ·rintro _ ⟨_,rfl⟩
        simp
     ·rintro _ ⟨a4,a5,rfl,hy⟩
      have:(lD hl2).length = hl2.length:=by simp [lD]
      rw [this,List.take_length] at hy
      refine ⟨_,_,_,rfl,fun x hx => ?_⟩
      rw [tk1] at hx
      rcases List.mem_append.mp hx with hx | hx
      ·exact hz x hx
      ·rw [List.mem_singleton.mp hx,if_neg hc,hh]
       exact List.findSome?_eq_none_iff.mpr hy
  ·rintro _ ⟨a3,a4,a5,rfl,hz⟩
   rw [List.length_map,List.take_length] at hz
   have el:cW (G hs) hs.length (f + 1) H C = none:=List.findSome?_eq_none_iff.mpr hz
   rw [el]
   simp [wD]
end K43
namespace K43
open PySem L2 Jt
open Builtin.Int (intBits)
variable {hs:List (List Int)} {M:Nat}
theorem vg (hS:Sm hs) (hN:∀ i,(G hs i).Nodup) (hF:∀ i,∀ c ∈ G hs i,0 ≤ c ∧ c < (M:Int)):∃ r,aW o_ mF [bw M hs] = some (wD r) ∧ ((r = none) ↔ va (inc (G hs) hs.length)) ∧ ∀ H C,r = some (H,C) -> LL (G hs) hs.length H C:= by
 have h6:=hS.n
 have pa:∀ i,i < hs.length -> Pa (G hs) hs.length [i] []:=fun i hi => ⟨by simp,by simp,fun j hj => by rw [List.mem_singleton.mp hj]; exact hi,rfl,fun k hk => by simp at hk,fun k hk => by simp at hk⟩
 have key:∃ r,aW o_ mF [bw M hs] = some (wD r) ∧ ((r = none ∧ ∀ i,i < hs.length -> cW (G hs) hs.length 8 [i] [] = none) ∨ ∃ i,i < hs.length ∧ r ≠ none ∧ cW (G hs) hs.length 8 [i] [] = r):= by
  have hi:=fun i (hi:i < hs.length) => kK hS hF 8 [i] [] (pa i hi) (by simp; omega)
  have e1:=cY (M:Int) hs
  have e2:=fw hs
  have:∃ d,aW o_ mF [bw M hs] = some d ∧ ∃ r,d = wD r ∧ ((r = none ∧ ∀ i,i < hs.length -> cW (G hs) hs.length 8 [i] [] = none) ∨ ∃ i,i < hs.length ∧ r ≠ none ∧ cW (G hs) hs.length 8 [i] [] = r):= by
   apply pw
   show Ok mF [.pu (bw M hs),.un,.un] _
   unfold mF
   generalize bw (M:Int) hs = lay at *
   rw [cM]
   refine fO (lD (List.range hs.length)) (fun k δ => ∃ (a1 a2:Jt.Slot),δ = [.pu lay,a1,a2] ∧ ∀ i,i < k -> cW (G hs) hs.length 8 [i] [] = none) ?_ ⟨_,_,rfl,fun i h => by omega⟩ ?_ ?_
   ·have:bz (hs.length:Int) = true:=by simp [bz]; omega
    simp [e1,e2,cF,this,ja]
   ·rintro k hk _ ⟨a1,a2,rfl,hz⟩
    have hk2:k < hs.length:=by simpa [lD] using hk
    have itm:(lD (List.range hs.length))[k] = .int (k:Int):=by simp [lD]
    rw [itm]
    have ck:=hi k hk2
    have l1:lD [k] = [.int (k:Int)]:=rfl
    have l2:hD [] = .tup []:=rfl
    rw [l1,l2] at ck
    simp only [bF,List.length_cons,List.length_nil,List.set_cons_succ,List.set_cons_zero]
    refine ⟨by omega,?_⟩
    generalize iq 8 = rec at *
    refine aI (fun δ => δ = [.pu lay,.pu (.int (k:Int)),.pu (wD (cW (G hs) hs.length 8 [k] []))]) (by simp [aE,ck]) ?_
    rintro _ rfl
    cases hw:cW (G hs) hs.length 8 [k] [] with
    | none =>
     refine gP (fun b δ => b = false ∧ δ = [.pu lay,.pu (.int (k:Int)),.pu (wD none)]) ?_ (fun _ h => by cases h.1) ?_
     ·simp [wD,jI,lU]
     ·rintro _ ⟨_,rfl⟩
      refine au.mpr ⟨_,_,rfl,fun i hi => ?_⟩
      by_cases e:i = k
      ·rw [e]; exact hw
      ·exact hz i (by omega)
    | some r =>
     refine gP (fun b δ => b = true ∧ δ = [.pu lay,.pu (.int (k:Int)),.pu (wD (some r))]) ?_ ?_ (fun _ h => by cases h.1)
     ·obtain ⟨r1,r2⟩:=r
      simp [wD,jI,lU]
     ·rintro _ ⟨_,rfl⟩
      simp only [ar,bG,au]
      exact ⟨_,rfl,_,rfl,some r,rfl,.inr ⟨k,hk2,by simp,hw⟩⟩
   ·rintro _ ⟨a1,a2,rfl,hz⟩
    have:(lD (List.range hs.length)).length = hs.length:=by simp [lD]
    rw [this] at hz
    simp only [ar,au]
    exact ⟨_,rfl,none,rfl,.inl ⟨rfl,hz⟩⟩
  obtain ⟨d,h1,r,rfl,h2⟩:=this
  exact ⟨r,h1,h2⟩
 obtain ⟨r,h1,h2⟩:=key
 have fi:=vZ (n:=hs.length) hN (fun i c hc => (hF i c hc).1) (f:=8) (by omega)
 refine ⟨r,h1,?_,?_⟩
 ·rcases h2 with ⟨rfl,h2⟩ | ⟨i,hi,hr,h2⟩
  ·exact ⟨fun _ => fi.mp h2,fun _ => rfl⟩
  ·exact ⟨fun z => absurd z hr,fun z => absurd (fi.mpr z i hi) (fun q => hr (h2.symm.trans q))⟩
 ·rintro H C rfl
  rcases h2 with ⟨h2,_⟩ | ⟨i,hi,_,h2⟩
  ·cases h2
  ·exact mL 8 [i] [] (pa i hi) h2
theorem Cg (hF:∀ i,∀ c ∈ G hs i,0 ≤ c ∧ c < (M:Int)) {H:List Nat} {C:List Int} (L:LL (G hs) hs.length H C):∃ C':List Nat,C = C'.map (fun (i:Nat) => (i:Int)) ∧ Turn hs M 2 (.tup [.tup (lD H),.tup (lD C')]):= by
 have pos:∀ c ∈ C,0 ≤ c ∧ c < (M:Int):=fun c hc => by
  obtain ⟨k,hk⟩:=List.mem_iff_getElem?.mp hc
  have hkl:k < C.length:=(List.getElem?_eq_some_iff.mp hk).1
  have hk2:k < H.length:=by rw [<- L.l]; exact hkl
  have a:=L.a k hk2
  have e:C.getD k 0 = c:=by rw [List.getD_eq_getElem?_getD,hk]; rfl
  rw [e] at a
  exact hF _ c a
 have eC:(C.map Int.toNat).map (fun (i:Nat) => (i:Int)) = C:= by
  rw [List.map_map]
  conv => rhs; rw [<- List.map_id C]
  refine List.map_congr_left fun i hi => ?_
  have:=(pos i hi).1
  show ((i.toNat:Nat):Int) = i
  omega
 have get:∀ k,(((C.map Int.toNat).getD k 0:Nat):Int) = C.getD k 0:=fun k => by
  conv => rhs; rw [<- eC]
  simp only [List.getD_eq_getElem?_getD,List.getElem?_map]
  cases C[k]? <;> simp
 refine ⟨C.map Int.toNat,eC.symm,jA.mpr ⟨L.nH,?_,L.lt,fun c hc => ?_,by rw [List.length_map]; exact L.l,L.n2,fun k hk => by rw [get k]; exact ⟨L.a k hk,L.b k hk⟩⟩⟩
 ·rw [<- gU,eC]; exact L.nC
 ·obtain ⟨a,ha,rfl⟩:=List.mem_map.mp hc
  have:=pos a ha
  omega
inductive LS (z0:Jt.Slot):DS -> Prop
 | mk (a1 a2 a3 a4 a5 a6 a7 a8 a9 a10 a11:Jt.Slot):LS z0 [z0,a1,a2,a3,a4,a5,a6,a7,a8,a9,a10,a11]
theorem CN (b:Bool):iy true (.bl b) (.bl b) = some (.bl false):=by cases b <;> rfl
theorem qJ {z0 z1 z2 z4 z5 z6 z7 z8 z9 a10 a11:Jt.Slot} (S:Sm hs) (ts:List D) (hts:∀ t ∈ ts,pj t) {Q:Fl -> DS -> Prop} (hQ:∀ δ,LS z0 δ -> Q .nx δ) :
  Ok (forM (ba 10) (aB (dD 11 (mC (aE 2 (aW jw oH)) (ae (ah 3) (ae (ah 10) (pure [])))))
  (fz (n_ (fK (do let x <- (iR .bool (ah 11)); lift (cx x))) ((m2 (iy true) (ah 11) (mC (aE 3 (aW nv tD)) (ae (ah 3) (ae (ah 10) (ae (pure (.int 2)) (pure [])))))) >>= cQ)) (do let d <- (pure (.bl false)); pure (Fl.rt d)) (pure .nx))) (aR ts).2 (aR ts).1)
   [z0,z1,z2,.pu (bw M hs),z4,z5,z6,z7,z8,z9,a10,a11] Q:= by
 refine ua ts (fun _ δ => ∃ a10 a11,δ = [z0,z1,z2,.pu (bw M hs),z4,z5,z6,z7,z8,z9,a10,a11]) ⟨_,_,rfl⟩ ?_ ?_
 ·rintro i hi _ ⟨a10,a11,rfl⟩
  have tw:=hts _ (List.getElem_mem hi)
  have e1:=GW (M:=M) S tw
  have e2:=kH (M:=M) S tw 2 (by omega)
  have h2:((2:Nat):Int) = 2:=rfl
  rw [h2] at e2
  have e3:=CN (iW hs M 2 ts[i])
  generalize iW hs M 2 ts[i] = b at *
  generalize bw (M:Int) hs = lay at *
  rw [bF]
  refine ⟨by simp,?_⟩
  refine aI (fun δ => δ = [z0,z1,z2,.pu lay,z4,z5,z6,z7,z8,z9,.pu ts[i],.pu (.bl b)]) (by simp [aE,e1]) ?_
  rintro _ rfl
  refine gP (fun b' δ => b' = false ∧ δ = [z0,z1,z2,.pu lay,z4,z5,z6,z7,z8,z9,.pu ts[i],.pu (.bl b)]) ?_ ?_ ?_
  ·rw [pA]
   simp [cJ,pZ,cx,aE,e2,e3]
  ·rintro _ ⟨h,_⟩; cases h
  ·rintro _ ⟨_,rfl⟩
   exact au.mpr ⟨_,_,rfl⟩
 ·rintro _ ⟨a10,a11,rfl⟩
  exact hQ _ (.mk ..)
theorem yk {d:D} (h:FF d):pj d:= by
 obtain ⟨a,b,rfl,_,h2,h3⟩:=h
 exact f6 (by omega) (by omega)
theorem Cu (a b c d:Int):iy true (.tup [.int a,.int b,.int c,.int d]) (.tup [.int a,.int b,.int c,.int d]) = some (.bl false):= by
 simp [iy,kX,d9,d9.go,flat,wj]
theorem zt:∀ ns:List Int,ns.length ≤ 63 -> (∀ i ∈ ns,intBits i ≤ 2 ^ 20) -> aW mH uC [.lst (ns.map .int)] = some (.bl true):= by
 intro ns hns hbits
 apply cu
 show Ok uC [.pu (.lst (ns.map .int)),.un,.un,.un,.un,.un,.un,.un,.un,.un,.un,.un] _
 unfold uC
 refine aI (LS (.pu (.lst (ns.map .int)))) ?_ ?_
 ·obtain ⟨N,hN,hN2⟩:∃ N:Nat,(if (if (5:Int) < ns.length then 5 else (ns.length:Int)) > 1 then (if (5:Int) < ns.length then 5 else (ns.length:Int)) else 1) = (N:Int) ∧ N ≤ 5:= by
   refine ⟨(if (if (5:Int) < ns.length then 5 else (ns.length:Int)) > 1 then (if (5:Int) < ns.length then 5 else (ns.length:Int)) else 1).toNat,?_,?_⟩ <;> split <;> split <;> omega
  have sN:bz N = true:=by simp [bz]; omega
  refine fO (bP 0 N) (fun _ δ => LS (.pu (.lst (ns.map .int))) δ) ?_ (.mk ..) ?_ ?_
  ·simp only [eS,bC,bG,au,List.getElem?_cons_zero,Option.some.injEq,Jt.Slot.pu.injEq,exists_eq_left',aZ,cv,jG,lu,List.length_map,hN,cF,sN,if_true]
   simp
  ·rintro k hk' _ ⟨a1,a2,a3,a4,a5,a6,a7,a8,a9,a10,a11⟩
   have hkN:k < N:=by simpa [bP] using hk'
   rw [f_,bF]
   refine ⟨by simp,?_⟩
   simp only [List.set_cons_succ,List.set_cons_zero]
   obtain ⟨n,en⟩:=vv ns hbits k (by omega)
   obtain ⟨d,xs',el,m,hs,n1,rfl,rfl,h1,h6,hm,hq⟩:=pe n (P:=7) (Z:=6) (by omega) (by omega) (by omega) (by omega)
   obtain ⟨M,rfl⟩:∃ M:Nat,m = (M:Int):=⟨m.toNat,by omega⟩
   have S:Sm hs:=⟨h6,fun h hh => (hq h hh).len (by omega) (by omega)⟩
   have hM:M ≤ 7:=by omega
   have gcase:∀ i,G hs i = [] ∨ G hs i ∈ hs:=fun i => by
    by_cases hi:i < hs.length
    ·right
     have:G hs i = hs[i]:=by simp [G,hi]
     rw [this]; exact List.getElem_mem hi
    ·left
     simp [G,Nat.le_of_not_lt hi]
   have hNd:∀ i,(G hs i).Nodup:=fun i => by
    rcases gcase i with e | e
    ·rw [e]; exact List.nodup_nil
    ·exact (hq _ e).2.1.imp fun {a b} (q:a < b) => Int.ne_of_lt q
   have hF:∀ i,∀ c ∈ G hs i,0 ≤ c ∧ c < (M:Int):=fun i c hc => by
    rcases gcase i with e | e
    ·rw [e] at hc; cases hc
    ·exact (hq _ e).2.2 c hc
   obtain ⟨E1,g1,T1,L1,ec⟩:=Hs (M:=M) S hM
   obtain ⟨dp,ep,E2,g2,T2,L2,rfl⟩:=pL S
   have ecl:=nq (hs:=hs) (M:=M) h6 hM
   rw [BX T2 T1 L2 L1] at ep
   obtain ⟨r,ew,hgo,hwl⟩:=vg (M:=M) S hNd hF
   have cf:=tJ (n:=hs.length) hNd hF T1 L1
   rw [Bh] at cf
   have pq:=places_eq (hs:=hs)
   have dsum:=mB S
   have pr:r ≠ none -> FF (wD r) ∧ Turn hs M 2 (wD r):=fun hr => by
    cases r with
    | none => exact absurd rfl hr
    | some r =>
     obtain ⟨H,C⟩:=r
     have W:=hwl H C rfl
     obtain ⟨C',rfl,w⟩:=Cg hF W
     have e:wD (some (H,C'.map fun (i:Nat) => (i:Int))) = .tup [.tup (lD H),.tup (lD C')]:= by
      show D.tup [.tup (lD H),.tup _] = _
      rw [List.map_map]
      rfl
     rw [e]
     have hH:=kh _ _ W.nH W.lt
     have n2:=W.n2
     have hl:=W.l
     rw [List.length_map] at hl
     exact ⟨⟨_,_,rfl,by rw [c7]; omega,by rw [c7]; omega,by rw [c7]; omega⟩,w⟩
   have tr:pj (wD r):= by
    by_cases hr:r = none
    ·rw [hr]; exact fun p c z => nomatch z
    ·exact yk (pr hr).1
   have ewr:=kH (M:=M) S tr 2 (by omega)
   have h22:((2:Nat):Int) = 2:=rfl
   rw [h22] at ewr
   generalize hcl:cls g1 (List.range hs.length) = cl at *
   generalize hml:(fQ M hs).length = ml at *
   have gob:r = none ↔ (ml:Int) + (hs.length:Int) = places hs + (cl:Int):= by
    rw [hgo,cf,pq]
    omega
   generalize places hs = pl at *
   have in1:jI false (wD r) .non = some (.bl (decide ((ml:Int) + (hs.length:Int) = pl + (cl:Int)))):= by
    by_cases hr:r = none
    ·rw [decide_eq_true (gob.mp hr),hr]; rfl
    ·rw [decide_eq_false fun z => hr (gob.mpr z)]
     cases r with
     | none => exact absurd rfl hr
     | some r => rfl
   have in2:jI true (wD r) .non = some (.bl (!decide ((ml:Int) + (hs.length:Int) = pl + (cl:Int)))):= by
    by_cases hr:r = none
    ·rw [decide_eq_true (gob.mp hr),hr]; rfl
    ·rw [decide_eq_false fun z => hr (gob.mpr z)]
     cases r with
     | none => exact absurd rfl hr
     | some r => rfl
   have eqc:dj false (.int ((ml:Int) + (hs.length:Int))) (.int (pl + (cl:Int))) = some (.bl (decide ((ml:Int) + (hs.length:Int) = pl + (cl:Int)))):=bJ ..
   have wt:decide ((ml:Int) + (hs.length:Int) = pl + (cl:Int)) = false -> iW hs M 2 (wD r) = true:=fun q => i7 (pr fun z => by rw [decide_eq_true (gob.mp z)] at q; cases q).2
   have xo:∀ t:D,FF t -> ∃ t',FF t' ∧ ∀ (δ:DS) (Q:D -> DS -> Prop),δ[7]? = some (.pu (wD r)) -> δ[8]? = some (.pu t) -> Q t' δ -> Ok (Gu (ah 7) (ah 8)) δ Q:=fun t ht => by
    cases r with
    | none => exact ⟨t,ht,fun δ Q h4 h5 hQ => by simp [h4,h5,wD,cx,hQ]⟩
    | some r =>
     refine ⟨wD (some r),(pr (by simp)).1,fun δ Q h4 h5 hQ => ?_⟩
     obtain ⟨a,b⟩:=r
     simp only [DN,bG,h4,Option.some.injEq,Jt.Slot.pu.injEq,exists_eq_left']
     have:cx (wD (some (a,b))) = some true:=rfl
     simp [this,hQ]
   obtain ⟨t0,x0,ed,p0,n2,rfl⟩:=jo (M:=M) S h1 n1
   obtain ⟨t1,x1,eb1,s1,n3,rfl⟩:=lZ (hs:=hs) (M:=M) h1 h6 (by omega) hM p0 n2
   obtain ⟨t',p',hx⟩:=xo t0 p0
   obtain ⟨t2,x2,eb2,s2,n4,rfl⟩:=lZ (hs:=hs) (M:=M) h1 h6 (by omega) hM p' n3
   obtain ⟨t3,x3,eb3,⟨_,s3⟩,n5,rfl⟩:=nV n4
   have e1:=cY (M:Int) hs
   have e2:=fw hs
   have lml:aZ [.lst (lD (fQ M hs))] = some (.int (ml:Int)):=by rw [<- hml]; simp [aZ,lD]
   refine aI (fun δ => δ = [.pu (.lst (ns.map .int)),.pu (.int k),.ow false [.int n],a3,a4,a5,a6,a7,a8,a9,a10,a11]) ?_ ?_
   ·simp [aE,en]
   rintro _ rfl
   generalize (Jt.Slot.pu (.lst (ns.map .int)):Jt.Slot) = z0
   generalize (Jt.Slot.pu (.int (k:Int)):Jt.Slot) = z1
   refine aI (fun δ => δ = [z0,z1,.ow false [.int n1],.pu (bw M hs),a4,a5,a6,a7,a8,a9,a10,a11]) ?_ ?_
   ·simp [-Prod.exists]
    exact ⟨_,el,rfl,rfl⟩
   rintro _ rfl
   refine aI (fun δ => δ = [z0,z1,.ow false [.int n1],.pu (bw M hs),.pu (.int pl),a5,a6,a7,a8,a9,a10,a11]) ?_ ?_
   ·generalize bw (M:Int) hs = lay at *
    have si:aO (.tup (hs.map hD)) = some (aR (hs.map hD)):=rfl
    simp only [dR,ar,eS,bC,au]
    refine a_ hs hD (fun h => some (.int (h.length:Int))) rfl ?_ (by omega) (fun h _ => ?_) ?_
    ·generalize D.tup (hs.map hD) = hd at *
     simp [e1,si]
    ·have:aZ [hD h] = some (.int (h.length:Int)):=by simp [aZ,hD]
     generalize hD h = hh at *
     simp [this]
    ·rw [List.filterMap_eq_map']
     have e':hs.map ((fun h => D.int (h.length:Int))) = (hs.map fun h => (h.length:Int)).map .int:=by rw [List.map_map]; rfl
     rw [e']
     refine cC dsum ⟨by simp,trivial,rfl⟩
   rintro _ rfl
   refine aI (fun δ => δ = [z0,z1,.ow false [.int n1],.pu (bw M hs),.pu (.int pl),.pu (.tup [.int (ml:Int),.int (hs.length:Int),.int pl,.int (cl:Int)]),a6,a7,a8,a9,a10,a11]) ?_ ?_
   ·generalize bw (M:Int) hs = lay at *
    generalize D.tup (hs.map hD) = hd at *
    generalize lD (fQ M hs) = mD at *
    simp [aE,ecl,lml,e1,e2,ep]
   rintro _ rfl
   refine aI (fun δ => δ = [z0,z1,.ow false [.int n1],.pu (bw M hs),.pu (.int pl),.pu (.tup [.int (ml:Int),.int (hs.length:Int),.int pl,.int (cl:Int)]),.pu (.tup [.int (ml:Int),.int (hs.length:Int),.int pl,.int (cl:Int)]),a7,a8,a9,a10,a11]) ?_ ?_
   ·generalize bw (M:Int) hs = lay at *
    generalize D.tup [.int (ml:Int),.int (hs.length:Int),.int pl,.int (cl:Int)] = four at *
    simp [aE,ec]
   rintro _ rfl
   have e4:=Cu (ml:Int) (hs.length:Int) pl (cl:Int)
   refine bW false ?_ (fun h => by cases h) fun _ => ?_
   ·generalize bw (M:Int) hs = lay at *
    simp only [pA,pD,ar,pG,bG,au,eS,bC,eW]
    refine ⟨_,rfl,?_⟩
    simp only [gG,cx,cv,Bool.not_true,Bool.false_eq_true,if_false]
    refine ⟨_,rfl,_,rfl,cC e4 ?_⟩
    rw [fJ]
    refine ⟨_,rfl,?_⟩
    simp only [Bool.false_eq_true,if_false]
    refine a_ [(ml:Int),(hs.length:Int),pl,(cl:Int)] .int (fun _ => some (.bl true)) rfl ?_ (by simp) (fun x _ => ?_) ?_
    ·have:aO (.tup [.int (ml:Int),.int (hs.length:Int),.int pl,.int (cl:Int)]) = some (aR ([(ml:Int),(hs.length:Int),pl,(cl:Int)].map .int)):=rfl
     generalize D.tup [.int (ml:Int),.int (hs.length:Int),.int pl,.int (cl:Int)] = four at *
     simp only [ar,bG,au]
     exact ⟨_,rfl,cC this ⟨rfl,rfl⟩⟩
    ·simp [aE,gY,isInt]
    ·simp [jg,boolsOf,cx]
   have x50:b_ (.tup [.int (ml:Int),.int (hs.length:Int),.int pl,.int (cl:Int)]) (.int 0) = some (.int (ml:Int)):=rfl
   have x51:b_ (.tup [.int (ml:Int),.int (hs.length:Int),.int pl,.int (cl:Int)]) (.int 1) = some (.int (hs.length:Int)):=rfl
   have x52:b_ (.tup [.int (ml:Int),.int (hs.length:Int),.int pl,.int (cl:Int)]) (.int 2) = some (.int pl):=rfl
   have x53:b_ (.tup [.int (ml:Int),.int (hs.length:Int),.int pl,.int (cl:Int)]) (.int 3) = some (.int (cl:Int)):=rfl
   have ad1:c6 (.int (ml:Int)) (.int (hs.length:Int)) = some (.int ((ml:Int) + (hs.length:Int))):=rfl
   have ad2:c6 (.int pl) (.int (cl:Int)) = some (.int (pl + (cl:Int))):=rfl
   generalize D.tup [.int (ml:Int),.int (hs.length:Int),.int pl,.int (cl:Int)] = four at *
   refine aI (fun δ => δ = [z0,z1,.ow false [.int n1],.pu (bw M hs),.pu (.int pl),.pu four,.pu four,.pu (wD r),a8,a9,a10,a11]) ?_ ?_
   ·generalize bw (M:Int) hs = lay at *
    simp [aE,ew]
   rintro _ rfl
   generalize decide ((ml:Int) + (hs.length:Int) = pl + (cl:Int)) = qb at *
   have eb:=CN qb
   refine bW false ?_ (fun h => by cases h) fun _ => ?_
   ·generalize bw (M:Int) hs = lay at *
    generalize wD r = wr at *
    simp [in1,x50,x51,x52,x53,ad1,ad2,eqc,eb]
   refine bW false ?_ (fun h => by cases h) fun _ => ?_
   ·generalize bw (M:Int) hs = lay at *
    generalize iW hs M 2 (wD r) = tb at *
    generalize wD r = wr at *
    cases qb with
    | true => simp [in2]
    | false =>
     have wt:=wt rfl
     subst wt
     simp [in2,aE,ewr,cx]
   refine aI (fun δ => δ = [z0,z1,.ow false [.int n2],.pu (bw M hs),.pu (.int pl),.pu four,.pu four,.pu (wD r),.pu t0,a9,a10,a11]) ?_ ?_
   ·generalize bw (M:Int) hs = lay at *
    simp [-Prod.exists,ed]
   rintro _ rfl
   refine aI (fun δ => δ = [z0,z1,.ow false [.int n4],.pu (bw M hs),.pu (.int pl),.pu four,.pu four,.pu (wD r),.pu t0,.pu (.lst [t0,t1,wD r,t2]),a10,a11]) ?_ ?_
   ·generalize bw (M:Int) hs = lay at *
    generalize wD r = wr at *
    simp only [dR,ar,fg,bC,bG,au,e9,uY,List.getElem?_cons_zero,List.getElem?_cons_succ,Option.some.injEq,Jt.Slot.pu.injEq,Jt.Slot.ow.injEq,exists_eq_left']
    refine ⟨_,_,⟨rfl,rfl⟩,_,_,⟨rfl,rfl⟩,rfl,_,eb1,_,rfl,_,_,rfl,_,rfl,hx _ _ rfl rfl ?_⟩
    refine ⟨_,_,rfl,rfl,_,eb2,?_⟩
    exact dN.mpr ⟨by simp,by simp,trivial,rfl⟩
   rintro _ rfl
   rw [ar]
   have g5:j9 (.lst [t0,t1,wD r,t2]) (.lst [t3]) = some [t0,t1,wD r,t2,t3]:=rfl
   have hi:Ok (do let x <- (do let xs <- (lL j9 (do let x <- (ah 9); pure (Hn.th x)) (do let x <- (do let xs <- (cV (ae (do let _ <- aF 2; bR 2 1 (bp oZ nc) (pure [])) (pure []))); pure (D.lst xs)); pure (Hn.th x))); pure (D.lst xs)); lift (aO x))
     [z0,z1,.ow false [.int n4],.pu (bw M hs),.pu (.int pl),.pu four,.pu four,.pu (wD r),.pu t0,.pu (.lst [t0,t1,wD r,t2]),a10,a11]
     fun it δ => it = aR [t0,t1,wD r,t2,t3] ∧ δ = [z0,z1,.ow false [.int n5],.pu (bw M hs),.pu (.int pl),.pu four,.pu four,.pu (wD r),.pu t0,.pu (.lst [t0,t1,wD r,t2]),a10,a11]:= by
    generalize bw (M:Int) hs = lay at *
    generalize D.lst [t0,t1,wD r,t2] = l4 at *
    generalize wD r = wr at *
    simp [-Prod.exists,eb3,g5,aO]
   refine hi.mono fun it δ' ⟨g1,g2⟩ => ?_
   subst g1; subst g2
   refine qJ S _ ?_ fun δ h => h
   intro t ht
   simp only [List.mem_cons,List.not_mem_nil,or_false] at ht
   rcases ht with rfl | rfl | rfl | rfl | rfl
   ·exact yk p0
   ·exact s1
   ·exact tr
   ·exact s2
   ·exact s3
  ·intro δ h; exact ⟨rfl,h⟩
 rintro _ ⟨a1,a2,a3,a4,a5,a6,a7,a8,a9,a10,a11⟩
 simp
end K43
namespace K43
open PySem L2 Jt
theorem ig {us:List Value} (h:us.length = 1):∃ a,us = [a]:=by match us,h with | [a],_ => exact ⟨a,rfl⟩
theorem fX {us:List Value} (h:us.length = 2):∃ a b,us = [a,b]:=by match us,h with | [a,b],_ => exact ⟨a,b,rfl⟩
theorem kN {us:List Value} (h:us.length = 3):∃ a b c,us = [a,b,c]:=by match us,h with | [a,b,c],_ => exact ⟨a,b,c,rfl⟩
theorem F9 {us:List Value} (h:us.length = 4):∃ a b c d,us = [a,b,c,d]:=by match us,h with | [a,b,c,d],_ => exact ⟨a,b,c,d,rfl⟩
theorem all_mk {l:PySem.W.OpenLaw} {w:World} {K:PySem.W.Frag} {h:Heap} {mg:Str -> Option Value} {fa:Addr} (X:K.In h) (G:h.Ns mainGlobals mg) (hfa:mg "law" = some (.ref fa))
  (e_is_whole:Fh K "is_whole" yZ)
  (e_is_below:Fh K "is_below" yW)
  (e_are_below:Fh K "are_below" zA)
  (e_are_unlike:Fh K "are_unlike" D3)
  (e_linked:Fh K "linked" zF)
  (e_need_head:Fh K "need_head" yS)
  (e_heads_of:Fh K "heads_of" xy)
  (e_common:Fh K "common" yo)
  (e_columns_in_heads:Fh K "columns_in_heads" FO)
  (e_pieces:Fh K "pieces" xN)
  (e_with_next:Fh K "with_next" zB)
  (e_are_unlike_below:Fh K "are_unlike_below" DZ)
  (e_is_loop:Fh K "is_loop" yz)
  (e_loop_by:Fh K "loop_by" uK)
  (e_loop_from:Fh K "loop_from" yv)
  (e_loop_of:Fh K "loop_of" zv)
  (e_counts_of:Fh K "counts_of" yT)
  (e__law_cell:Fh K "_law_cell" yd)
  (e__law_mix:Fh K "_law_mix" zH)
  (e__law_box:Fh K "_law_box" xP)
  (e__law_take:Fh K "_law_take" wQ)
  (e__law_head:Fh K "_law_head" xG)
  (e__law_grown:Fh K "_law_grown" zm)
  (e__law_barred:Fh K "_law_barred" DX)
  (e__law_named:Fh K "_law_named" x8)
  (e__law_layout:Fh K "_law_layout" Eo)
  (e__law_whole:Fh K "_law_whole" Ee)
  (e__law_odd:Fh K "_law_odd" yO)
  (e__law_columns:Fh K "_law_columns" Dw)
  (e__law_turns:Fh K "_law_turns" ER)
  (e__law_drawn_turns:Fh K "_law_drawn_turns" EN)
  (e__law_bent:Fh K "_law_bent" xU)
  (e__law_pieces:Fh K "_law_pieces" Er)
  (e_law:Fh K "law" rF)
  (z:PySem.W.nsIn K mainGlobals "all" = some none ∧ PySem.W.nsIn K mainGlobals "bool" = some none ∧ PySem.W.nsIn K mainGlobals "divmod" = some none ∧ PySem.W.nsIn K mainGlobals "enumerate" = some none ∧ PySem.W.nsIn K mainGlobals "int" = some none ∧ PySem.W.nsIn K mainGlobals "isinstance" = some none ∧ PySem.W.nsIn K mainGlobals "len" = some none ∧ PySem.W.nsIn K mainGlobals "list" = some none ∧ PySem.W.nsIn K mainGlobals "max" = some none ∧ PySem.W.nsIn K mainGlobals "min" = some none ∧ PySem.W.nsIn K mainGlobals "range" = some none ∧ PySem.W.nsIn K mainGlobals "set" = some none ∧ PySem.W.nsIn K mainGlobals "sorted" = some none ∧ PySem.W.nsIn K mainGlobals "sum" = some none ∧ PySem.W.nsIn K mainGlobals "tuple" = some none ∧ PySem.W.nsIn K mainGlobals "zip" = some none)
  {t_LEAST_LOOP:Tok} (y_LEAST_LOOP:PySem.W.nsIn K mainGlobals "LEAST_LOOP" = some (some (.int 2 t_LEAST_LOOP)))
 :∃ fd:FuncData,(∀ (s:Shared) (v:Value),BindsTo s fd ⟨[v],[]⟩ [("_law_script",v)]) ∧ ∀ base:Heap,K.In base -> base.Ns mainGlobals mg -> dW l.prog w K mg base dg 21 fa fd ["_law_script"] tF:= by
 have m:Bi mg:=⟨PySem.W.mg_none_of X G z.1,PySem.W.mg_none_of X G z.2.1,PySem.W.mg_none_of X G z.2.2.1,PySem.W.mg_none_of X G z.2.2.2.1,PySem.W.mg_none_of X G z.2.2.2.2.1,PySem.W.mg_none_of X G z.2.2.2.2.2.1,PySem.W.mg_none_of X G z.2.2.2.2.2.2.1,PySem.W.mg_none_of X G z.2.2.2.2.2.2.2.1,PySem.W.mg_none_of X G z.2.2.2.2.2.2.2.2.1,PySem.W.mg_none_of X G z.2.2.2.2.2.2.2.2.2.1,PySem.W.mg_none_of X G z.2.2.2.2.2.2.2.2.2.2.1,PySem.W.mg_none_of X G z.2.2.2.2.2.2.2.2.2.2.2.1,PySem.W.mg_none_of X G z.2.2.2.2.2.2.2.2.2.2.2.2.1,PySem.W.mg_none_of X G z.2.2.2.2.2.2.2.2.2.2.2.2.2.1,PySem.W.mg_none_of X G z.2.2.2.2.2.2.2.2.2.2.2.2.2.2.1,PySem.W.mg_none_of X G z.2.2.2.2.2.2.2.2.2.2.2.2.2.2.2,⟨_,PySem.W.mg_of X G y_LEAST_LOOP⟩⟩
 have E_is_whole:=ent X G e_is_whole (ps:=["thing"]) fun _ _ _ _ _ _ us hl => by obtain ⟨_,rfl⟩:=ig hl; rfl
 have E_is_below:=ent X G e_is_below (ps:=["thing","many"]) fun _ _ _ _ _ _ us hl => by obtain ⟨_,_,rfl⟩:=fX hl; rfl
 have E_are_below:=ent X G e_are_below (ps:=["thing","many"]) fun _ _ _ _ _ _ us hl => by obtain ⟨_,_,rfl⟩:=fX hl; rfl
 have E_are_unlike:=ent X G e_are_unlike (ps:=["things"]) fun _ _ _ _ _ _ us hl => by obtain ⟨_,rfl⟩:=ig hl; rfl
 have E_linked:=ent X G e_linked (ps:=["labels","one","other"]) fun _ _ _ _ _ _ us hl => by obtain ⟨_,_,_,rfl⟩:=kN hl; rfl
 have E_need_head:=ent X G e_need_head (ps:=["layout","thing"]) fun _ _ _ _ _ _ us hl => by obtain ⟨_,_,rfl⟩:=fX hl; rfl
 have E_heads_of:=ent X G e_heads_of (ps:=["layout","column"]) fun _ _ _ _ _ _ us hl => by obtain ⟨_,_,rfl⟩:=fX hl; rfl
 have E_common:=ent X G e_common (ps:=["layout","one","other"]) fun _ _ _ _ _ _ us hl => by obtain ⟨_,_,_,rfl⟩:=kN hl; rfl
 have E_columns_in_heads:=ent X G e_columns_in_heads (ps:=["layout"]) fun _ _ _ _ _ _ us hl => by obtain ⟨_,rfl⟩:=ig hl; rfl
 have E_pieces:=ent X G e_pieces (ps:=["layout"]) fun _ _ _ _ _ _ us hl => by obtain ⟨_,rfl⟩:=ig hl; rfl
 have E_with_next:=ent X G e_with_next (ps:=["heads"]) fun _ _ _ _ _ _ us hl => by obtain ⟨_,rfl⟩:=ig hl; rfl
 have E_are_unlike_below:=ent X G e_are_unlike_below (ps:=["thing","many"]) fun _ _ _ _ _ _ us hl => by obtain ⟨_,_,rfl⟩:=fX hl; rfl
 have E_is_loop:=ent X G e_is_loop (ps:=["layout","thing"]) fun _ _ _ _ _ _ us hl => by obtain ⟨_,_,rfl⟩:=fX hl; rfl
 have E_loop_by:=ent X G e_loop_by (ps:=["layout","heads","columns","head"]) fun _ _ _ _ _ _ us hl => by obtain ⟨_,_,_,_,rfl⟩:=F9 hl; rfl
 have E_loop_from:=ent X G e_loop_from (ps:=["layout","heads","columns"]) fun _ _ _ _ _ _ us hl => by obtain ⟨_,_,_,rfl⟩:=kN hl; rfl
 have E_loop_of:=ent X G e_loop_of (ps:=["layout"]) fun _ _ _ _ _ _ us hl => by obtain ⟨_,rfl⟩:=ig hl; rfl
 have E_counts_of:=ent X G e_counts_of (ps:=["layout"]) fun _ _ _ _ _ _ us hl => by obtain ⟨_,rfl⟩:=ig hl; rfl
 have E__law_cell:=ent X G e__law_cell (ps:=["_law_script","_law_k"]) fun _ _ _ _ _ _ us hl => by obtain ⟨_,_,rfl⟩:=fX hl; rfl
 have E__law_mix:=ent X G e__law_mix (ps:=["_law_cell_here","_law_k"]) fun _ _ _ _ _ _ us hl => by obtain ⟨_,_,rfl⟩:=fX hl; rfl
 have E__law_box:=ent X G e__law_box (ps:=["_law_script","_law_k"]) fun _ _ _ _ _ _ us hl => by obtain ⟨_,_,rfl⟩:=fX hl; rfl
 have E__law_take:=ent X G e__law_take (ps:=["_law_box_here","_law_many"]) fun _ _ _ _ _ _ us hl => by obtain ⟨_,_,rfl⟩:=fX hl; rfl
 have E__law_head:=ent X G e__law_head (ps:=["_law_box_here","_law_many"]) fun _ _ _ _ _ _ us hl => by obtain ⟨_,_,rfl⟩:=fX hl; rfl
 have E__law_grown:=ent X G e__law_grown (ps:=["_law_box_here","_law_many","_law_heads"]) fun _ _ _ _ _ _ us hl => by obtain ⟨_,_,_,rfl⟩:=kN hl; rfl
 have E__law_barred:=ent X G e__law_barred (ps:=["_law_box_here","_law_many"]) fun _ _ _ _ _ _ us hl => by obtain ⟨_,_,rfl⟩:=fX hl; rfl
 have E__law_named:=ent X G e__law_named (ps:=["_law_box_here","_law_many","_law_heads"]) fun _ _ _ _ _ _ us hl => by obtain ⟨_,_,_,rfl⟩:=kN hl; rfl
 have E__law_layout:=ent X G e__law_layout (ps:=["_law_box_here","_law_most","_law_heads"]) fun _ _ _ _ _ _ us hl => by obtain ⟨_,_,_,rfl⟩:=kN hl; rfl
 have E__law_whole:=ent X G e__law_whole (ps:=["_law_found"]) fun _ _ _ _ _ _ us hl => by obtain ⟨_,rfl⟩:=ig hl; rfl
 have E__law_odd:=ent X G e__law_odd (ps:=["_law_box_here"]) fun _ _ _ _ _ _ us hl => by obtain ⟨_,rfl⟩:=ig hl; rfl
 have E__law_columns:=ent X G e__law_columns (ps:=["_law_layout_here"]) fun _ _ _ _ _ _ us hl => by obtain ⟨_,rfl⟩:=ig hl; rfl
 have E__law_turns:=ent X G e__law_turns (ps:=["_law_layout_here","_law_thing","_law_least"]) fun _ _ _ _ _ _ us hl => by obtain ⟨_,_,_,rfl⟩:=kN hl; rfl
 have E__law_drawn_turns:=ent X G e__law_drawn_turns (ps:=["_law_box_here","_law_layout_here"]) fun _ _ _ _ _ _ us hl => by obtain ⟨_,_,rfl⟩:=fX hl; rfl
 have E__law_bent:=ent X G e__law_bent (ps:=["_law_box_here","_law_layout_here","_law_thing"]) fun _ _ _ _ _ _ us hl => by obtain ⟨_,_,_,rfl⟩:=kN hl; rfl
 have E__law_pieces:=ent X G e__law_pieces (ps:=["_law_heads"]) fun _ _ _ _ _ _ us hl => by obtain ⟨_,rfl⟩:=ig hl; rfl
 exact Jj X G hfa e_law (fun _ _ _ _ _ _ s v => .of_eq rfl) d7 (fun base => by
  have G_q25:i8 l.prog w K mg base 1:=Ed (k:=0) E_is_whole m
  have G_q23:eK l.prog w K mg base 2:=Fe (k:=1) E_is_below (G_q25.up (by decide))
  have G_q15:ix l.prog w K mg base 3:=EY (k:=2) E_are_below m (G_q23.up (by decide))
  have G_q7:gD l.prog w K mg base 1:=Hk (k:=0) E_are_unlike m
  have G_q31:l8 l.prog w K mg base 1:=Dp (k:=0) E_linked m
  have G_q13:hU l.prog w K mg base 3:=EA (k:=2) E_need_head m (G_q23.up (by decide))
  have G_q22:gi l.prog w K mg base 3:=FK (k:=2) E_heads_of m (G_q23.up (by decide))
  have G_q30:jJ l.prog w K mg base 4:=E4 (k:=3) E_common m (G_q13.up (by decide))
  have G_q0:dz l.prog w K mg base 4:=GC (k:=3) E_columns_in_heads m (G_q22.up (by decide))
  have G_q32:l_ l.prog w K mg base 5:=Fu (k:=4) E_pieces m (G_q30.up (by decide)) (G_q31.up (by decide))
  have G_q20:g6 l.prog w K mg base 1:=FG (k:=0) E_with_next m
  have G_q1:dv l.prog w K mg base 4:=HA (k:=3) E_are_unlike_below (G_q15.up (by decide)) (G_q7.up (by decide))
  have G_q28:jZ l.prog w K mg base 5:=D6 (k:=4) E_is_loop m (G_q1.up (by decide)) (G_q30.up (by decide)) (G_q20.up (by decide))
  have G_q18:kL l.prog w K mg base 19:=yR (k:=3) E_loop_from E_loop_by (G_q22.up (by decide)) 8
  have G_q29:j8 l.prog w K mg base 20:=EK (k:=19) E_loop_of m (G_q18.up (by decide))
  have G_q12:iu l.prog w K mg base 6:=Ei (k:=5) E_counts_of m (G_q0.up (by decide)) (G_q32.up (by decide))
  have G_q17:ir l.prog w K mg base 1:=Fv (k:=0) E__law_cell m
  have G_q26:i_ l.prog w K mg base 1:=Fi (k:=0) E__law_mix
  have G_q24:i9 l.prog w K mg base 2:=DM (k:=1) E__law_box m (G_q17.up (by decide)) (G_q26.up (by decide))
  have G_q14:bZ l.prog w K mg base 1:=EH (k:=0) E__law_take m
  have G_q19:fj l.prog w K mg base 2:=DD (k:=1) E__law_head m (G_q14.up (by decide))
  have G_q11:gF l.prog w K mg base 3:=Ff (k:=2) E__law_grown m (G_q19.up (by decide)) (G_q14.up (by decide))
  have G_q6:fC l.prog w K mg base 2:=Hz (k:=1) E__law_barred m (G_q14.up (by decide))
  have G_q10:gf l.prog w K mg base 2:=EZ (k:=1) E__law_named m (G_q14.up (by decide))
  have G_q5:fB l.prog w K mg base 4:=Gp (k:=3) E__law_layout m (G_q6.up (by decide)) (G_q11.up (by decide)) (G_q19.up (by decide)) (G_q10.up (by decide)) (G_q14.up (by decide))
  have G_q8:eA l.prog w K mg base 1:=Ht (k:=0) E__law_whole m
  have G_q21:fZ l.prog w K mg base 2:=Es (k:=1) E__law_odd m (G_q14.up (by decide))
  have G_q3:eP l.prog w K mg base 1:=Gy (k:=0) E__law_columns m
  have G_q9:gH l.prog w K mg base 2:=GD (k:=1) E__law_turns m (G_q8.up (by decide))
  have G_q2:dw l.prog w K mg base 2:=GK (k:=1) E__law_drawn_turns m (G_q14.up (by decide))
  have G_q16:gX l.prog w K mg base 3:=Dr (k:=2) E__law_bent m (G_q21.up (by decide)) (G_q14.up (by decide))
  have G_q4:fA l.prog w K mg base 1:=Gi (k:=0) E__law_pieces m
  exact Hj (k:=20) m (G_q16.up (by decide)) (G_q24.up (by decide)) (G_q3.up (by decide)) (G_q2.up (by decide)) (G_q5.up (by decide)) (G_q21.up (by decide)) (G_q4.up (by decide)) (G_q9.up (by decide)) (G_q8.up (by decide)) (G_q12.up (by decide)) (G_q28.up (by decide)) (G_q29.up (by decide))) fun _ _ _ F => Cf F zt
end K43
open PySem PySem.W PyProof.Rows
set_option maxRecDepth 100000
set_option maxHeartbeats 0
namespace TopAll
open PySem PySem.W PySem.Calls PyProof.Rows
def run (st:SharedT→Thread→Option (SharedT×Thread)) (ok:Thread→Bool):Nat→SharedT→Thread→Option SharedT
 |0,_,_=>none
 |n+1,s,t=>match through t with
  |true=>some s
  |false=>match ok t with
   |false=>none
   |true=>match st s t with
    |some (s',t')=>run st ok n s' t'
    |none=>none
theorem run_spec {tb:String→Option Builtin} {p:Program} {w:World} {m:Nat} {an:Option Value}:∀ {n:Nat} {s s':SharedT} {t:Thread},
  run (stepT (denote tb) p w) (stepOk m an) n s t=some s' → topRun tb p w m an n s.abs t=some s'.abs
 |0,_,_,_,h=>by cases h
 |n+1,s,s',t,h=>by
  unfold run at h
  unfold topRun
  cases ht:through t with
  |true=>rw [ht] at h;cases h;rfl
  |false=>
   rw [ht] at h
   cases hk:stepOk m an t with
   |false=>rw [hk] at h;cases h
   |true=>
    rw [hk] at h
    cases hs:stepT (denote tb) p w s t with
    |none=>rw [hs] at h;cases h
    |some r=>obtain ⟨s2,t2⟩:=r;rw [hs] at h;rw [stepT_spec hs];exact run_spec h
noncomputable def boot (w:World) (os:OsState):SharedT:=⟨(boot_heap w.params).objs.toList.zipIdx.foldl (fun t x=>t.ins x.2 x.1) BT.nil,11,(boot_heap w.params).life,Array.mk [],boot_drawn,boot_toks,os⟩
theorem boot_abs (w:World) (os:OsState):(boot w os).abs=⟨boot_heap w.params,Array.mk [],boot_drawn,boot_toks,os⟩:=by kernel_rfl
theorem boot_size (w:World):((boot_heap w.params).isNs mainGlobals && (Array.mk []:Array GenState).size==0,(boot_heap w.params).objs.size,(boot_heap w.params).nsMap mainGlobals "__annotations__")=(true,11,some (.ref 6)):=by kernel_rfl
noncomputable abbrev go (p:Program) (w:World) (N:Nat) (os:OsState):Option SharedT:=run (Fast.tw10156331382660048174 (Fast.tw11892475500146522536 Fast.tw14364793385576792824) p w) (Fast.tw6613529449190102663 11 (some (.ref 6))) N (boot w os) (topStub p)
theorem left {p q:Program} {lo:List Str} {Xt:Shared→Bool} {α:Type} {Yf:Shared→α} {Ya:World→α} {N:Nat} {g0:Bool}
  (e:opening p=plainProg p.main.scope.names) (hN:Nat.ble 600 N=true) (f:∀ s,fenceModules? p s=some s)
  (u1:∀ w:World,(fun os=>(go p w N os).map fun S=>((staticsOk (importedModules p.main.body) (boot_heap w.params) S.abs.heap && namesBound p S.abs.heap && gensDone S.abs && laidKept (boot_heap w.params) S.abs.heap),
   (Fast.tw4187177175401517315 q lo (Fast.tw5923862056798008813 p.main.body) Xt g0 S.abs).1))=fun _=>some (true,(openGood q lo).1))
  (u2:∀ w:World,(fun os=>(go p w N os).map fun S=>(Fast.tw4187177175401517315 q lo (Fast.tw5923862056798008813 p.main.body) Xt g0 S.abs).2)=fun _=>some (openGood q lo).2)
  (u3:∀ w:World,(fun os=>(go p w N os).map fun S=>Yf S.abs)=fun _=>some (Ya w)):LeftO p q lo Xt Yf Ya N g0:=fun w=>by
 obtain ⟨⟨h,gs,d,k,os⟩,e1,e'⟩:=Option.map_eq_some_iff.mp (boot_open e hN f w)
 obtain ⟨rfl,rfl,rfl,rfl⟩:h=boot_heap w.params∧gs=Array.mk []∧d=boot_drawn∧k=boot_toks:=by simpa using e'
 obtain ⟨z1,z2,z3⟩:_∧_∧_:=by simpa only [Prod.mk.injEq] using boot_size w
 obtain ⟨S,r,l1⟩:=Option.map_eq_some_iff.mp (congrFun (u1 w) os)
 have l2:=congrFun (u2 w) os
 have l3:=congrFun (u3 w) os
 simp only [r,Option.map_some,Option.some.injEq] at l2 l3
 obtain ⟨l1,l4⟩:=Prod.mk.inj l1
 rw [←Fast.te4187177175401517315,←Fast.te5923862056798008813] at l2 l4
 unfold go at r
 rw [←Fast.te10156331382660048174,←Fast.te11892475500146522536,←Fast.te14364793385576792824,←Fast.te6613529449190102663] at r
 have r:=run_spec r
 rw [boot_abs] at r
 have t:topFrom treeTable p w N ⟨boot_heap w.params,Array.mk [],boot_drawn,boot_toks,os⟩=some S.abs:=by
  unfold topFrom
  dsimp only
  rw [z1,z2,z3,r]
  show (match staticsOk (importedModules p.main.body) (boot_heap w.params) S.abs.heap && namesBound p S.abs.heap && gensDone S.abs && laidKept (boot_heap w.params) S.abs.heap with |true=>_|false=>_)=_
  rw [l1]
 unfold openEnds
 rw [e1]
 show (topFrom treeTable p w N _).map _=_
 rw [t]
 exact congrArg some (Prod.ext (Prod.ext l4 l2) l3)
end TopAll
abbrev TopAll.q:PySem.Program:=PySem.W.view PySem.Challenge.rw_jointrees_k43_loops_and_counts.prog [1,2,3,4,5,7,8,9,11,12,13,14,15,17,18,19,20,21,22,23,24,26,27,28,29,30,31,32,33,34,35,36,37,38,39,40,41,42]
open PySem PySem.W PySem.Calls PyProof.Rows
theorem TopAll.law:PySem.Challenge.rw_jointrees_k43_loops_and_counts.wellSaid=true:=by
 rw [Fast.te9446332074065402090]
 kernel_rfl
theorem TopAll.u1 (w:World):(fun os=>(TopAll.go PySem.Challenge.rw_jointrees_k43_loops_and_counts.row.prog w 8000 os).map fun S=>((staticsOk (importedModules PySem.Challenge.rw_jointrees_k43_loops_and_counts.row.prog.main.body) (boot_heap w.params) S.abs.heap && namesBound PySem.Challenge.rw_jointrees_k43_loops_and_counts.row.prog S.abs.heap && gensDone S.abs && laidKept (boot_heap w.params) S.abs.heap),
   (Fast.tw4187177175401517315 TopAll.q [] (Fast.tw5923862056798008813 PySem.Challenge.rw_jointrees_k43_loops_and_counts.row.prog.main.body) (fun s=>xlAt TopAll.q [] s && recOk [] s) true S.abs).1))=fun _=>some (true,(openGood TopAll.q []).1):=by kernel_rfl
theorem TopAll.u2 (w:World):(fun os=>(TopAll.go PySem.Challenge.rw_jointrees_k43_loops_and_counts.row.prog w 8000 os).map fun S=>(Fast.tw4187177175401517315 TopAll.q [] (Fast.tw5923862056798008813 PySem.Challenge.rw_jointrees_k43_loops_and_counts.row.prog.main.body) (fun s=>xlAt TopAll.q [] s && recOk [] s) true S.abs).2)=fun _=>some (openGood TopAll.q []).2:=by kernel_rfl
set_option hygiene false in
local macro_rules |`(tactic|o_head $H)=>`(tactic|(refine holds_open (r:=PySem.Challenge.rw_jointrees_k43_loops_and_counts.row) (q:=TopAll.q) (loose:=[]) (Xt:=fun s=>xlAt TopAll.q [] s && recOk [] s) (XP:=XL TopAll.q []) (Yf:=Hook.obs $H) (Ya:=Hook.val $H) (YP:=Hook.says $H) (N:=8000) ?hl (Hook.of $H) (Hook.keeps $H) (fun s e=>xl_of s (Bool.and_eq_true_iff.mp e).1) XL.keeps (by rfl) (by rfl) (by rfl) (fun s e=>recFacts_of (Bool.and_eq_true_iff.mp e).2) (by rfl) (by assumption) (by decide +kernel) ⟨rfl,rfl,rfl,rfl,rfl,by decide +kernel⟩ ?hw ?hc;(case hl=>exact TopAll.left (by kernel_rfl) (by decide) (fun s=>by kernel_rfl) TopAll.u1 TopAll.u2 (fun w=>by kernel_rfl))))
set_option maxRecDepth 100000 in
set_option maxHeartbeats 0 in
theorem PySem.Challenge.cw_jointrees_k43_loops_and_counts_holds : PySem.Challenge.rw_jointrees_k43_loops_and_counts.Holds := by
 w_on;refine holds_law TopAll.law fun said=>?_;k_head;(case hw=>w_witness2)
 k_fill
 refine Jt.walkB (l:=PySem.Challenge.rw_jointrees_k43_loops_and_counts) (k:=21) rfl rfl ⟨rfl,by decide,by decide,rfl⟩ (fun w h Y => PySem.W.kIn_of Y) ?L ?F
 case L => intro w; kernel_rfl
 case F =>
  intro w mg fa h KX G hmg
  refine' K43.all_mk KX G hmg ?_ ?_ ?_ ?_ ?_ ?_ ?_ ?_ ?_ ?_ ?_ ?_ ?_ ?_ ?_ ?_ ?_ ?_ ?_ ?_ ?_ ?_ ?_ ?_ ?_ ?_ ?_ ?_ ?_ ?_ ?_ ?_ ?_ ?_ ?z ?y_LEAST_LOOP
  (case y_LEAST_LOOP => k_is)
  case z => refine ⟨?_,?_,?_,?_,?_,?_,?_,?_,?_,?_,?_,?_,?_,?_,?_,?_⟩ <;> k_is
  all_goals (refine' Jt.fh_mk ?a ?l ?c ?k; (case a => k_is); (case l => k_is); (case c => k_is); (case k => k_is))
