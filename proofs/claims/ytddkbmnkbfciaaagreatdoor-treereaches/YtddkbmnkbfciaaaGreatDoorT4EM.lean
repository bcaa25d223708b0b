/- What the proof stands on: T4E, T4F, T4G, T4H. -/
import Derived.Test.YtddkbmnkbfciaaaGreatDoorI2CcM
import Derived.Test.YtddkbmnkbfciaaaGreatDoorRFnM
import Derived.Test.YtddkbmnkbfciaaaGreatDoorZE
namespace Go.Proofs.YtddkbmnkbfciaaaGreatDoor
open Go.RowKit Go.Shelf
attribute [local go_sem] Oper.semAt_some
theorem iszL (A:Array Value) (h:A.size=6):(Tryz.prog.info? 117).map (·.size)=some A.size:=by rw [h];kernel_rfl
theorem iszP (A:Array Value) (h:A.size=3):(Tryz.prog.info? 121).map (·.size)=some A.size:=by rw [h];kernel_rfl
def zLf:List Value:=[.slice none 0 0,.slice none 0 0,.slice none 0 0,.int .i64 0,.slice none 0 0,.slice none 0 0]
def zPr:List Value:=[.slice none 0 0,.slice none 0 0,.slice none 0 0]
theorem ta_ll (v:Value) (w:World):(Instr.typeAssert (.iface 117 v) 90 117 true).run Tryz.prog w = .ok (.tuple #[v,.bool true]) w:=by kernel_rfl
theorem ta_lp (v:Value) (w:World):(Instr.typeAssert (.iface 121 v) 90 117 true).run Tryz.prog w = .ok (.tuple #[.agg zLf.toArray,.bool false]) w:=by kernel_rfl
theorem ta_ln (w:World):(Instr.typeAssert .nilIface 90 117 true).run Tryz.prog w = .ok (.tuple #[.agg zLf.toArray,.bool false]) w:=by kernel_rfl
theorem ta_pp (v:Value) (w:World):(Instr.typeAssert (.iface 121 v) 90 121 true).run Tryz.prog w = .ok (.tuple #[v,.bool true]) w:=by kernel_rfl
theorem ta_pl (v:Value) (w:World):(Instr.typeAssert (.iface 117 v) 90 121 true).run Tryz.prog w = .ok (.tuple #[.agg zPr.toArray,.bool false]) w:=by kernel_rfl
theorem ta_pn (w:World):(Instr.typeAssert .nilIface 90 121 true).run Tryz.prog w = .ok (.tuple #[.agg zPr.toArray,.bool false]) w:=by kernel_rfl
set_option maxRecDepth 20000 in
theorem leafOf_leaf (A:Array Value) (h6:A.size=6) (h1:A.all (·.oneCell')=true) (w:World):Calls Tryz.prog 88 #[.iface 117 (.agg A)] w fun e w'=>e = .returned (.tuple #[.agg A,.bool true])∧Below w.heap.size w w':=by
 have hta:=fun w=>ta_ll (.agg A) w
 have k1:=RW.fresh w zLf 117
 have b1:Below w.heap.size w (w.alloc (.cells zLf.toArray 117)):=(Below.refl _ _).alloc (Nat.le_refl _) _
 have s1:(w.alloc (.cells zLf.toArray 117)).heap.size=w.heap.size+1:=by simp
 obtain ⟨W1,hW1⟩:∃ W1,W1=w.alloc (.cells zLf.toArray 117):=⟨_,rfl⟩
 rw [←hW1] at k1 b1 s1
 have HW1:=Hid.mk' (show W1=w.alloc (.cells #[.slice none 0 0,.slice none 0 0,.slice none 0 0,.int .i64 0,.slice none 0 0,.slice none 0 0] 117) from hW1)
 clear hW1
 have hi:=iszL A h6
 have k2:=RW.fresh W1 zLf 117
 have b2:Below W1.heap.size W1 (W1.alloc (.cells zLf.toArray 117)):=(Below.refl _ _).alloc (Nat.le_refl _) _
 have s2:(W1.alloc (.cells zLf.toArray 117)).heap.size=W1.heap.size+1:=by simp
 obtain ⟨W2,hW2⟩:∃ W2,W2=W1.alloc (.cells zLf.toArray 117):=⟨_,rfl⟩
 rw [←hW2] at k2 b2 s2
 have HW2:=Hid.mk' (show W2=W1.alloc (.cells #[.slice none 0 0,.slice none 0 0,.slice none 0 0,.int .i64 0,.slice none 0 0,.slice none 0 0] 117) from hW2)
 clear hW2
 rw [s1] at k2
 have st2:RW (W2.setCells (w.heap.size+1) 0 A.toList) (w.heap.size+1) 0 A.toList:=k2.stored A.toList (by simp [h6,zLf])
 have st1:RW (W2.setCells (w.heap.size+1) 0 A.toList) w.heap.size 0 zLf:=(k1.still b2).far _ _ _ (.inl (by omega))
 have b3:Below w.heap.size w (W2.setCells (w.heap.size+1) 0 A.toList):=below_setCells (by omega) _ _ _ (below_next b1 b2)
 have t2:=k2.there
 rw [show zLf.length=A.size by simp [h6,zLf]] at t2
 generalize hW3:W2.setCells (w.heap.size+1) 0 A.toList=W3 at *
 have r2:=st2.range
 have st0:RW (W3.setCells w.heap.size 0 A.toList) w.heap.size 0 A.toList:=st1.stored A.toList (by simp [h6,zLf])
 have b4:Below w.heap.size w (W3.setCells w.heap.size 0 A.toList):=below_setCells (Nat.le_refl _) _ _ _ b3
 have t1:=st1.there
 rw [show zLf.length=A.size by simp [h6,zLf]] at t1
 have hal:A.toList.length=A.size:=by simp
 have hal2:A.toList.toArray=A:=by simp
 go_enter Tryz.func88,Tryz.ntmps88
 go_wp2_with (first
  | (rw [←HW1.out];clear HW1)
  | (rw [←HW2.out];clear HW2)
  | (refine wpList_store_mid rfl 117 _ _ rfl _ 0 A rfl rfl t2 hi h1 ?_;rw [hW3];clear hW3)
  | (refine wpList_load_mid rfl 117 _ rfl _ 0 rfl _ _ r2 Tryz.underlying117 rfl (by rw [hal];exact hi) ?_;rw [hal2])
  | (refine wpList_store_mid rfl 117 _ _ rfl _ 0 A rfl rfl t1 hi h1 ?_))
 refine bodyPost_ret (results_ct rfl _ _ _ _ _ _ rfl rfl st0.range Tryz.underlying117 rfl (by rw [hal];exact hi)) rfl ?_
 exact ⟨by simp,b4⟩
set_option maxRecDepth 20000 in
theorem leafOf_par (A0:Array Value) (w:World):Calls Tryz.prog 88 #[.iface 121 (.agg A0)] w fun e w'=>e = .returned (.tuple #[.agg zLf.toArray,.bool false])∧Below w.heap.size w w':=by
 have hta:=fun w=>ta_lp (.agg A0) w
 have k1:=RW.fresh w zLf 117
 have b1:Below w.heap.size w (w.alloc (.cells zLf.toArray 117)):=(Below.refl _ _).alloc (Nat.le_refl _) _
 have s1:(w.alloc (.cells zLf.toArray 117)).heap.size=w.heap.size+1:=by simp
 obtain ⟨W1,hW1⟩:∃ W1,W1=w.alloc (.cells zLf.toArray 117):=⟨_,rfl⟩
 rw [←hW1] at k1 b1 s1
 have HW1:=Hid.mk' (show W1=w.alloc (.cells #[.slice none 0 0,.slice none 0 0,.slice none 0 0,.int .i64 0,.slice none 0 0,.slice none 0 0] 117) from hW1)
 clear hW1
 obtain ⟨A,hA⟩:∃ A,A=zLf.toArray:=⟨_,rfl⟩
 have h6:A.size=6:=by rw [hA];rfl
 have h1:A.all (·.oneCell')=true:=by rw [hA,List.all_toArray];simp [zLf,Value.oneCell']
 rw [←hA] at hta ⊢
 have HA:=Hid.mk' (show A=#[.slice none 0 0,.slice none 0 0,.slice none 0 0,.int .i64 0,.slice none 0 0,.slice none 0 0] from hA)
 clear hA
 have hi:=iszL A h6
 obtain ⟨W3,hW3⟩:∃ W3,W3=W1:=⟨_,rfl⟩
 have st1:RW W3 w.heap.size 0 zLf:=by rw [hW3];exact k1
 have b3:Below w.heap.size w W3:=by rw [hW3];exact b1
 subst hW3
 have st0:RW (W3.setCells w.heap.size 0 A.toList) w.heap.size 0 A.toList:=st1.stored A.toList (by simp [h6,zLf])
 have b4:Below w.heap.size w (W3.setCells w.heap.size 0 A.toList):=below_setCells (Nat.le_refl _) _ _ _ b3
 have t1:=st1.there
 rw [show zLf.length=A.size by simp [h6,zLf]] at t1
 have hal:A.toList.length=A.size:=by simp
 have hal2:A.toList.toArray=A:=by simp
 go_enter Tryz.func88,Tryz.ntmps88
 go_wp2_with (first
  | (rw [←HW1.out];clear HW1)
  | (rw [←HA.out];clear HA)
  | (refine wpList_store_mid rfl 117 _ _ rfl _ 0 A rfl rfl t1 hi h1 ?_))
 refine bodyPost_ret (results_ct rfl _ _ _ _ _ _ rfl rfl st0.range Tryz.underlying117 rfl (by rw [hal];exact hi)) rfl ?_
 exact ⟨by simp,b4⟩
set_option maxRecDepth 20000 in
theorem leafOf_nil (w:World):Calls Tryz.prog 88 #[.nilIface] w fun e w'=>e = .returned (.tuple #[.agg zLf.toArray,.bool false])∧Below w.heap.size w w':=by
 have hta:=ta_ln
 have k1:=RW.fresh w zLf 117
 have b1:Below w.heap.size w (w.alloc (.cells zLf.toArray 117)):=(Below.refl _ _).alloc (Nat.le_refl _) _
 have s1:(w.alloc (.cells zLf.toArray 117)).heap.size=w.heap.size+1:=by simp
 obtain ⟨W1,hW1⟩:∃ W1,W1=w.alloc (.cells zLf.toArray 117):=⟨_,rfl⟩
 rw [←hW1] at k1 b1 s1
 have HW1:=Hid.mk' (show W1=w.alloc (.cells #[.slice none 0 0,.slice none 0 0,.slice none 0 0,.int .i64 0,.slice none 0 0,.slice none 0 0] 117) from hW1)
 clear hW1
 obtain ⟨A,hA⟩:∃ A,A=zLf.toArray:=⟨_,rfl⟩
 have h6:A.size=6:=by rw [hA];rfl
 have h1:A.all (·.oneCell')=true:=by rw [hA,List.all_toArray];simp [zLf,Value.oneCell']
 rw [←hA] at hta ⊢
 have HA:=Hid.mk' (show A=#[.slice none 0 0,.slice none 0 0,.slice none 0 0,.int .i64 0,.slice none 0 0,.slice none 0 0] from hA)
 clear hA
 have hi:=iszL A h6
 obtain ⟨W3,hW3⟩:∃ W3,W3=W1:=⟨_,rfl⟩
 have st1:RW W3 w.heap.size 0 zLf:=by rw [hW3];exact k1
 have b3:Below w.heap.size w W3:=by rw [hW3];exact b1
 subst hW3
 have st0:RW (W3.setCells w.heap.size 0 A.toList) w.heap.size 0 A.toList:=st1.stored A.toList (by simp [h6,zLf])
 have b4:Below w.heap.size w (W3.setCells w.heap.size 0 A.toList):=below_setCells (Nat.le_refl _) _ _ _ b3
 have t1:=st1.there
 rw [show zLf.length=A.size by simp [h6,zLf]] at t1
 have hal:A.toList.length=A.size:=by simp
 have hal2:A.toList.toArray=A:=by simp
 go_enter Tryz.func88,Tryz.ntmps88
 go_wp2_with (first
  | (rw [←HW1.out];clear HW1)
  | (rw [←HA.out];clear HA)
  | (refine wpList_store_mid rfl 117 _ _ rfl _ 0 A rfl rfl t1 hi h1 ?_))
 refine bodyPost_ret (results_ct rfl _ _ _ _ _ _ rfl rfl st0.range Tryz.underlying117 rfl (by rw [hal];exact hi)) rfl ?_
 exact ⟨by simp,b4⟩
set_option maxRecDepth 20000 in
theorem parentOf_par (A:Array Value) (h6:A.size=3) (h1:A.all (·.oneCell')=true) (w:World):Calls Tryz.prog 92 #[.iface 121 (.agg A)] w fun e w'=>e = .returned (.tuple #[.agg A,.bool true])∧Below w.heap.size w w':=by
 have hta:=fun w=>ta_pp (.agg A) w
 have k1:=RW.fresh w zPr 121
 have b1:Below w.heap.size w (w.alloc (.cells zPr.toArray 121)):=(Below.refl _ _).alloc (Nat.le_refl _) _
 have s1:(w.alloc (.cells zPr.toArray 121)).heap.size=w.heap.size+1:=by simp
 obtain ⟨W1,hW1⟩:∃ W1,W1=w.alloc (.cells zPr.toArray 121):=⟨_,rfl⟩
 rw [←hW1] at k1 b1 s1
 have HW1:=Hid.mk' (show W1=w.alloc (.cells #[.slice none 0 0,.slice none 0 0,.slice none 0 0] 121) from hW1)
 clear hW1
 have hi:=iszP A h6
 have k2:=RW.fresh W1 zPr 121
 have b2:Below W1.heap.size W1 (W1.alloc (.cells zPr.toArray 121)):=(Below.refl _ _).alloc (Nat.le_refl _) _
 have s2:(W1.alloc (.cells zPr.toArray 121)).heap.size=W1.heap.size+1:=by simp
 obtain ⟨W2,hW2⟩:∃ W2,W2=W1.alloc (.cells zPr.toArray 121):=⟨_,rfl⟩
 rw [←hW2] at k2 b2 s2
 have HW2:=Hid.mk' (show W2=W1.alloc (.cells #[.slice none 0 0,.slice none 0 0,.slice none 0 0] 121) from hW2)
 clear hW2
 rw [s1] at k2
 have st2:RW (W2.setCells (w.heap.size+1) 0 A.toList) (w.heap.size+1) 0 A.toList:=k2.stored A.toList (by simp [h6,zPr])
 have st1:RW (W2.setCells (w.heap.size+1) 0 A.toList) w.heap.size 0 zPr:=(k1.still b2).far _ _ _ (.inl (by omega))
 have b3:Below w.heap.size w (W2.setCells (w.heap.size+1) 0 A.toList):=below_setCells (by omega) _ _ _ (below_next b1 b2)
 have t2:=k2.there
 rw [show zPr.length=A.size by simp [h6,zPr]] at t2
 generalize hW3:W2.setCells (w.heap.size+1) 0 A.toList=W3 at *
 have r2:=st2.range
 have st0:RW (W3.setCells w.heap.size 0 A.toList) w.heap.size 0 A.toList:=st1.stored A.toList (by simp [h6,zPr])
 have b4:Below w.heap.size w (W3.setCells w.heap.size 0 A.toList):=below_setCells (Nat.le_refl _) _ _ _ b3
 have t1:=st1.there
 rw [show zPr.length=A.size by simp [h6,zPr]] at t1
 have hal:A.toList.length=A.size:=by simp
 have hal2:A.toList.toArray=A:=by simp
 go_enter Tryz.func92,Tryz.ntmps92
 go_wp2_with (first
  | (rw [←HW1.out];clear HW1)
  | (rw [←HW2.out];clear HW2)
  | (refine wpList_store_mid rfl 121 _ _ rfl _ 0 A rfl rfl t2 hi h1 ?_;rw [hW3];clear hW3)
  | (refine wpList_load_mid rfl 121 _ rfl _ 0 rfl _ _ r2 Tryz.underlying121 rfl (by rw [hal];exact hi) ?_;rw [hal2])
  | (refine wpList_store_mid rfl 121 _ _ rfl _ 0 A rfl rfl t1 hi h1 ?_))
 refine bodyPost_ret (results_ct rfl _ _ _ _ _ _ rfl rfl st0.range Tryz.underlying121 rfl (by rw [hal];exact hi)) rfl ?_
 exact ⟨by simp,b4⟩
set_option maxRecDepth 20000 in
theorem parentOf_leaf (A0:Array Value) (w:World):Calls Tryz.prog 92 #[.iface 117 (.agg A0)] w fun e w'=>e = .returned (.tuple #[.agg zPr.toArray,.bool false])∧Below w.heap.size w w':=by
 have hta:=fun w=>ta_pl (.agg A0) w
 have k1:=RW.fresh w zPr 121
 have b1:Below w.heap.size w (w.alloc (.cells zPr.toArray 121)):=(Below.refl _ _).alloc (Nat.le_refl _) _
 have s1:(w.alloc (.cells zPr.toArray 121)).heap.size=w.heap.size+1:=by simp
 obtain ⟨W1,hW1⟩:∃ W1,W1=w.alloc (.cells zPr.toArray 121):=⟨_,rfl⟩
 rw [←hW1] at k1 b1 s1
 have HW1:=Hid.mk' (show W1=w.alloc (.cells #[.slice none 0 0,.slice none 0 0,.slice none 0 0] 121) from hW1)
 clear hW1
 obtain ⟨A,hA⟩:∃ A,A=zPr.toArray:=⟨_,rfl⟩
 have h6:A.size=3:=by rw [hA];rfl
 have h1:A.all (·.oneCell')=true:=by rw [hA,List.all_toArray];simp [zPr,Value.oneCell']
 rw [←hA] at hta ⊢
 have HA:=Hid.mk' (show A=#[.slice none 0 0,.slice none 0 0,.slice none 0 0] from hA)
 clear hA
 have hi:=iszP A h6
 obtain ⟨W3,hW3⟩:∃ W3,W3=W1:=⟨_,rfl⟩
 have st1:RW W3 w.heap.size 0 zPr:=by rw [hW3];exact k1
 have b3:Below w.heap.size w W3:=by rw [hW3];exact b1
 subst hW3
 have st0:RW (W3.setCells w.heap.size 0 A.toList) w.heap.size 0 A.toList:=st1.stored A.toList (by simp [h6,zPr])
 have b4:Below w.heap.size w (W3.setCells w.heap.size 0 A.toList):=below_setCells (Nat.le_refl _) _ _ _ b3
 have t1:=st1.there
 rw [show zPr.length=A.size by simp [h6,zPr]] at t1
 have hal:A.toList.length=A.size:=by simp
 have hal2:A.toList.toArray=A:=by simp
 go_enter Tryz.func92,Tryz.ntmps92
 go_wp2_with (first
  | (rw [←HW1.out];clear HW1)
  | (rw [←HA.out];clear HA)
  | (refine wpList_store_mid rfl 121 _ _ rfl _ 0 A rfl rfl t1 hi h1 ?_))
 refine bodyPost_ret (results_ct rfl _ _ _ _ _ _ rfl rfl st0.range Tryz.underlying121 rfl (by rw [hal];exact hi)) rfl ?_
 exact ⟨by simp,b4⟩
set_option maxRecDepth 20000 in
theorem parentOf_nil (w:World):Calls Tryz.prog 92 #[.nilIface] w fun e w'=>e = .returned (.tuple #[.agg zPr.toArray,.bool false])∧Below w.heap.size w w':=by
 have hta:=ta_pn
 have k1:=RW.fresh w zPr 121
 have b1:Below w.heap.size w (w.alloc (.cells zPr.toArray 121)):=(Below.refl _ _).alloc (Nat.le_refl _) _
 have s1:(w.alloc (.cells zPr.toArray 121)).heap.size=w.heap.size+1:=by simp
 obtain ⟨W1,hW1⟩:∃ W1,W1=w.alloc (.cells zPr.toArray 121):=⟨_,rfl⟩
 rw [←hW1] at k1 b1 s1
 have HW1:=Hid.mk' (show W1=w.alloc (.cells #[.slice none 0 0,.slice none 0 0,.slice none 0 0] 121) from hW1)
 clear hW1
 obtain ⟨A,hA⟩:∃ A,A=zPr.toArray:=⟨_,rfl⟩
 have h6:A.size=3:=by rw [hA];rfl
 have h1:A.all (·.oneCell')=true:=by rw [hA,List.all_toArray];simp [zPr,Value.oneCell']
 rw [←hA] at hta ⊢
 have HA:=Hid.mk' (show A=#[.slice none 0 0,.slice none 0 0,.slice none 0 0] from hA)
 clear hA
 have hi:=iszP A h6
 obtain ⟨W3,hW3⟩:∃ W3,W3=W1:=⟨_,rfl⟩
 have st1:RW W3 w.heap.size 0 zPr:=by rw [hW3];exact k1
 have b3:Below w.heap.size w W3:=by rw [hW3];exact b1
 subst hW3
 have st0:RW (W3.setCells w.heap.size 0 A.toList) w.heap.size 0 A.toList:=st1.stored A.toList (by simp [h6,zPr])
 have b4:Below w.heap.size w (W3.setCells w.heap.size 0 A.toList):=below_setCells (Nat.le_refl _) _ _ _ b3
 have t1:=st1.there
 rw [show zPr.length=A.size by simp [h6,zPr]] at t1
 have hal:A.toList.length=A.size:=by simp
 have hal2:A.toList.toArray=A:=by simp
 go_enter Tryz.func92,Tryz.ntmps92
 go_wp2_with (first
  | (rw [←HW1.out];clear HW1)
  | (rw [←HA.out];clear HA)
  | (refine wpList_store_mid rfl 121 _ _ rfl _ 0 A rfl rfl t1 hi h1 ?_))
 refine bodyPost_ret (results_ct rfl _ _ _ _ _ _ rfl rfl st0.range Tryz.underlying121 rfl (by rw [hal];exact hi)) rfl ?_
 exact ⟨by simp,b4⟩
end Go.Proofs.YtddkbmnkbfciaaaGreatDoor
namespace Go.Proofs.YtddkbmnkbfciaaaGreatDoor
open Go.RowKit Go.Shelf
attribute [local go_sem] Oper.semAt_some
def Shp (v:Option Value):Prop:=v=none∨(∃ A:Array Value,v=some (.iface 117 (.agg A))∧A.size=6∧A.all (·.oneCell')=true)∨∃ A:Array Value,v=some (.iface 121 (.agg A))∧A.size=3∧A.all (·.oneCell')=true
def lfV:Option Value→Option (Array Value)
 | some (.iface t (.agg A))=>if t=117 then some A else none
 | _=>none
def prV:Option Value→Option (Array Value)
 | some (.iface t (.agg A))=>if t=121 then some A else none
 | _=>none
theorem thLf4 (W:World) (A:Array Value) (h:A.size=6):(W.alloc (.cells #[.slice none 0 0,.slice none 0 0,.slice none 0 0,.int .i64 0,.slice none 0 0,.slice none 0 0] 117)).there W.heap.size 0 A.size:=by
 rw [h];exact (RW.fresh W zLf 117).there
theorem stLf4 (W:World) (A:Array Value) (h:A.size=6) {X:World} (hX:X=(W.alloc (.cells #[.slice none 0 0,.slice none 0 0,.slice none 0 0,.int .i64 0,.slice none 0 0,.slice none 0 0] 117)).setCells W.heap.size 0 A.toList):RW X W.heap.size 0 A.toList∧Below W.heap.size W X:=by
 rw [hX]
 exact ⟨(RW.fresh W zLf 117).stored A.toList (by simp [h,zLf]),below_setCells (Nat.le_refl _) _ _ _ ((Below.refl _ _).alloc (Nat.le_refl _) _)⟩
structure PrivJ (I:(Nat→Prop)→World→Prop) (l q tb:Nat) (M:Nat→Prop) (V:World):Prop where
 inv:I M V
 yb:RW V q 0 [.func (.yield l) #[] #[]]
 pb:RW V (q+1) 0 [pA tb 0]
 ny:¬M q
 np:¬M (q+1)
theorem PrivJ.next {I I':(Nat→Prop)→World→Prop} {l q tb B:Nat} {M M':Nat→Prop} {X W':World} (h:PrivJ I l q tb M X) (hF:Fro B M X W') (hq:B≤q) (hM:∀ b,M' b→M b∨X.heap.size≤b) (hI:I' M' W'):PrivJ I' l q tb M' W' :=
 ⟨hI,hF.rw h.yb hq h.ny,hF.rw h.pb (by omega) h.np,fun h'=>by rcases hM _ h' with h2 | h2;exact h.ny h2;have:=h.yb.lt;omega,fun h'=>by rcases hM _ h' with h2 | h2;exact h.np h2;have:=h.pb.lt;omega⟩
theorem members_any (tb:Nat) (w:World):Calls Tryz.prog 86 #[pA tb 0] w fun e w'=>e = .returned (.func (.func 162) #[] #[pA w.heap.size 0])∧w'=w.alloc (.cells #[pA tb 0] 23):=by
 go_enter Tryz.func86,Tryz.ntmps86
 go_wp2
 go_ret
 exact ⟨rfl,rfl⟩
set_option maxRecDepth 100000 in
set_option maxHeartbeats 4000000 in
theorem members_it (pb tb mb n:Nat) (hn:mayB (n:Int)=true) (V:Nat→Option Value) (hV:∀ k,Shp (V k)) :
 Iter Tryz.prog 162 #[pA pb 0] (2*n - 1) (fun k=>(lfV (V k)).map fun A=>#[.int .i64 ((k / 2:Nat):Int),.agg A]) (HasV pb tb mb n V):=by
 intro l B Inv Brk hI hBr hH hsk hY M W hBW hM h0
 obtain ⟨⟨c1,c2,c3⟩,-⟩:=hH 0 M W (Nat.zero_le _) h0
 have hpl:pb<W.heap.size:=block_lt_of_cell c1
 obtain ⟨W1,hW1⟩:∃ W1,W1=W.alloc (.cells #[.func (.yield l) #[] #[]] 181):=⟨_,rfl⟩
 have r1:=RW.fresh W [.func (.yield l) #[] #[]] 181
 have b1:Below W.heap.size W W1:=by rw [hW1];exact (Below.refl _ _).alloc (Nat.le_refl _) _
 have s1:W1.heap.size=W.heap.size+1:=by rw [hW1];simp
 rw [show W.alloc (.cells [Value.func (.yield l) #[] #[]].toArray 181)=W1 from hW1.symm] at r1
 have c1':W1.cell? ⟨pb,0,none⟩=some (pA tb 0):=(b1.cell (p:=⟨pb,0,none⟩) hpl).trans c1
 have cp:=places_any tb W1
 obtain ⟨W2,hW2⟩:∃ W2,W2=W1.alloc (.cells #[pA tb 0] 23):=⟨_,rfl⟩
 have r2:=RW.fresh W1 [pA tb 0] 23
 have b2:Below W1.heap.size W1 W2:=by rw [hW2];exact (Below.refl _ _).alloc (Nat.le_refl _) _
 have s2:W2.heap.size=W.heap.size+2:=by rw [hW2];simp;omega
 rw [show W1.alloc (.cells [pA tb 0].toArray 23)=W2 from hW2.symm] at r2
 rw [←hW2] at cp
 have hit:=places_it W1.heap.size tb mb n hn V
 replace r1:=r1.still b2
 have hb2:=below_next b1 b2
 rw [s1] at hit r2 cp
 have HW1:=Hid.mk' hW1
 have Hs1:=Hid.mk' s1
 have Hs2:=Hid.mk' s2
 clear hW1 hW2 c1 b1 b2
 obtain ⟨nn,-⟩:∃ nn:Nat,True:=⟨1,trivial⟩
 refine (callsIn_wide (n:=nn)).1 ?_
 refine callsIn_of_wp_marks Tryz.func162 rfl trivial ?_ rfl
 simp only [Tryz.ntmps162,List.size_toArray,List.length_cons,List.length_nil,Nat.reduceAdd,Nat.reduceSub,Array.replicate_succ,Array.replicate_zero,List.push_toArray,List.append_toArray,List.nil_append,List.cons_append]
 gi_wp2_with (first
  | (rw [←HW1.out];clear HW1)
  | (refine ⟨trivial,(fun h=>by cases h),?_⟩;gi_at_call 56;refine (callsIn_wide.2 cp).mono ?_;clear cp;rintro e w1 ⟨rfl,rfl⟩))
 have s2:=Hs2.out
 have hym:∀ b,M b→b≠W.heap.size∧b≠(W.heap.size+1):=fun b hb=>by have:=hM b hb;omega
 refine range_it hit rfl (enters_of Tryz.func128 (by kernel_rfl) rfl)
  (fun k=>PrivJ (Inv k) l W.heap.size tb)
  (fun c M' V'=>c = .ret∧Brk M' V'∧w1.heap.size≤V'.heap.size) M ?_ ?_ ?_ ?_ ?_ (fun b hb=>by have:=hM b hb;omega) ?_ ?_ ?_ ?_
 · rintro k M' V1 V2 ⟨h1,h2,h3,h4,h5⟩ hL
   exact ⟨hI k M' V1 V2 h1 (hL.mono (by omega)),hL.rw h2 (.inl (by omega)),hL.rw h3 (.inl (by omega)),h4,h5⟩
 · rintro c M' V1 V2 ⟨h1,h2,h3⟩ hL
   exact ⟨h1,hBr M' V1 V2 h2 (hL.mono (by omega)),Nat.le_trans h3 hL.size⟩
 · rintro k M' V1 hk ⟨h1,h2,h3,h4,h5⟩
   obtain ⟨⟨d1,d2,d3⟩,d4⟩:=hH k M' V1 hk h1
   exact ⟨⟨h3.range 0 _ rfl,d2,d3⟩,d4⟩
 · intro k M' V1 _ h;cases h
 · intro k a' h;cases h;rfl
 · intro V1 hb
   exact ⟨hI 0 M W V1 h0 (Loc.of_below (below_next hb2 hb)),r1.still hb,r2.still hb,fun h=>(hym _ h).1 rfl,fun h=>(hym _ h).2 rfl⟩
 · intro k M' V1 l' a' hk ha hJ hl1 hl2 hl3
   cases ha
   have hout:∀ V2 V3:World,PrivJ (Inv k) l W.heap.size tb M' V2→Below V2.heap.size V2 V3→lfV (V k)=none→RoundQ w1.heap.size V1.heap.size M' (PrivJ (Inv (k+1)) l W.heap.size tb) (fun c M' V'=>c = .ret∧Brk M' V'∧w1.heap.size≤V'.heap.size) V2 .normal { tmps:=#[],defers:=[] } V3:=fun V2 V3 hJ2 hb3 hv =>
    ⟨Fro.of_below hb3,M',fun b hb => .inl hb,hsk k M' V3 hk (by rw [hv];rfl) (hI k M' V2 V3 hJ2.inv (Loc.of_below hb3)),hJ2.yb.still hb3,hJ2.pb.still hb3,hJ2.ny,hJ2.np⟩
   rcases hV k with hv | ⟨A,hv,hA6,hA1⟩ | ⟨A,hv,hA3,hA1⟩
   · have hn0:(V k).getD .nilIface = .nilIface:=by rw [hv];rfl
     rw [hn0]
     have hlf:lfV (V k)=none:=by rw [hv];rfl
     clear hJ hn0 hv hY
     gi_wp2
     refine ⟨Below.refl _ _,fun V2 hbt hsz hJ2 => ?_⟩
     have cl:=leafOf_nil V2
     have ho:=fun V3 hb=>hout V2 V3 hJ2 hb hlf
     obtain ⟨Z,hZ⟩:∃ Z,Z=zLf.toArray:=⟨_,rfl⟩
     have h6:Z.size=6:=by rw [hZ];rfl
     have h1:Z.all (·.oneCell')=true:=by rw [hZ,List.all_toArray];simp [zLf,Value.oneCell']
     rw [←hZ] at cl
     have hi:=iszL Z h6
     clear hZ hout hJ2
     gi_wp2_with (first
      | (refine ⟨trivial,rfl,?_⟩;gi_at_call 88;refine (callsIn_wide.2 cl).mono ?_;clear cl;rintro e V4 ⟨rfl,hb4⟩)
      | (refine wpListIn_store_rd rfl 117 _ _ rfl _ 0 Z rfl rfl (thLf4 _ Z h6) hi h1 ?_)
      | (refine wpListIn_skip rfl rfl ?_))
     exact ho _ (below_next hb4 (stLf4 V4 Z h6 rfl).2)
   · have hn0:(V k).getD .nilIface = .iface 117 (.agg A):=by rw [hv];rfl
     rw [hn0]
     have hYk:=fun X=>hY k M' X _ hk (by rw [hv];rfl)
     have hi:=iszL A hA6
     have hal:A.toList.length=A.size:=by simp
     obtain ⟨kz,hkz⟩:∃ z:Int,z=((k / 2:Nat):Int):=⟨_,rfl⟩
     rw [←hkz] at hYk
     have hkl:k<18446744073709551616 / 2:=by have:=mayB_cases hn;omega
     have e2:wrap64 ((k:Int) / 2)=kz:=by rw [hkz];unfold wrap64;omega
     clear hJ hn0 hv hY hout hH hit hsk hBr hV c2 c3 c1' hkz hn hM h0 r1 r2 hym hkl
     gi_wp2
     refine ⟨Below.refl _ _,fun V2 hbt hsz hJ2 => ?_⟩
     have cl:=leafOf_leaf A hA6 hA1 V2
     gi_wp2_with (first
      | (refine ⟨trivial,rfl,?_⟩;gi_at_call 88;refine (callsIn_wide.2 cl).mono ?_;clear cl;rintro e V4 ⟨rfl,hb4⟩)
      | (refine wpListIn_store_rd rfl 117 _ _ rfl _ 0 A rfl rfl (thLf4 _ A hA6) hi hA1 ?_;obtain ⟨X,hX⟩:∃ X,X=(V4.alloc (.cells #[.slice none 0 0,.slice none 0 0,.slice none 0 0,.int .i64 0,.slice none 0 0,.slice none 0 0] 117)).setCells V4.heap.size 0 A.toList:=⟨_,rfl⟩;rw [←hX];obtain ⟨rX,bX⟩:=stLf4 V4 A hA6 hX;clear hX;have bV:=below_next hb4 bX;have hIX:=hI k M' V2 X hJ2.inv (Loc.of_below bV);have rY:=hJ2.yb.still bV;have rY0:=rY.range 0 _ rfl;have rX0:=rX.range;obtain ⟨fn,tmps,assign,body,hy,hR⟩:=hYk X hIX (by have:=bV.size;have:=hJ2.yb.lt;omega))
      | (refine wpListIn_load_rd rfl 117 _ rfl _ 0 rfl _ _ rX0 Tryz.underlying117 rfl (by rw [hal];exact hi) ?_;simp only [Array.toArray_toList];clear rX0 rX))
     refine ⟨rfl,hR.mono ?_⟩
     have hPX:PrivJ (Inv k) l W.heap.size tb M' X:=⟨hIX,rY,hJ2.pb.still bV,hJ2.ny,hJ2.np⟩
     have hbs:=bV.size
     rintro e W' ⟨hF,M2,hM2,⟨rfl,hI'⟩ | ⟨rfl,hB'⟩⟩
     · clear hy hR
       gi_wp2
       exact ⟨(Fro.of_below bV).trans (hF.mono (by omega)),M2,fun b hb=>(hM2 b hb).imp id (fun h=>by omega),hPX.next hF hBW hM2 hI'⟩
     · clear hy hR
       gi_wp2
       exact ⟨(Fro.of_below bV).trans (hF.mono (by omega)),M2,fun b hb=>(hM2 b hb).imp id (fun h=>by omega),rfl,hB',by have:=hF.size;have:=hJ2.pb.lt;omega⟩
   · have hn0:(V k).getD .nilIface = .iface 121 (.agg A):=by rw [hv];rfl
     rw [hn0]
     have hlf:lfV (V k)=none:=by rw [hv];rfl
     clear hJ hn0 hv hY
     gi_wp2
     refine ⟨Below.refl _ _,fun V2 hbt hsz hJ2 => ?_⟩
     have cl:=leafOf_par A V2
     have ho:=fun V3 hb=>hout V2 V3 hJ2 hb hlf
     obtain ⟨Z,hZ⟩:∃ Z,Z=zLf.toArray:=⟨_,rfl⟩
     have h6:Z.size=6:=by rw [hZ];rfl
     have h1:Z.all (·.oneCell')=true:=by rw [hZ,List.all_toArray];simp [zLf,Value.oneCell']
     rw [←hZ] at cl
     have hi:=iszL Z h6
     clear hZ hout hJ2
     gi_wp2_with (first
      | (refine ⟨trivial,rfl,?_⟩;gi_at_call 88;refine (callsIn_wide.2 cl).mono ?_;clear cl;rintro e V4 ⟨rfl,hb4⟩)
      | (refine wpListIn_store_rd rfl 117 _ _ rfl _ 0 Z rfl rfl (thLf4 _ Z h6) hi h1 ?_)
      | (refine wpListIn_skip rfl rfl ?_))
     exact ho _ (below_next hb4 (stLf4 V4 Z h6 rfl).2)
 · intro D M' V1 hD hDl hDm hJ hdf
   have hs:=hJ.pb.lt
   clear hY hsk hH hit
   gi_wp2
   refine ⟨by simp,.inl ⟨_,_,rfl,run_takeDeferred hdf,?_⟩⟩
   exact ⟨_,results_none rfl _ _ _,⟨_,rfl⟩,by simp;omega,M',.inl (hI _ _ _ _ hJ.inv (Loc.put _ (by omega) hDm))⟩
 · rintro D c M' V1 hD hDl hDm ⟨rfl,hJ,hs⟩ hdf
   clear hY hsk hH hit
   gi_wp2
   refine ⟨by simp,.inl ⟨_,_,rfl,run_takeDeferred hdf,?_⟩⟩
   exact ⟨_,results_none rfl _ _ _,⟨_,rfl⟩,by simp;omega,M',.inr (hBr _ _ _ hJ (Loc.put _ (by omega) hDm))⟩
end Go.Proofs.YtddkbmnkbfciaaaGreatDoor
namespace Go.Proofs.YtddkbmnkbfciaaaGreatDoor
open Go.RowKit Go.Shelf
attribute [local go_sem] Oper.semAt_some
theorem thPr4 (W:World) (A:Array Value) (h:A.size=3):(W.alloc (.cells #[.slice none 0 0,.slice none 0 0,.slice none 0 0] 121)).there W.heap.size 0 A.size:=by
 rw [h];exact (RW.fresh W zPr 121).there
theorem stPr4 (W:World) (A:Array Value) (h:A.size=3) {X:World} (hX:X=(W.alloc (.cells #[.slice none 0 0,.slice none 0 0,.slice none 0 0] 121)).setCells W.heap.size 0 A.toList):RW X W.heap.size 0 A.toList∧Below W.heap.size W X:=by
 rw [hX]
 exact ⟨(RW.fresh W zPr 121).stored A.toList (by simp [h,zPr]),below_setCells (Nat.le_refl _) _ _ _ ((Below.refl _ _).alloc (Nat.le_refl _) _)⟩
theorem parents_any (tb:Nat) (w:World):Calls Tryz.prog 141 #[pA tb 0] w fun e w'=>e = .returned (.func (.func 198) #[] #[pA w.heap.size 0])∧w'=w.alloc (.cells #[pA tb 0] 23):=by
 go_enter Tryz.func141,Tryz.ntmps141
 go_wp2
 go_ret
 exact ⟨rfl,rfl⟩
set_option maxRecDepth 100000 in
set_option maxHeartbeats 4000000 in
theorem parents_it (pb tb mb n:Nat) (hn:mayB (n:Int)=true) (V:Nat→Option Value) (hV:∀ k,Shp (V k)) :
 Iter Tryz.prog 198 #[pA pb 0] (2*n - 1) (fun k=>(prV (V k)).map fun A=>#[.int .i64 (k:Int),.agg A]) (HasV pb tb mb n V):=by
 intro l B Inv Brk hI hBr hH hsk hY M W hBW hM h0
 obtain ⟨⟨c1,c2,c3⟩,-⟩:=hH 0 M W (Nat.zero_le _) h0
 have hpl:pb<W.heap.size:=block_lt_of_cell c1
 obtain ⟨W1,hW1⟩:∃ W1,W1=W.alloc (.cells #[.func (.yield l) #[] #[]] 184):=⟨_,rfl⟩
 have r1:=RW.fresh W [.func (.yield l) #[] #[]] 184
 have b1:Below W.heap.size W W1:=by rw [hW1];exact (Below.refl _ _).alloc (Nat.le_refl _) _
 have s1:W1.heap.size=W.heap.size+1:=by rw [hW1];simp
 rw [show W.alloc (.cells [Value.func (.yield l) #[] #[]].toArray 184)=W1 from hW1.symm] at r1
 have c1':W1.cell? ⟨pb,0,none⟩=some (pA tb 0):=(b1.cell (p:=⟨pb,0,none⟩) hpl).trans c1
 have cp:=places_any tb W1
 obtain ⟨W2,hW2⟩:∃ W2,W2=W1.alloc (.cells #[pA tb 0] 23):=⟨_,rfl⟩
 have r2:=RW.fresh W1 [pA tb 0] 23
 have b2:Below W1.heap.size W1 W2:=by rw [hW2];exact (Below.refl _ _).alloc (Nat.le_refl _) _
 have s2:W2.heap.size=W.heap.size+2:=by rw [hW2];simp;omega
 rw [show W1.alloc (.cells [pA tb 0].toArray 23)=W2 from hW2.symm] at r2
 rw [←hW2] at cp
 have hit:=places_it W1.heap.size tb mb n hn V
 replace r1:=r1.still b2
 have hb2:=below_next b1 b2
 rw [s1] at hit r2 cp
 have HW1:=Hid.mk' hW1
 have Hs1:=Hid.mk' s1
 have Hs2:=Hid.mk' s2
 clear hW1 hW2 c1 b1 b2
 obtain ⟨nn,-⟩:∃ nn:Nat,True:=⟨1,trivial⟩
 refine (callsIn_wide (n:=nn)).1 ?_
 refine callsIn_of_wp_marks Tryz.func198 rfl trivial ?_ rfl
 simp only [Tryz.ntmps198,List.size_toArray,List.length_cons,List.length_nil,Nat.reduceAdd,Nat.reduceSub,Array.replicate_succ,Array.replicate_zero,List.push_toArray,List.append_toArray,List.nil_append,List.cons_append]
 gi_wp2_with (first
  | (rw [←HW1.out];clear HW1)
  | (refine ⟨trivial,(fun h=>by cases h),?_⟩;gi_at_call 56;refine (callsIn_wide.2 cp).mono ?_;clear cp;rintro e w1 ⟨rfl,rfl⟩))
 have s2:=Hs2.out
 have hym:∀ b,M b→b≠W.heap.size∧b≠(W.heap.size+1):=fun b hb=>by have:=hM b hb;omega
 refine range_it hit rfl (enters_of Tryz.func128 (by kernel_rfl) rfl)
  (fun k=>PrivJ (Inv k) l W.heap.size tb)
  (fun c M' V'=>c = .ret∧Brk M' V'∧w1.heap.size≤V'.heap.size) M ?_ ?_ ?_ ?_ ?_ (fun b hb=>by have:=hM b hb;omega) ?_ ?_ ?_ ?_
 · rintro k M' V1 V2 ⟨h1,h2,h3,h4,h5⟩ hL
   exact ⟨hI k M' V1 V2 h1 (hL.mono (by omega)),hL.rw h2 (.inl (by omega)),hL.rw h3 (.inl (by omega)),h4,h5⟩
 · rintro c M' V1 V2 ⟨h1,h2,h3⟩ hL
   exact ⟨h1,hBr M' V1 V2 h2 (hL.mono (by omega)),Nat.le_trans h3 hL.size⟩
 · rintro k M' V1 hk ⟨h1,h2,h3,h4,h5⟩
   obtain ⟨⟨d1,d2,d3⟩,d4⟩:=hH k M' V1 hk h1
   exact ⟨⟨h3.range 0 _ rfl,d2,d3⟩,d4⟩
 · intro k M' V1 _ h;cases h
 · intro k a' h;cases h;rfl
 · intro V1 hb
   exact ⟨hI 0 M W V1 h0 (Loc.of_below (below_next hb2 hb)),r1.still hb,r2.still hb,fun h=>(hym _ h).1 rfl,fun h=>(hym _ h).2 rfl⟩
 · intro k M' V1 l' a' hk ha hJ hl1 hl2 hl3
   cases ha
   have hout:∀ V2 V3:World,PrivJ (Inv k) l W.heap.size tb M' V2→Below V2.heap.size V2 V3→prV (V k)=none→RoundQ w1.heap.size V1.heap.size M' (PrivJ (Inv (k+1)) l W.heap.size tb) (fun c M' V'=>c = .ret∧Brk M' V'∧w1.heap.size≤V'.heap.size) V2 .normal { tmps:=#[],defers:=[] } V3:=fun V2 V3 hJ2 hb3 hv =>
    ⟨Fro.of_below hb3,M',fun b hb => .inl hb,hsk k M' V3 hk (by rw [hv];rfl) (hI k M' V2 V3 hJ2.inv (Loc.of_below hb3)),hJ2.yb.still hb3,hJ2.pb.still hb3,hJ2.ny,hJ2.np⟩
   rcases hV k with hv | ⟨A,hv,-,-⟩ | ⟨A,hv,hAn,hA1⟩
   · have hn0:(V k).getD .nilIface = .nilIface:=by rw [hv];rfl
     rw [hn0]
     have hlf:prV (V k)=none:=by rw [hv];rfl
     clear hJ hn0 hv hY
     gi_wp2
     refine ⟨Below.refl _ _,fun V2 hbt hsz hJ2 => ?_⟩
     have cl:=parentOf_nil V2
     have ho:=fun V3 hb=>hout V2 V3 hJ2 hb hlf
     obtain ⟨Z,hZ⟩:∃ Z,Z=zPr.toArray:=⟨_,rfl⟩
     have h6:Z.size=3:=by rw [hZ];rfl
     have h1:Z.all (·.oneCell')=true:=by rw [hZ,List.all_toArray];simp [zPr,Value.oneCell']
     rw [←hZ] at cl
     have hi:=iszP Z h6
     clear hZ hout hJ2
     gi_wp2_with (first
      | (refine ⟨trivial,rfl,?_⟩;gi_at_call 92;refine (callsIn_wide.2 cl).mono ?_;clear cl;rintro e V4 ⟨rfl,hb4⟩)
      | (refine wpListIn_store_rd rfl 121 _ _ rfl _ 0 Z rfl rfl (thPr4 _ Z h6) hi h1 ?_)
      | (refine wpListIn_skip rfl rfl ?_))
     exact ho _ (below_next hb4 (stPr4 V4 Z h6 rfl).2)
   · have hn0:(V k).getD .nilIface = .iface 117 (.agg A):=by rw [hv];rfl
     rw [hn0]
     have hlf:prV (V k)=none:=by rw [hv];rfl
     clear hJ hn0 hv hY
     gi_wp2
     refine ⟨Below.refl _ _,fun V2 hbt hsz hJ2 => ?_⟩
     have cl:=parentOf_leaf A V2
     have ho:=fun V3 hb=>hout V2 V3 hJ2 hb hlf
     obtain ⟨Z,hZ⟩:∃ Z,Z=zPr.toArray:=⟨_,rfl⟩
     have h6:Z.size=3:=by rw [hZ];rfl
     have h1:Z.all (·.oneCell')=true:=by rw [hZ,List.all_toArray];simp [zPr,Value.oneCell']
     rw [←hZ] at cl
     have hi:=iszP Z h6
     clear hZ hout hJ2
     gi_wp2_with (first
      | (refine ⟨trivial,rfl,?_⟩;gi_at_call 92;refine (callsIn_wide.2 cl).mono ?_;clear cl;rintro e V4 ⟨rfl,hb4⟩)
      | (refine wpListIn_store_rd rfl 121 _ _ rfl _ 0 Z rfl rfl (thPr4 _ Z h6) hi h1 ?_)
      | (refine wpListIn_skip rfl rfl ?_))
     exact ho _ (below_next hb4 (stPr4 V4 Z h6 rfl).2)
   · have hn0:(V k).getD .nilIface = .iface 121 (.agg A):=by rw [hv];rfl
     rw [hn0]
     have hYk:=fun X=>hY k M' X _ hk (by rw [hv];rfl)
     have hi:=iszP A hAn
     have hal:A.toList.length=A.size:=by simp
     clear hJ hn0 hv hY hout hH hit hsk hBr hV c2 c3 c1' hn hM h0 r1 r2 hym
     gi_wp2
     refine ⟨Below.refl _ _,fun V2 hbt hsz hJ2 => ?_⟩
     have cl:=parentOf_par A hAn hA1 V2
     gi_wp2_with (first
      | (refine ⟨trivial,rfl,?_⟩;gi_at_call 92;refine (callsIn_wide.2 cl).mono ?_;clear cl;rintro e V4 ⟨rfl,hb4⟩)
      | (refine wpListIn_store_rd rfl 121 _ _ rfl _ 0 A rfl rfl (thPr4 _ A hAn) hi hA1 ?_;obtain ⟨X,hX⟩:∃ X,X=(V4.alloc (.cells #[.slice none 0 0,.slice none 0 0,.slice none 0 0] 121)).setCells V4.heap.size 0 A.toList:=⟨_,rfl⟩;rw [←hX];obtain ⟨rX,bX⟩:=stPr4 V4 A hAn hX;clear hX;have bV:=below_next hb4 bX;have hIX:=hI k M' V2 X hJ2.inv (Loc.of_below bV);have rY:=hJ2.yb.still bV;have rY0:=rY.range 0 _ rfl;have rX0:=rX.range;obtain ⟨fn,tmps,assign,body,hy,hR⟩:=hYk X hIX (by have:=bV.size;have:=hJ2.yb.lt;omega))
      | (refine wpListIn_load_rd rfl 121 _ rfl _ 0 rfl _ _ rX0 Tryz.underlying121 rfl (by rw [hal];exact hi) ?_;simp only [Array.toArray_toList];clear rX0 rX))
     refine ⟨rfl,hR.mono ?_⟩
     have hPX:PrivJ (Inv k) l W.heap.size tb M' X:=⟨hIX,rY,hJ2.pb.still bV,hJ2.ny,hJ2.np⟩
     have hbs:=bV.size
     rintro e W' ⟨hF,M2,hM2,⟨rfl,hI'⟩ | ⟨rfl,hB'⟩⟩
     · clear hy hR
       gi_wp2
       exact ⟨(Fro.of_below bV).trans (hF.mono (by omega)),M2,fun b hb=>(hM2 b hb).imp id (fun h=>by omega),hPX.next hF hBW hM2 hI'⟩
     · clear hy hR
       gi_wp2
       exact ⟨(Fro.of_below bV).trans (hF.mono (by omega)),M2,fun b hb=>(hM2 b hb).imp id (fun h=>by omega),rfl,hB',by have:=hF.size;have:=hJ2.pb.lt;omega⟩
 · intro D M' V1 hD hDl hDm hJ hdf
   have hs:=hJ.pb.lt
   clear hY hsk hH hit
   gi_wp2
   refine ⟨by simp,.inl ⟨_,_,rfl,run_takeDeferred hdf,?_⟩⟩
   exact ⟨_,results_none rfl _ _ _,⟨_,rfl⟩,by simp;omega,M',.inl (hI _ _ _ _ hJ.inv (Loc.put _ (by omega) hDm))⟩
 · rintro D c M' V1 hD hDl hDm ⟨rfl,hJ,hs⟩ hdf
   clear hY hsk hH hit
   gi_wp2
   refine ⟨by simp,.inl ⟨_,_,rfl,run_takeDeferred hdf,?_⟩⟩
   exact ⟨_,results_none rfl _ _ _,⟨_,rfl⟩,by simp;omega,M',.inr (hBr _ _ _ hJ (Loc.put _ (by omega) hDm))⟩
end Go.Proofs.YtddkbmnkbfciaaaGreatDoor
namespace Go.Proofs.YtddkbmnkbfciaaaGreatDoor
open Go.RowKit Go.Shelf
section
variable {P:Program} {md:Region.Mode} {ops:Array Oper} {Q:Exit→Act→World→Prop} {S:World→Prop} {fuel:Nat} {listed:Array Bool} {a:Act} {w:World}
theorem upon_wide {n:Nat} {o:Oper} {K:Act→World→Prop}:∀ {r:Result Next},o.upon P a K Q r→o.uponIn Fence.wide n P a K Q r
 | .ok (.value _) _,h=>h
 | .ok .skip _,h=>h
 | .ok (.defer _) _,h=>h
 | .ok (.enter _ _) _,h=>⟨(fun hd=>by cases hd),callsIn_wide.2 h⟩
 | .ok (.row _ _) _,h=>⟨(fun hd=>by cases hd),fun c cs _=>let ⟨v,w',r,s⟩:=h c cs;⟨v,w',r,stepsIn_wide.2 s⟩⟩
 | .ok (.round ..) _,h=>(h:False).elim
 | .halt (.panic _) _,h=>h
theorem any_wide {n:Nat} (hd:noDefer ops=true) (hQ:¬LetsOut Q):∀ (fuel:Nat) (listed:Array Bool) (a:Act) (w:World),wpAny P md ops Q fuel listed a w→wpAnyIn Fence.wide n P md ops Q fuel listed a w
 | 0,_,_,_,h=>h
 | fuel+1,listed,a,w,h=>⟨h.1,fun i hi=>by
  have hi':=h.2 i hi
  unfold wpOp at hi'
  unfold wpOpIn
  split
  · rename_i heq
    rw [heq] at hi'
    exact any_wide hd hQ fuel _ a w hi'
  · rename_i o heq
    rw [heq] at hi'
    dsimp only at hi'
    split
    · rename_i hw
      rw [if_pos hw] at hi'
      have h1:=hi'.resolve_right fun h=>hQ h.2
      refine ⟨fun _ _=>trivial,?_⟩
      have hnd:∀ c,o.op ≠ .defer c:=fun c e=>by
       have hm:o∈ops.toList:=by
        rw [←Array.getElem?_toList] at heq
        exact List.mem_of_getElem? heq
       have:=List.all_eq_true.1 hd o hm
       rw [e] at this
       cases this
      rw [Oper.semAt_plain Fence.wide _ o hnd]
      exact upon_wide (Oper.wp_mono (fun a w h=>any_wide hd hQ fuel _ a w h) h1)
    · rename_i hw
      rw [if_neg hw] at hi'
      exact ⟨fun _ _=>trivial,any_wide hd hQ fuel _ _ w hi'⟩⟩
theorem wpIn_heldW {n id:Nat} (hm:P.follows .mixedOrders=true) (hd:noDefer ops=true) (hS:S w.drew) (h:S w.drew→wpAnyH P .any ops (OnlyN Q) S ops.size (Array.replicate ops.size false) a w.drew):(Code.region id ops true).wpIn Fence.wide n P Q a w :=
 wpIn_mono (wpIn_region_any hm (any_wide hd OnlyN.stays _ _ _ _ (wpAny_of_held _ _ _ _ (h hS)))) OnlyN.imp
end
end Go.Proofs.YtddkbmnkbfciaaaGreatDoor
