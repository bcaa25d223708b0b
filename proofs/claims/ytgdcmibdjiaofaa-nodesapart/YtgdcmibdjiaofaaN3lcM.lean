/- What the proof stands on: N3lc, N3ld, N3le, N3lf, N3lj, Kit, N3op. -/
import Derived.Test.YtgdcmibdjiaofaaBaseM
import Derived.Test.YtgdcmibdjiaofaaN3clM
import Derived.ChangeOld
import Derived.ChangeSlices
import Derived.Deep.DeepHandedRow
import Derived.Lib.LaidTab
import Derived.OpenShut
import Derived.ProofKit
import Derived.SizedLaws
import Derived.WalkKit
namespace Go.Proofs.Ytgdcmibdjiaofaa
open Go.RowKit
theorem ba_un {s t:ByteArray} (h:¬s=t):¬s.toList=t.toList:=fun e=>h (by
 rw [ByteArray.toList_eq,ByteArray.toList_eq] at e
 exact ByteArray.ext (Array.toList_inj.1 e))
def Tx.s (t:Tx):ByteArray:=strB t.n t.b
def sameL (a b:LfD):Bool:=decide (a.enc.s=b.enc.s) && decide (a.sig.s=b.sig.s) && decide (a.name.s=b.name.s) && decide (a.src=b.src) && decide (a.hash.s=b.hash.s) && decide (a.sg.s=b.sg.s)
def Cv (w:World) (v:Value) (s:ByteArray):Prop:=∀ W,Below w.heap.size w W→(convert 22 9 v).run Try.prog W = .ok (.string s) W
theorem BytesIn.cv {w:World} {v:Value} {t:Tx} (h:BytesIn w v t.n t.b) (l:∀ j,t.b j<256):Cv w v t.s:=fun W hb=>h.conv l W hb
theorem Cv.keep {w w':World} {v:Value} {s:ByteArray} (h:Cv w v s) (hb:Below w.heap.size w w'):Cv w' v s:=fun W hW=>h W (below_next hb hW)
set_option maxRecDepth 20000 in
set_option maxHeartbeats 1000000 in
theorem sL_0 (a0 a1 a2 a4 a5 b0 b1 b2 b4 b5:Value) (s t:Int) (S0 T0:ByteArray) (h:¬S0=T0) (w:World) (p0:Cv w a0 S0) (q0:Cv w b0 T0):Calls Try.prog 16 #[.agg #[a0,a1,a2,.int .i64 s,a4,a5],.agg #[b0,b1,b2,.int .i64 t,b4,b5]] w fun e w'=>e = .returned (.bool false)∧Below w.heap.size w w':=by
 have k1:=RW.fresh w [a0,a1,a2,.int .i64 s,a4,a5] 26
 have b1':Below w.heap.size w (w.alloc (.cells #[a0,a1,a2,.int .i64 s,a4,a5] 26)):=(Below.refl _ _).alloc (Nat.le_refl _) _
 have s1:(w.alloc (.cells #[a0,a1,a2,.int .i64 s,a4,a5] 26)).heap.size=w.heap.size+1:=by simp
 obtain ⟨W1,hW1⟩:∃ W1,W1=w.alloc (.cells #[a0,a1,a2,.int .i64 s,a4,a5] 26):=⟨_,rfl⟩
 rw [show w.alloc (.cells ([a0,a1,a2,.int .i64 s,a4,a5]).toArray 26)=W1 from hW1.symm] at k1
 rw [←hW1] at b1' s1
 have k2:=RW.fresh W1 [b0,b1,b2,.int .i64 t,b4,b5] 24
 have b2':Below W1.heap.size W1 (W1.alloc (.cells #[b0,b1,b2,.int .i64 t,b4,b5] 24)):=(Below.refl _ _).alloc (Nat.le_refl _) _
 obtain ⟨W,hW⟩:∃ W,W=W1.alloc (.cells #[b0,b1,b2,.int .i64 t,b4,b5] 24):=⟨_,rfl⟩
 rw [show W1.alloc (.cells ([b0,b1,b2,.int .i64 t,b4,b5]).toArray 24)=W from hW.symm] at k2
 rw [←hW] at b2'
 rw [s1] at k2
 replace k1:=k1.still b2'
 have HW:Hid (W=(w.alloc (.cells #[a0,a1,a2,.int .i64 s,a4,a5] 26)).alloc (.cells #[b0,b1,b2,.int .i64 t,b4,b5] 24)):=Hid.mk' (by rw [hW,hW1])
 have bW:=below_next b1' b2'
 replace p0:=p0 W bW
 replace q0:=q0 W bW
 have c0:=k1.cell (o:=0) rfl
 have d0:=k2.cell (o:=0) rfl
 have hne:=ba_un h
 clear hW hW1 k1 k2 b1' b2' s1
 go_enter Try.func16,Try.ntmps16
 go_upto_region 1 with (fail)
 rw [←HW.out]
 go_wp2
 go_ret
 exact ⟨by first | rfl | (show Ending.returned (.bool (S0.toList == T0.toList))=_;rw [show (S0.toList == T0.toList)=false from by simpa using hne]),bW⟩
set_option maxRecDepth 20000 in
set_option maxHeartbeats 1000000 in
theorem sL_1 (a0 a1 a2 a4 a5 b0 b1 b2 b4 b5:Value) (s t:Int) (S0 S1 T1:ByteArray) (h:¬S1=T1) (w:World) (p0:Cv w a0 S0) (q0:Cv w b0 S0) (p1:Cv w a1 S1) (q1:Cv w b1 T1):Calls Try.prog 16 #[.agg #[a0,a1,a2,.int .i64 s,a4,a5],.agg #[b0,b1,b2,.int .i64 t,b4,b5]] w fun e w'=>e = .returned (.bool false)∧Below w.heap.size w w':=by
 have k1:=RW.fresh w [a0,a1,a2,.int .i64 s,a4,a5] 26
 have b1':Below w.heap.size w (w.alloc (.cells #[a0,a1,a2,.int .i64 s,a4,a5] 26)):=(Below.refl _ _).alloc (Nat.le_refl _) _
 have s1:(w.alloc (.cells #[a0,a1,a2,.int .i64 s,a4,a5] 26)).heap.size=w.heap.size+1:=by simp
 obtain ⟨W1,hW1⟩:∃ W1,W1=w.alloc (.cells #[a0,a1,a2,.int .i64 s,a4,a5] 26):=⟨_,rfl⟩
 rw [show w.alloc (.cells ([a0,a1,a2,.int .i64 s,a4,a5]).toArray 26)=W1 from hW1.symm] at k1
 rw [←hW1] at b1' s1
 have k2:=RW.fresh W1 [b0,b1,b2,.int .i64 t,b4,b5] 24
 have b2':Below W1.heap.size W1 (W1.alloc (.cells #[b0,b1,b2,.int .i64 t,b4,b5] 24)):=(Below.refl _ _).alloc (Nat.le_refl _) _
 obtain ⟨W,hW⟩:∃ W,W=W1.alloc (.cells #[b0,b1,b2,.int .i64 t,b4,b5] 24):=⟨_,rfl⟩
 rw [show W1.alloc (.cells ([b0,b1,b2,.int .i64 t,b4,b5]).toArray 24)=W from hW.symm] at k2
 rw [←hW] at b2'
 rw [s1] at k2
 replace k1:=k1.still b2'
 have HW:Hid (W=(w.alloc (.cells #[a0,a1,a2,.int .i64 s,a4,a5] 26)).alloc (.cells #[b0,b1,b2,.int .i64 t,b4,b5] 24)):=Hid.mk' (by rw [hW,hW1])
 have bW:=below_next b1' b2'
 replace p0:=p0 W bW
 replace q0:=q0 W bW
 replace p1:=p1 W bW
 replace q1:=q1 W bW
 have c0:=k1.cell (o:=0) rfl
 have d0:=k2.cell (o:=0) rfl
 have c1:=k1.cell (o:=1) rfl
 have d1:=k2.cell (o:=1) rfl
 have hne:=ba_un h
 clear hW hW1 k1 k2 b1' b2' s1
 go_enter Try.func16,Try.ntmps16
 go_upto_region 1 with (fail)
 rw [←HW.out]
 go_wp2
 go_ret
 exact ⟨by first | rfl | (show Ending.returned (.bool (S1.toList == T1.toList))=_;rw [show (S1.toList == T1.toList)=false from by simpa using hne]),bW⟩
set_option maxRecDepth 20000 in
set_option maxHeartbeats 1000000 in
theorem sL_2 (a0 a1 a2 a4 a5 b0 b1 b2 b4 b5:Value) (s t:Int) (S0 S1 S2 T2:ByteArray) (h:¬S2=T2) (w:World) (p0:Cv w a0 S0) (q0:Cv w b0 S0) (p1:Cv w a1 S1) (q1:Cv w b1 S1) (p2:Cv w a2 S2) (q2:Cv w b2 T2):Calls Try.prog 16 #[.agg #[a0,a1,a2,.int .i64 s,a4,a5],.agg #[b0,b1,b2,.int .i64 t,b4,b5]] w fun e w'=>e = .returned (.bool false)∧Below w.heap.size w w':=by
 have k1:=RW.fresh w [a0,a1,a2,.int .i64 s,a4,a5] 26
 have b1':Below w.heap.size w (w.alloc (.cells #[a0,a1,a2,.int .i64 s,a4,a5] 26)):=(Below.refl _ _).alloc (Nat.le_refl _) _
 have s1:(w.alloc (.cells #[a0,a1,a2,.int .i64 s,a4,a5] 26)).heap.size=w.heap.size+1:=by simp
 obtain ⟨W1,hW1⟩:∃ W1,W1=w.alloc (.cells #[a0,a1,a2,.int .i64 s,a4,a5] 26):=⟨_,rfl⟩
 rw [show w.alloc (.cells ([a0,a1,a2,.int .i64 s,a4,a5]).toArray 26)=W1 from hW1.symm] at k1
 rw [←hW1] at b1' s1
 have k2:=RW.fresh W1 [b0,b1,b2,.int .i64 t,b4,b5] 24
 have b2':Below W1.heap.size W1 (W1.alloc (.cells #[b0,b1,b2,.int .i64 t,b4,b5] 24)):=(Below.refl _ _).alloc (Nat.le_refl _) _
 obtain ⟨W,hW⟩:∃ W,W=W1.alloc (.cells #[b0,b1,b2,.int .i64 t,b4,b5] 24):=⟨_,rfl⟩
 rw [show W1.alloc (.cells ([b0,b1,b2,.int .i64 t,b4,b5]).toArray 24)=W from hW.symm] at k2
 rw [←hW] at b2'
 rw [s1] at k2
 replace k1:=k1.still b2'
 have HW:Hid (W=(w.alloc (.cells #[a0,a1,a2,.int .i64 s,a4,a5] 26)).alloc (.cells #[b0,b1,b2,.int .i64 t,b4,b5] 24)):=Hid.mk' (by rw [hW,hW1])
 have bW:=below_next b1' b2'
 replace p0:=p0 W bW
 replace q0:=q0 W bW
 replace p1:=p1 W bW
 replace q1:=q1 W bW
 replace p2:=p2 W bW
 replace q2:=q2 W bW
 have c0:=k1.cell (o:=0) rfl
 have d0:=k2.cell (o:=0) rfl
 have c1:=k1.cell (o:=1) rfl
 have d1:=k2.cell (o:=1) rfl
 have c2:=k1.cell (o:=2) rfl
 have d2:=k2.cell (o:=2) rfl
 have hne:=ba_un h
 clear hW hW1 k1 k2 b1' b2' s1
 go_enter Try.func16,Try.ntmps16
 go_upto_region 1 with (fail)
 rw [←HW.out]
 go_wp2
 go_ret
 exact ⟨by first | rfl | (show Ending.returned (.bool (S2.toList == T2.toList))=_;rw [show (S2.toList == T2.toList)=false from by simpa using hne]),bW⟩
set_option maxRecDepth 20000 in
set_option maxHeartbeats 1000000 in
theorem sL_3 (a0 a1 a2 a4 a5 b0 b1 b2 b4 b5:Value) (s t:Int) (S0 S1 S2:ByteArray) (h:¬s=t) (w:World) (p0:Cv w a0 S0) (q0:Cv w b0 S0) (p1:Cv w a1 S1) (q1:Cv w b1 S1) (p2:Cv w a2 S2) (q2:Cv w b2 S2):Calls Try.prog 16 #[.agg #[a0,a1,a2,.int .i64 s,a4,a5],.agg #[b0,b1,b2,.int .i64 t,b4,b5]] w fun e w'=>e = .returned (.bool false)∧Below w.heap.size w w':=by
 have k1:=RW.fresh w [a0,a1,a2,.int .i64 s,a4,a5] 26
 have b1':Below w.heap.size w (w.alloc (.cells #[a0,a1,a2,.int .i64 s,a4,a5] 26)):=(Below.refl _ _).alloc (Nat.le_refl _) _
 have s1:(w.alloc (.cells #[a0,a1,a2,.int .i64 s,a4,a5] 26)).heap.size=w.heap.size+1:=by simp
 obtain ⟨W1,hW1⟩:∃ W1,W1=w.alloc (.cells #[a0,a1,a2,.int .i64 s,a4,a5] 26):=⟨_,rfl⟩
 rw [show w.alloc (.cells ([a0,a1,a2,.int .i64 s,a4,a5]).toArray 26)=W1 from hW1.symm] at k1
 rw [←hW1] at b1' s1
 have k2:=RW.fresh W1 [b0,b1,b2,.int .i64 t,b4,b5] 24
 have b2':Below W1.heap.size W1 (W1.alloc (.cells #[b0,b1,b2,.int .i64 t,b4,b5] 24)):=(Below.refl _ _).alloc (Nat.le_refl _) _
 obtain ⟨W,hW⟩:∃ W,W=W1.alloc (.cells #[b0,b1,b2,.int .i64 t,b4,b5] 24):=⟨_,rfl⟩
 rw [show W1.alloc (.cells ([b0,b1,b2,.int .i64 t,b4,b5]).toArray 24)=W from hW.symm] at k2
 rw [←hW] at b2'
 rw [s1] at k2
 replace k1:=k1.still b2'
 have HW:Hid (W=(w.alloc (.cells #[a0,a1,a2,.int .i64 s,a4,a5] 26)).alloc (.cells #[b0,b1,b2,.int .i64 t,b4,b5] 24)):=Hid.mk' (by rw [hW,hW1])
 have bW:=below_next b1' b2'
 replace p0:=p0 W bW
 replace q0:=q0 W bW
 replace p1:=p1 W bW
 replace q1:=q1 W bW
 replace p2:=p2 W bW
 replace q2:=q2 W bW
 have c0:=k1.cell (o:=0) rfl
 have d0:=k2.cell (o:=0) rfl
 have c1:=k1.cell (o:=1) rfl
 have d1:=k2.cell (o:=1) rfl
 have c2:=k1.cell (o:=2) rfl
 have d2:=k2.cell (o:=2) rfl
 have c3:=k1.cell (o:=3) rfl
 have d3:=k2.cell (o:=3) rfl
 clear hW hW1 k1 k2 b1' b2' s1
 go_enter Try.func16,Try.ntmps16
 go_upto_region 1 with (fail)
 rw [←HW.out]
 go_wp2
 go_ret
 exact ⟨by first | rfl | (show Ending.returned (.bool (s == t))=_;rw [show (s == t)=false from by simpa using h]),bW⟩
set_option maxRecDepth 20000 in
set_option maxHeartbeats 1000000 in
theorem sL_4 (a0 a1 a2 a4 a5 b0 b1 b2 b4 b5:Value) (s:Int) (S0 S1 S2 S4 T4:ByteArray) (h:¬S4=T4) (w:World) (p0:Cv w a0 S0) (q0:Cv w b0 S0) (p1:Cv w a1 S1) (q1:Cv w b1 S1) (p2:Cv w a2 S2) (q2:Cv w b2 S2) (p4:Cv w a4 S4) (q4:Cv w b4 T4):Calls Try.prog 16 #[.agg #[a0,a1,a2,.int .i64 s,a4,a5],.agg #[b0,b1,b2,.int .i64 s,b4,b5]] w fun e w'=>e = .returned (.bool false)∧Below w.heap.size w w':=by
 have k1:=RW.fresh w [a0,a1,a2,.int .i64 s,a4,a5] 26
 have b1':Below w.heap.size w (w.alloc (.cells #[a0,a1,a2,.int .i64 s,a4,a5] 26)):=(Below.refl _ _).alloc (Nat.le_refl _) _
 have s1:(w.alloc (.cells #[a0,a1,a2,.int .i64 s,a4,a5] 26)).heap.size=w.heap.size+1:=by simp
 obtain ⟨W1,hW1⟩:∃ W1,W1=w.alloc (.cells #[a0,a1,a2,.int .i64 s,a4,a5] 26):=⟨_,rfl⟩
 rw [show w.alloc (.cells ([a0,a1,a2,.int .i64 s,a4,a5]).toArray 26)=W1 from hW1.symm] at k1
 rw [←hW1] at b1' s1
 have k2:=RW.fresh W1 [b0,b1,b2,.int .i64 s,b4,b5] 24
 have b2':Below W1.heap.size W1 (W1.alloc (.cells #[b0,b1,b2,.int .i64 s,b4,b5] 24)):=(Below.refl _ _).alloc (Nat.le_refl _) _
 obtain ⟨W,hW⟩:∃ W,W=W1.alloc (.cells #[b0,b1,b2,.int .i64 s,b4,b5] 24):=⟨_,rfl⟩
 rw [show W1.alloc (.cells ([b0,b1,b2,.int .i64 s,b4,b5]).toArray 24)=W from hW.symm] at k2
 rw [←hW] at b2'
 rw [s1] at k2
 replace k1:=k1.still b2'
 have HW:Hid (W=(w.alloc (.cells #[a0,a1,a2,.int .i64 s,a4,a5] 26)).alloc (.cells #[b0,b1,b2,.int .i64 s,b4,b5] 24)):=Hid.mk' (by rw [hW,hW1])
 have bW:=below_next b1' b2'
 replace p0:=p0 W bW
 replace q0:=q0 W bW
 replace p1:=p1 W bW
 replace q1:=q1 W bW
 replace p2:=p2 W bW
 replace q2:=q2 W bW
 replace p4:=p4 W bW
 replace q4:=q4 W bW
 have c0:=k1.cell (o:=0) rfl
 have d0:=k2.cell (o:=0) rfl
 have c1:=k1.cell (o:=1) rfl
 have d1:=k2.cell (o:=1) rfl
 have c2:=k1.cell (o:=2) rfl
 have d2:=k2.cell (o:=2) rfl
 have c3:=k1.cell (o:=3) rfl
 have d3:=k2.cell (o:=3) rfl
 have c4:=k1.cell (o:=4) rfl
 have d4:=k2.cell (o:=4) rfl
 have hne:=ba_un h
 clear hW hW1 k1 k2 b1' b2' s1
 go_enter Try.func16,Try.ntmps16
 go_upto_region 1 with (fail)
 rw [←HW.out]
 go_wp2
 go_ret
 exact ⟨by first | rfl | (show Ending.returned (.bool (S4.toList == T4.toList))=_;rw [show (S4.toList == T4.toList)=false from by simpa using hne]),bW⟩
set_option maxRecDepth 20000 in
set_option maxHeartbeats 1000000 in
theorem sL_5 (a0 a1 a2 a4 a5 b0 b1 b2 b4 b5:Value) (s:Int) (S0 S1 S2 S4 S5 T5:ByteArray) (h:¬S5=T5) (w:World) (p0:Cv w a0 S0) (q0:Cv w b0 S0) (p1:Cv w a1 S1) (q1:Cv w b1 S1) (p2:Cv w a2 S2) (q2:Cv w b2 S2) (p4:Cv w a4 S4) (q4:Cv w b4 S4) (p5:Cv w a5 S5) (q5:Cv w b5 T5):Calls Try.prog 16 #[.agg #[a0,a1,a2,.int .i64 s,a4,a5],.agg #[b0,b1,b2,.int .i64 s,b4,b5]] w fun e w'=>e = .returned (.bool false)∧Below w.heap.size w w':=by
 have k1:=RW.fresh w [a0,a1,a2,.int .i64 s,a4,a5] 26
 have b1':Below w.heap.size w (w.alloc (.cells #[a0,a1,a2,.int .i64 s,a4,a5] 26)):=(Below.refl _ _).alloc (Nat.le_refl _) _
 have s1:(w.alloc (.cells #[a0,a1,a2,.int .i64 s,a4,a5] 26)).heap.size=w.heap.size+1:=by simp
 obtain ⟨W1,hW1⟩:∃ W1,W1=w.alloc (.cells #[a0,a1,a2,.int .i64 s,a4,a5] 26):=⟨_,rfl⟩
 rw [show w.alloc (.cells ([a0,a1,a2,.int .i64 s,a4,a5]).toArray 26)=W1 from hW1.symm] at k1
 rw [←hW1] at b1' s1
 have k2:=RW.fresh W1 [b0,b1,b2,.int .i64 s,b4,b5] 24
 have b2':Below W1.heap.size W1 (W1.alloc (.cells #[b0,b1,b2,.int .i64 s,b4,b5] 24)):=(Below.refl _ _).alloc (Nat.le_refl _) _
 obtain ⟨W,hW⟩:∃ W,W=W1.alloc (.cells #[b0,b1,b2,.int .i64 s,b4,b5] 24):=⟨_,rfl⟩
 rw [show W1.alloc (.cells ([b0,b1,b2,.int .i64 s,b4,b5]).toArray 24)=W from hW.symm] at k2
 rw [←hW] at b2'
 rw [s1] at k2
 replace k1:=k1.still b2'
 have HW:Hid (W=(w.alloc (.cells #[a0,a1,a2,.int .i64 s,a4,a5] 26)).alloc (.cells #[b0,b1,b2,.int .i64 s,b4,b5] 24)):=Hid.mk' (by rw [hW,hW1])
 have bW:=below_next b1' b2'
 replace p0:=p0 W bW
 replace q0:=q0 W bW
 replace p1:=p1 W bW
 replace q1:=q1 W bW
 replace p2:=p2 W bW
 replace q2:=q2 W bW
 replace p4:=p4 W bW
 replace q4:=q4 W bW
 replace p5:=p5 W bW
 replace q5:=q5 W bW
 have c0:=k1.cell (o:=0) rfl
 have d0:=k2.cell (o:=0) rfl
 have c1:=k1.cell (o:=1) rfl
 have d1:=k2.cell (o:=1) rfl
 have c2:=k1.cell (o:=2) rfl
 have d2:=k2.cell (o:=2) rfl
 have c3:=k1.cell (o:=3) rfl
 have d3:=k2.cell (o:=3) rfl
 have c4:=k1.cell (o:=4) rfl
 have d4:=k2.cell (o:=4) rfl
 have c5:=k1.cell (o:=5) rfl
 have d5:=k2.cell (o:=5) rfl
 have hne:=ba_un h
 clear hW hW1 k1 k2 b1' b2' s1
 go_enter Try.func16,Try.ntmps16
 go_upto_region 1 with (fail)
 rw [←HW.out]
 go_wp2
 go_ret
 exact ⟨by first | rfl | (show Ending.returned (.bool (S5.toList == T5.toList))=_;rw [show (S5.toList == T5.toList)=false from by simpa using hne]),bW⟩
set_option maxRecDepth 20000 in
set_option maxHeartbeats 1000000 in
theorem sL_6 (a0 a1 a2 a4 a5 b0 b1 b2 b4 b5:Value) (s:Int) (S0 S1 S2 S4 S5:ByteArray) (w:World) (p0:Cv w a0 S0) (q0:Cv w b0 S0) (p1:Cv w a1 S1) (q1:Cv w b1 S1) (p2:Cv w a2 S2) (q2:Cv w b2 S2) (p4:Cv w a4 S4) (q4:Cv w b4 S4) (p5:Cv w a5 S5) (q5:Cv w b5 S5):Calls Try.prog 16 #[.agg #[a0,a1,a2,.int .i64 s,a4,a5],.agg #[b0,b1,b2,.int .i64 s,b4,b5]] w fun e w'=>e = .returned (.bool true)∧Below w.heap.size w w':=by
 have k1:=RW.fresh w [a0,a1,a2,.int .i64 s,a4,a5] 26
 have b1':Below w.heap.size w (w.alloc (.cells #[a0,a1,a2,.int .i64 s,a4,a5] 26)):=(Below.refl _ _).alloc (Nat.le_refl _) _
 have s1:(w.alloc (.cells #[a0,a1,a2,.int .i64 s,a4,a5] 26)).heap.size=w.heap.size+1:=by simp
 obtain ⟨W1,hW1⟩:∃ W1,W1=w.alloc (.cells #[a0,a1,a2,.int .i64 s,a4,a5] 26):=⟨_,rfl⟩
 rw [show w.alloc (.cells ([a0,a1,a2,.int .i64 s,a4,a5]).toArray 26)=W1 from hW1.symm] at k1
 rw [←hW1] at b1' s1
 have k2:=RW.fresh W1 [b0,b1,b2,.int .i64 s,b4,b5] 24
 have b2':Below W1.heap.size W1 (W1.alloc (.cells #[b0,b1,b2,.int .i64 s,b4,b5] 24)):=(Below.refl _ _).alloc (Nat.le_refl _) _
 obtain ⟨W,hW⟩:∃ W,W=W1.alloc (.cells #[b0,b1,b2,.int .i64 s,b4,b5] 24):=⟨_,rfl⟩
 rw [show W1.alloc (.cells ([b0,b1,b2,.int .i64 s,b4,b5]).toArray 24)=W from hW.symm] at k2
 rw [←hW] at b2'
 rw [s1] at k2
 replace k1:=k1.still b2'
 have HW:Hid (W=(w.alloc (.cells #[a0,a1,a2,.int .i64 s,a4,a5] 26)).alloc (.cells #[b0,b1,b2,.int .i64 s,b4,b5] 24)):=Hid.mk' (by rw [hW,hW1])
 have bW:=below_next b1' b2'
 replace p0:=p0 W bW
 replace q0:=q0 W bW
 replace p1:=p1 W bW
 replace q1:=q1 W bW
 replace p2:=p2 W bW
 replace q2:=q2 W bW
 replace p4:=p4 W bW
 replace q4:=q4 W bW
 replace p5:=p5 W bW
 replace q5:=q5 W bW
 have c0:=k1.cell (o:=0) rfl
 have d0:=k2.cell (o:=0) rfl
 have c1:=k1.cell (o:=1) rfl
 have d1:=k2.cell (o:=1) rfl
 have c2:=k1.cell (o:=2) rfl
 have d2:=k2.cell (o:=2) rfl
 have c3:=k1.cell (o:=3) rfl
 have d3:=k2.cell (o:=3) rfl
 have c4:=k1.cell (o:=4) rfl
 have d4:=k2.cell (o:=4) rfl
 have c5:=k1.cell (o:=5) rfl
 have d5:=k2.cell (o:=5) rfl
 clear hW hW1 k1 k2 b1' b2' s1
 go_enter Try.func16,Try.ntmps16
 go_upto_region 1 with (fail)
 rw [←HW.out]
 go_wp2
 go_ret
 exact ⟨rfl,bW⟩
theorem sameLeaf_any (ca cb:List Value) (a b:LfD) (ha:lfK a) (hb:lfK b) (w:World) (iA:LfIn w ca a) (iB:LfIn w cb b):Calls Try.prog 16 #[.agg ca.toArray,.agg cb.toArray] w fun e w'=>e = .returned (.bool (sameL a b))∧Below w.heap.size w w':=by
 obtain ⟨a0,a1,a2,a4,a5,rfl,i0,i1,i2,i4,i5⟩:=iA
 obtain ⟨b0,b1,b2,b4,b5,rfl,j0,j1,j2,j4,j5⟩:=iB
 have p0:=i0.cv ha.1
 have p1:=i1.cv ha.2.1
 have p2:=i2.cv ha.2.2.1
 have p4:=i4.cv ha.2.2.2.1
 have p5:=i5.cv ha.2.2.2.2
 have q0:=j0.cv hb.1
 have q1:=j1.cv hb.2.1
 have q2:=j2.cv hb.2.2.1
 have q4:=j4.cv hb.2.2.2.1
 have q5:=j5.cv hb.2.2.2.2
 unfold sameL
 generalize a.enc.s=S0 at *
 generalize a.sig.s=S1 at *
 generalize a.name.s=S2 at *
 generalize a.src=s at *
 generalize a.hash.s=S4 at *
 generalize a.sg.s=S5 at *
 generalize b.enc.s=T0 at *
 generalize b.sig.s=T1 at *
 generalize b.name.s=T2 at *
 generalize b.src=t at *
 generalize b.hash.s=T4 at *
 generalize b.sg.s=T5 at *
 by_cases h0:S0=T0
 rotate_left
 · rw [decide_eq_false h0,Bool.false_and,Bool.false_and,Bool.false_and,Bool.false_and,Bool.false_and]
   exact sL_0 a0 a1 a2 a4 a5 b0 b1 b2 b4 b5 _ _ _ _ h0 w p0 q0
 subst h0
 by_cases h1:S1=T1
 rotate_left
 · rw [decide_eq_false h1,Bool.and_false,Bool.false_and,Bool.false_and,Bool.false_and,Bool.false_and]
   exact sL_1 a0 a1 a2 a4 a5 b0 b1 b2 b4 b5 _ _ _ _ _ h1 w p0 q0 p1 q1
 subst h1
 by_cases h2:S2=T2
 rotate_left
 · rw [decide_eq_false h2,Bool.and_false,Bool.false_and,Bool.false_and,Bool.false_and]
   exact sL_2 a0 a1 a2 a4 a5 b0 b1 b2 b4 b5 _ _ _ _ _ _ h2 w p0 q0 p1 q1 p2 q2
 subst h2
 by_cases h3:s=t
 rotate_left
 · rw [decide_eq_false h3,Bool.and_false,Bool.false_and,Bool.false_and]
   exact sL_3 a0 a1 a2 a4 a5 b0 b1 b2 b4 b5 _ _ _ _ _ h3 w p0 q0 p1 q1 p2 q2
 subst h3
 by_cases h4:S4=T4
 rotate_left
 · rw [decide_eq_false h4,Bool.and_false,Bool.false_and]
   exact sL_4 a0 a1 a2 a4 a5 b0 b1 b2 b4 b5 _ _ _ _ _ _ h4 w p0 q0 p1 q1 p2 q2 p4 q4
 subst h4
 by_cases h5:S5=T5
 rotate_left
 · rw [decide_eq_false h5,Bool.and_false]
   exact sL_5 a0 a1 a2 a4 a5 b0 b1 b2 b4 b5 _ _ _ _ _ _ _ h5 w p0 q0 p1 q1 p2 q2 p4 q4 p5 q5
 subst h5
 simp only [decide_true,Bool.and_true]
 exact sL_6 a0 a1 a2 a4 a5 b0 b1 b2 b4 b5 _ _ _ _ _ _ w p0 q0 p1 q1 p2 q2 p4 q4 p5 q5
end Go.Proofs.Ytgdcmibdjiaofaa
namespace Go.Proofs.Ytgdcmibdjiaofaa
open Go.RowKit
set_option maxRecDepth 20000 in
set_option maxHeartbeats 4000000 in
theorem ints_alike (a b:Value) (l:List Int) (hl:l.length<140737488355000) (w:World) (ha:ZIn w a l) (hb:ZIn w b l):Calls Try.prog 49 #[a,b] w fun e w'=>e = .returned (.bool true)∧Below w.heap.size w w':=by
 obtain ⟨xa,ca,rfl,fa⟩:=ha
 obtain ⟨xb,cb,rfl,fb⟩:=hb
 have FA:=Hid.mk' fa
 have FB:=Hid.mk' fb
 clear fa fb
 obtain ⟨n,hn⟩:∃ n,n=l.length:=⟨_,rfl⟩
 rw [←hn] at hl ⊢
 have HN:=Hid.mk' hn
 clear hn
 go_enter Try.func49,Try.ntmps49
 go_wp2
 go_loopw [5] (fun i wr=>∃ q:Nat,q≤n∧i = .int .i64 (q:Int)∧Below w.heap.size w wr) (fun i _=>n - (intOf i).toNat)
 case atStart=>exact ⟨0,Nat.zero_le _,rfl,Below.refl _ _⟩
 case round =>
  obtain ⟨q,hq,rfl,hbw⟩:=hrel
  by_cases hlt:q<n
  · have hz:l[q]? = some l[q]!:=by
     have hql:q<l.length:=by rw [←HN.out];exact hlt
     rw [List.getElem?_eq_getElem hql]
     simp [hql]
    obtain ⟨ga,oa,rfl,la,r1⟩:=FA.out q _ hz
    obtain ⟨gb,ob,rfl,lb,r2⟩:=FB.out q _ hz
    obtain ⟨z,hz'⟩:∃ z,z=l[q]!:=⟨_,rfl⟩
    rw [←hz'] at r1 r2
    have t0:(q:Int)<(n:Int):=by omega
    have t1:(0:Int)≤(q:Int)∧(q:Int)<(n:Int):=by omega
    have t9:IntKind.i64.wrap ((q:Int)+1)=(q:Int)+1:=by simp only [IntKind.wrap_i64];omega
    have bd:Below wr.heap.size wr wr.drew:=(Below.refl _ _).drew
    have bW:=below_next hbw bd
    have s1:∀ u,Below wr.drew.heap.size wr.drew u→u.cell? ⟨ga,oa+q,none⟩=some (.int .i64 z):=fun u hu=>((below_next bW hu).cell (p:=⟨ga,oa+q,none⟩) la).trans r1
    have s2:∀ u,Below wr.drew.heap.size wr.drew u→u.cell? ⟨gb,ob+q,none⟩=some (.int .i64 z):=fun u hu=>((below_next bW hu).cell (p:=⟨gb,ob+q,none⟩) lb).trans r2
    clear hz hz' r1 r2
    go_upto_region 6 with (fail)
    refine wp_region_held_drew (S:=fun u=>Below wr.drew.heap.size wr.drew u) (by kernel_rfl) (Below.refl _ _) (fun hS => ?_)
    refine tg 0 hS ?_
    (try simp only [pS])
    refine tg 1 hS ?_
    (try simp only [pS])
    refine tg 2 hS ?_
    (try simp only [pS])
    refine tc 3 hS (fun u hu=>s1 u hu) ?_
    (try simp only [pS])
    refine tg 4 hS ?_
    (try simp only [pS])
    refine tg 5 hS ?_
    (try simp only [pS])
    refine tg 6 hS ?_
    (try simp only [pS])
    refine tc 7 hS (fun u hu=>s2 u hu) ?_
    (try simp only [pS])
    refine tg 8 hS (v := .bool false) ?_
    (try simp only [pS])
    refine wpAnyH_done (by kernel_rfl) ?_ _
    go_wp2
    go_roundw
    case rel=>exact ⟨q+1,hlt,by go_num,bW⟩
    case measure=>simp [intOf];omega
  · obtain rfl:q=n:=by omega
    have t0:¬(q:Int)<(q:Int):=by omega
    go_wp2
    go_ret
    exact ⟨rfl,hbw⟩
def sameP (a b:PrD):Prop:=a.enc.s=b.enc.s∧a.hash.s=b.hash.s∧a.um=b.um
set_option maxRecDepth 20000 in
set_option maxHeartbeats 1000000 in
theorem sameParent_ok (ca cb:List Value) (a b:PrD) (ha:prK a) (hb:prK b) (h:sameP a b) (hl:a.um.length<140737488355000) (w:World) (iA:PrIn w ca a) (iB:PrIn w cb b):Calls Try.prog 24 #[.agg ca.toArray,.agg cb.toArray] w fun e w'=>e = .returned (.bool true)∧Below w.heap.size w w':=by
 obtain ⟨a0,a1,a2,rfl,i0,i1,i2⟩:=iA
 obtain ⟨b0,b1,b2,rfl,j0,j1,j2⟩:=iB
 have p0:=i0.cv ha.1
 have p1:=i1.cv ha.2
 have q0:=j0.cv hb.1
 have q1:=j1.cv hb.2
 obtain ⟨e0,e1,e2⟩:=h
 rw [←e0] at q0
 rw [←e1] at q1
 rw [←e2] at j2
 generalize a.enc.s=S0 at *
 generalize a.hash.s=S1 at *
 have k1:=RW.fresh w [a0,a1,a2] 45
 have b1':Below w.heap.size w (w.alloc (.cells #[a0,a1,a2] 45)):=(Below.refl _ _).alloc (Nat.le_refl _) _
 have s1:(w.alloc (.cells #[a0,a1,a2] 45)).heap.size=w.heap.size+1:=by simp
 obtain ⟨W1,hW1⟩:∃ W1,W1=w.alloc (.cells #[a0,a1,a2] 45):=⟨_,rfl⟩
 rw [show w.alloc (.cells ([a0,a1,a2]).toArray 45)=W1 from hW1.symm] at k1
 rw [←hW1] at b1' s1
 have k2:=RW.fresh W1 [b0,b1,b2] 44
 have b2':Below W1.heap.size W1 (W1.alloc (.cells #[b0,b1,b2] 44)):=(Below.refl _ _).alloc (Nat.le_refl _) _
 obtain ⟨W,hW⟩:∃ W,W=W1.alloc (.cells #[b0,b1,b2] 44):=⟨_,rfl⟩
 rw [show W1.alloc (.cells ([b0,b1,b2]).toArray 44)=W from hW.symm] at k2
 rw [←hW] at b2'
 rw [s1] at k2
 replace k1:=k1.still b2'
 have HW:Hid (W=(w.alloc (.cells #[a0,a1,a2] 45)).alloc (.cells #[b0,b1,b2] 44)):=Hid.mk' (by rw [hW,hW1])
 have bW:=below_next b1' b2'
 have c:=ints_alike a2 b2 a.um hl W (i2.keep bW) (j2.keep bW)
 replace p0:=p0 W bW
 replace p1:=p1 W bW
 replace q0:=q0 W bW
 replace q1:=q1 W bW
 have c0:=k1.cell (o:=0) rfl
 have c1:=k1.cell (o:=1) rfl
 have c2:=k1.cell (o:=2) rfl
 have d0:=k2.cell (o:=0) rfl
 have d1:=k2.cell (o:=1) rfl
 have d2:=k2.cell (o:=2) rfl
 clear hW hW1 k1 k2 b1' b2' s1 i0 i1 i2 j0 j1 j2 e0 e1 e2
 go_enter Try.func24,Try.ntmps24
 go_upto_region 1 with (fail)
 rw [←HW.out]
 go_wp2_with (go_at_call 49;refine c.mono ?_;clear c;rintro e w2 ⟨rfl,b2⟩)
 go_ret
 exact ⟨rfl,below_next bW b2⟩
theorem ldCg {ops:Array Oper} {rest:List Oper} {op:Oper} {a:Act} {w:World} {Q:Exit→Act→World→Prop} (x:Operand) (ho:op.op = .load 26 x) {g o:Nat} {A B C D E F:Value} (hx:a.eval x = .pointer (some ⟨g,o,none⟩)) (hc:w.rangeAt g o [A,B,C,D,E,F])
 (h:wpList Try.prog ops Q rest (a.put op.dst (.agg #[A,B,C,D,E,F])) w) (hw:Region.wanted op (yielded ops a.tmps)=true):wpList Try.prog ops Q (op :: rest) a w :=
 wpList_load_on hw 26 x ho g o hx [A,B,C,D,E,F] _ hc Try.underlying26 rfl infoL6 h
def sameK (a b:PkD):Prop:=a.init.s=b.init.s∧sameL a.leaf b.leaf=true∧a.sg.s=b.sg.s
set_option maxRecDepth 20000 in
set_option maxHeartbeats 1000000 in
theorem samePackage_ok (ca cb:List Value) (a b:PkD) (ha:pkK a) (hb:pkK b) (h:sameK a b) (w:World) (iA:PkIn w ca a) (iB:PkIn w cb b):Calls Try.prog 30 #[.agg ca.toArray,.agg cb.toArray] w fun e w'=>e = .returned (.bool true)∧Below w.heap.size w w':=by
 obtain ⟨x0,c0',a1,a2,a3,a5,a6,x7,c7',rfl,i0,il,i7⟩:=iA.form
 obtain ⟨y0,e0',b1,b2,b3,b5,b6,y7,e7',rfl,j0,jl,j7⟩:=iB.form
 have p0:=i0.cv ha.1
 have p7:=i7.cv ha.2.2
 have q0:=j0.cv hb.1
 have q7:=j7.cv hb.2.2
 obtain ⟨e0,e1,e2⟩:=h
 rw [←e0] at q0
 rw [←e2] at q7
 generalize a.init.s=S0 at *
 generalize a.sg.s=S7 at *
 generalize hs:a.leaf.src=s at *
 generalize ht:b.leaf.src=t at *
 generalize a.init.n=n0 at *
 generalize b.init.n=m0 at *
 generalize a.sg.n=n7 at *
 generalize b.sg.n=m7 at *
 have k1:=RW.fresh w [.slice x0 n0 c0',a1,a2,a3,.int .i64 s,a5,a6,.slice x7 n7 c7'] 58
 have b1':Below w.heap.size w (w.alloc (.cells #[.slice x0 n0 c0',a1,a2,a3,.int .i64 s,a5,a6,.slice x7 n7 c7'] 58)):=(Below.refl _ _).alloc (Nat.le_refl _) _
 have s1:(w.alloc (.cells #[.slice x0 n0 c0',a1,a2,a3,.int .i64 s,a5,a6,.slice x7 n7 c7'] 58)).heap.size=w.heap.size+1:=by simp
 obtain ⟨W1,hW1⟩:∃ W1,W1=w.alloc (.cells #[.slice x0 n0 c0',a1,a2,a3,.int .i64 s,a5,a6,.slice x7 n7 c7'] 58):=⟨_,rfl⟩
 rw [show w.alloc (.cells ([.slice x0 n0 c0',a1,a2,a3,.int .i64 s,a5,a6,.slice x7 n7 c7']).toArray 58)=W1 from hW1.symm] at k1
 rw [←hW1] at b1' s1
 have k2:=RW.fresh W1 [.slice y0 m0 e0',b1,b2,b3,.int .i64 t,b5,b6,.slice y7 m7 e7'] 56
 have b2':Below W1.heap.size W1 (W1.alloc (.cells #[.slice y0 m0 e0',b1,b2,b3,.int .i64 t,b5,b6,.slice y7 m7 e7'] 56)):=(Below.refl _ _).alloc (Nat.le_refl _) _
 obtain ⟨W,hW⟩:∃ W,W=W1.alloc (.cells #[.slice y0 m0 e0',b1,b2,b3,.int .i64 t,b5,b6,.slice y7 m7 e7'] 56):=⟨_,rfl⟩
 rw [show W1.alloc (.cells ([.slice y0 m0 e0',b1,b2,b3,.int .i64 t,b5,b6,.slice y7 m7 e7']).toArray 56)=W from hW.symm] at k2
 rw [←hW] at b2'
 rw [s1] at k2
 replace k1:=k1.still b2'
 have HW:Hid (W=(w.alloc (.cells #[.slice x0 n0 c0',a1,a2,a3,.int .i64 s,a5,a6,.slice x7 n7 c7'] 58)).alloc (.cells #[.slice y0 m0 e0',b1,b2,b3,.int .i64 t,b5,b6,.slice y7 m7 e7'] 56)):=Hid.mk' (by rw [hW,hW1])
 have bW:=below_next b1' b2'
 have c:=sameLeaf_any _ _ a.leaf b.leaf ha.2.1 hb.2.1 W (il.keep bW) (jl.keep bW)
 rw [e1] at c
 have c0:=k1.cell (o:=0) rfl
 have d0:=k2.cell (o:=0) rfl
 have rA:=(row_mid k1).range
 have rB:=(row_mid k2).range
 have K1:=Hid.mk' k1
 have K2:=Hid.mk' k2
 replace p0:=p0 W bW
 replace q0:=q0 W bW
 have P7:=Hid.mk' p7
 have Q7:=Hid.mk' q7
 clear hW hW1 k1 k2 b1' b2' s1 i0 il i7 j0 jl j7 e0 e1 e2 p7 q7 hs ht iA iB
 go_enter Try.func30,Try.ntmps30
 go_upto_region 1 with (fail)
 rw [←HW.out]
 go_wp2_with (first
  | (with_reducible (refine id (?_:wpList _ _ _ _ _ _));refine ldCg _ rfl rfl rA ?_ rfl)
  | (with_reducible (refine id (?_:wpList _ _ _ _ _ _));refine ldLg _ rfl rfl rB ?_ rfl)
  | (go_at_call 16;refine c.mono ?_;clear c;rintro e w2 ⟨rfl,b2'⟩;(have c7:=(K1.out.still b2').cell (o:=7) rfl);(have d7:=(K2.out.still b2').cell (o:=7) rfl);(have p7:=P7.out w2 (below_next bW b2'));(have q7:=Q7.out w2 (below_next bW b2'))))
 go_ret
 exact ⟨rfl,below_next bW b2'⟩
end Go.Proofs.Ytgdcmibdjiaofaa
namespace Go.Proofs.Ytgdcmibdjiaofaa
open Go.RowKit
theorem num13_any (x:Int) (w:World):Calls Try.prog 15 #[.int .i64 x] w fun e w'=>e = .returned (.int .i64 x)∧w=w':=by
 go_enter Try.func15,Try.ntmps15
 go_wp2
 go_ret
 exact ⟨rfl,rfl⟩
theorem vcB_lt {n:Nat} {b:Nat→Nat} (h:∀ j,b j<256) (j:Nat):vcB n b j<256:=cat_lt (fun j=>beN_lt _ _ j) h j
theorem prB_lt {d:PrD} (h:prK d):∀ i j,prB d i j<256
 | 0,j=>vcB_lt h.1 j
 | 1,j=>vcB_lt h.2 j
 | _+2,j=>vcB_lt (fun j=>allB_lt (fun _ j=>beN_lt _ _ j) _ j) j
theorem lfB_lt {d:LfD} (h:lfK d):∀ i j,lfB d i j<256
 | 0,j=>vcB_lt h.1 j
 | 1,j=>vcB_lt h.2.1 j
 | 2,j=>vcB_lt h.2.2.1 j
 | 3,j=>beN_lt _ _ j
 | 4,j=>vcB_lt h.2.2.2.1 j
 | _+5,j=>vcB_lt h.2.2.2.2 j
theorem pkB_lt {d:PkD} (h:pkK d):∀ i j,pkB d i j<256
 | 0,j=>beN_lt _ _ j
 | 1,j=>beN_lt _ _ j
 | 2,j=>vcB_lt h.1 j
 | 3,j=>lfB_lt h.2.1 0 j
 | 4,j=>lfB_lt h.2.1 1 j
 | 5,j=>lfB_lt h.2.1 2 j
 | 6,j=>lfB_lt h.2.1 3 j
 | 7,j=>lfB_lt h.2.1 4 j
 | 8,j=>lfB_lt h.2.1 5 j
 | _+9,j=>vcB_lt h.2.2 j
theorem ltB_lt {d:LfD} {g:Tx} {z:Int} (h:lfK d) (hg:∀ j,g.b j<256):∀ i j,ltB d g z i j<256
 | 0,j=>lfB_lt h 0 j
 | 1,j=>lfB_lt h 1 j
 | 2,j=>lfB_lt h 2 j
 | 3,j=>lfB_lt h 3 j
 | 4,j=>lfB_lt h 4 j
 | 5,j=>Nat.zero_lt_succ _
 | 6,j=>by
  show (if d.src=1 then fun _=>0 else vcB g.n g.b) j<256
  split
  · exact Nat.zero_lt_succ _
  · exact vcB_lt hg j
 | _+7,j=>by
  show (if d.src=1 then fun _=>0 else beN z.toNat 4) j<256
  split
  · exact Nat.zero_lt_succ _
  · exact beN_lt _ _ j
def k0:Nat→Nat:=fun _=>0
def kpr:PrD:=⟨⟨32,k0⟩,⟨0,k0⟩,[1]⟩
theorem kpr_R:prR kpr:=⟨rfl,.inl rfl,by decide⟩
theorem kpr_len:prLen kpr=39:=by decide
theorem kpr_str:strB 6 (fun j=>prByt kpr (33+j))={ data:=#[0,4,0,0,0,1] }:=by kernel_rfl
theorem no_leaf:¬(lfR (getD13 0 k0) 3∧getE13 0 k0=0):=fun h=>by
 have h1:=(lf_all (getD13 0 k0) 3).2 h.1
 have h2:lfA (rl 0 k0 ⟨0,0⟩ 6).1 3 0=true:=by
  rw [show allU (lfA (getD13 0 k0) 3) 6=((((((true && lfA (getD13 0 k0) 3 0) && lfA (getD13 0 k0) 3 1) && lfA (getD13 0 k0) 3 2) && lfA (getD13 0 k0) 3 3) && lfA (getD13 0 k0) 3 4) && lfA (getD13 0 k0) 3 5) from rfl] at h1
  simp only [Bool.and_eq_true] at h1
  exact h1.1.1.1.1.1.2
 rw [←lfA_rl 0 k0 ⟨0,0⟩ 3 0 (by decide)] at h2
 have h3:lfA (rl 0 k0 ⟨0,0⟩ (0+1)).1 3 0=false:=by kernel_rfl
 rw [h3] at h2
 cases h2
theorem BytesIn.from_ {w:World} {v:Value} {L:Nat} {B:Nat→Nat} (hv:BytesIn w v L B) (a n:Nat) (h1:a+n=L) (hn:0<n):∃ xo cx x' c',v = .slice xo L cx∧(∀ W:World,(Instr.sliceAt 22 (.slice xo L cx) (some (.int .i64 a)) none none).run Try.prog W = .ok (.slice x' n c') W)∧BytesIn w (.slice x' n c') n (fun j=>B (a+j)):=by
 have u1:Try.prog.underlying 22=some (.slice (Try.prog.elem 22)):=by kernel_rfl
 have u2:Try.prog.elem 22=5:=by kernel_rfl
 have u3:∀ W,((sizeOf 5).run Try.prog W) = .ok 1 W:=fun W=>by kernel_rfl
 rcases hv with ⟨xo,rfl,rfl⟩ | ⟨bb,ob,cap,rfl,hb,hc,hcell⟩
 · omega
 · have e1:L - a=n:=by omega
   have hne:¬cap=a:=by omega
   refine ⟨some ⟨bb,ob,none⟩,cap,some ⟨bb,ob+a,none⟩,cap - a,rfl,fun W => ?_,.inr ⟨bb,ob+a,cap - a,rfl,hb,by omega,fun j hj => ?_⟩⟩
   · rw [run_sliceAt_slice W 22 _ _ _ _ u1,run_slice_l W 22 _ L cap u1 .i64 _ (by omega) (by omega),u2,u3]
     simp [sliced,Addr.add_mid,hne,e1]
   · rw [Nat.add_assoc]
     exact hcell (a+j) (by omega)
set_option maxRecDepth 20000 in
set_option maxHeartbeats 1000000 in
theorem knows13 (w:World):Calls Try.prog 18 #[] w fun e w'=>e = .returned (.bool true)∧Below w.heap.size w w':=by
 have b1:Below w.heap.size w (w.alloc (.cells (zb 32) 5)):=(Below.refl _ _).alloc (Nat.le_refl _) _
 have s1:(w.alloc (.cells (zb 32) 5)).heap.size=w.heap.size+1:=by simp
 have r1:BytesIn (w.alloc (.cells (zb 32) 5)) (.slice (some ⟨w.heap.size,0,none⟩) 32 32) 32 k0 := .inr ⟨_,0,32,rfl,by rw [s1];omega,Nat.le_refl _,fun j hj=>(RowAt.fresh (K := .u8) (w:=w) (t:=5) (X:=k0) (n:=32) (fun j hj=>zb_at 32 j hj) j hj).1⟩
 obtain ⟨W1,hW1⟩:∃ W1,W1=w.alloc (.cells (zb 32) 5):=⟨_,rfl⟩
 rw [←hW1] at b1 s1 r1
 have b2:Below W1.heap.size W1 (W1.alloc (.cells #[.int .i64 1] 3)):=(Below.refl _ _).alloc (Nat.le_refl _) _
 have r2:=RW.fresh W1 [.int .i64 1] 3
 obtain ⟨W,hW⟩:∃ W,W=W1.alloc (.cells #[.int .i64 1] 3):=⟨_,rfl⟩
 rw [show W1.alloc (.cells [.int .i64 1].toArray 3)=W from hW.symm] at r2
 rw [←hW] at b2
 rw [s1] at r2
 have hd:PrIn W [.slice (some ⟨w.heap.size,0,none⟩) 32 32,.slice none 0 0,.slice (some ⟨w.heap.size+1,0,none⟩) 1 1] kpr :=
  ⟨_,_,_,rfl,r1.keep b2,.inl ⟨none,rfl,rfl⟩,⟨_,1,rfl,fun i z hz=>by
    match i,hz with
    | 0,hz=>cases hz;exact ⟨_,0,rfl,r2.lt,r2.cell (o:=0) rfl⟩
    | i+1,hz=>simp [kpr] at hz⟩⟩
 have cp:=putParent_any _ kpr W hd (by decide)
 have mk:=make_bytes w 32 32 rfl (by decide)
 have cg:=fun W'=>getLeaf_any (.slice none 0 0) 0 k0 (fun _=>Nat.zero_lt_succ _) (by decide) W' (.inl ⟨none,rfl,rfl⟩)
 rw [hW,hW1] at cp
 have HW:Hid (W=(w.alloc (.cells (zb 32) 5)).alloc (.cells #[.int .i64 1] 3)):=Hid.mk' (by rw [hW,hW1])
 have bW:=below_next b1 b2
 have CG:=Hid.mk' cg
 clear hW hW1 b1 b2 s1 r1 r2 hd cg
 go_enter Try.func18,Try.ntmps18
 go_upto_region 2 with (go_at_call 20;refine cp.mono ?_;clear cp;rintro e w2 ⟨b2,hA⟩;unfold PutA at hA;rw [if_pos kpr_R] at hA;obtain ⟨s,rfl,hs⟩:=hA)
 rw [←HW.out] at b2
 rw [kpr_len] at hs
 obtain ⟨xo,cx,x',c',rfl,hsl,hbi⟩:=hs.from_ 33 6 rfl (by decide)
 have cv:=BytesIn.conv hbi (fun j=>allB_lt (prB_lt (d:=kpr) ⟨fun _=>Nat.zero_lt_succ _,fun _=>Nat.zero_lt_succ _⟩) 3 (33+j))
 rw [kpr_str] at cv
 have cg:=CG.out w2
 unfold GetA at cg
 simp only [if_neg no_leaf,zeroL] at cg
 clear hbi hs mk CG
 go_upto_region 3 with (go_at_call 13;refine cg.mono ?_;clear cg;rintro e w3 ⟨b3,rfl⟩)
 have b4:Below w3.heap.size w3 (w3.alloc (.cells #[.slice none 0 0,.slice none 0 0,.slice none 0 0,.int .i64 0,.slice none 0 0,.slice none 0 0] 26)):=(Below.refl _ _).alloc (Nat.le_refl _) _
 have cv':=cv _ (below_next b3 b4)
 have hsl':(Instr.sliceAt 22 (.slice xo 39 cx) (some (.int .i64 33)) none none).run Try.prog (w3.alloc (.cells #[.slice none 0 0,.slice none 0 0,.slice none 0 0,.int .i64 0,.slice none 0 0,.slice none 0 0] 26)) = .ok (.slice x' 6 c') _:=hsl (w3.alloc (.cells #[.slice none 0 0,.slice none 0 0,.slice none 0 0,.int .i64 0,.slice none 0 0,.slice none 0 0] 26))
 clear cv hsl
 go_wp2_with (go_at_call 15;refine (num13_any _ _).mono ?_;rintro e wn ⟨rfl,hwn⟩;subst hwn)
 go_ret
 exact ⟨rfl,below_next (below_next (below_next bW b2) b3) b4⟩
end Go.Proofs.Ytgdcmibdjiaofaa
namespace Go.Proofs.Ytgdcmibdjiaofaa
open Go.RowKit
open Classical in
noncomputable def putS (R:Prop) (n:Nat) (b:Nat→Nat):ByteArray:=if R then strB n b else strB 0 k0
open Classical in
noncomputable def putZ (R:Prop):Int:=if R then 0 else 1
open Classical in
noncomputable def getZ (R:Prop):Int:=if R then 0 else 21
open Classical in
noncomputable def getX {α:Type} (R:Prop) (d z:α):α:=if R then d else z
theorem PutA.str {R:Prop} {n:Nat} {b:Nat→Nat} {e:Ending} {w:World} (h:PutA R n b e w) (hb:∀ j,b j<256):∃ x m c,e = .returned (.tuple #[.slice x m c,.int .i64 (putZ R)])∧Cv w (.slice x m c) (putS R n b):=by
 unfold PutA at h
 unfold putZ putS
 split at h
 · rename_i hR
   obtain ⟨s,rfl,hs⟩:=h
   obtain ⟨x,c,rfl,-⟩:=hs.src
   rw [if_pos hR,if_pos hR]
   exact ⟨x,n,c,rfl,fun W hW=>hs.conv hb W hW⟩
 · rename_i hR
   rw [if_neg hR,if_neg hR]
   exact ⟨none,0,0,h,fun W _=>conv_nil W⟩
theorem GetA.same {α:Type} {R:Prop} {D:World→List Value→α→Prop} {d z:α} {zero:List Value} {e:Ending} {w:World} (h:GetA R (fun W cs=>D W cs d) zero e w) (hz:D w zero z):∃ cs,e = .returned (.tuple #[.agg cs.toArray,.int .i64 (getZ R)])∧D w cs (getX R d z):=by
 unfold GetA at h
 unfold getZ getX
 split at h
 · rename_i hR
   obtain ⟨cs,rfl,hc⟩:=h
   rw [if_pos hR,if_pos hR]
   exact ⟨cs,rfl,hc⟩
 · rename_i hR
   rw [if_neg hR,if_neg hR]
   exact ⟨zero,h,hz⟩
theorem nilB (w:World) (b:Nat→Nat):BytesIn w (.slice none 0 0) 0 b := .inl ⟨none,rfl,rfl⟩
def pk0:PkD:=⟨tx0,lf0,tx0⟩
theorem zeroL_in (w:World):LfIn w zeroL lf0:=⟨_,_,_,_,_,rfl,nilB _ _,nilB _ _,nilB _ _,nilB _ _,nilB _ _⟩
theorem zeroK_in (w:World):PkIn w zeroK pk0:=⟨_,zeroL,_,rfl,nilB _ _,zeroL_in w,nilB _ _⟩
theorem tx0K:∀ j,tx0.b j<256:=fun _=>Nat.zero_lt_succ _
theorem lf0K:lfK lf0:=⟨tx0K,tx0K,tx0K,tx0K,tx0K⟩
theorem rl_K {L:Nat} {B:Nat→Nat} (lB:∀ j,B j<256) (r:Rd):∀ k,lfK (rl L B r k).1
 | 0=>lf0K
 | k+1=>by
  have h:=rl_K (L:=L) lB r k
  show lfK (rlS L B (rl L B r k) k).1
  have hv:∀ j,(vx L B (rl L B r k).2).b j<256:=fun j=>lB _
  match k with
  | 0=>exact ⟨hv,h.2⟩
  | 1=>exact ⟨h.1,hv,h.2.2⟩
  | 2=>exact ⟨h.1,h.2.1,hv,h.2.2.2⟩
  | 3=>exact h
  | 4 =>
   show lfK (if (rl L B r 4).1.src=3 then _ else rl L B r 4).1
   split
   · exact ⟨h.1,h.2.1,h.2.2.1,hv,h.2.2.2.2⟩
   · exact h
  | k+5=>exact ⟨h.1,h.2.1,h.2.2.1,h.2.2.2.1,hv⟩
theorem PrIn.form {w:World} {cs:List Value} {d:PrD} (h:PrIn w cs d):∃ x0 c0 x1 c1 x2 c2,cs=[.slice x0 d.enc.n c0,.slice x1 d.hash.n c1,.slice x2 d.um.length c2]:=by
 obtain ⟨v0,v1,v2,rfl,h0,h1,h2⟩:=h
 obtain ⟨x0,c0,rfl,-⟩:=h0.src
 obtain ⟨x1,c1,rfl,-⟩:=h1.src
 obtain ⟨x2,c2,rfl,-⟩:=h2
 exact ⟨x0,c0,x1,c1,x2,c2,rfl⟩
theorem PkIn.form8 {w:World} {cs:List Value} {d:PkD} (h:PkIn w cs d):∃ x0 c0 x1 c1 x2 c2 x3 c3 x5 c5 x6 c6 x7 c7,cs=[.slice x0 d.init.n c0,.slice x1 d.leaf.enc.n c1,.slice x2 d.leaf.sig.n c2,.slice x3 d.leaf.name.n c3,.int .i64 d.leaf.src,.slice x5 d.leaf.hash.n c5,.slice x6 d.leaf.sg.n c6,.slice x7 d.sg.n c7]:=by
 obtain ⟨x0,c0,u0,u1,u2,u4,u5,x7,c7,rfl,-,hl,-⟩:=h.form
 obtain ⟨y0,e0,y1,e1,y2,e2,y4,e4,y5,e5,hu,-⟩:=hl.form
 cases hu
 exact ⟨x0,c0,y0,e0,y1,e1,y2,e2,y4,e4,y5,e5,x7,c7,rfl⟩
theorem row_bytes {w:World} {g n cap:Nat} {bs:Nat→Nat} (h:RowAt .u8 w g 0 (n+2) (cat n bs room)) (hc:n+2≤cap):BytesIn w (.slice (some ⟨g,0,none⟩) n cap) n bs := .inr ⟨g,0,cap,rfl,block_lt_of_cell (h 0 (by omega)).1,by omega,fun j hj=>by
 have:=(h j (by omega)).1
 rwa [cat_left hj] at this⟩
theorem RowAt.keep {K:IntKind} {w w':World} {b o n:Nat} {X:Nat→Nat} (h:RowAt K w b o n X) (hn:0<n) (hb:Below w.heap.size w w'):RowAt K w' b o n X:=h.below hb (block_lt_of_cell (h 0 hn).1)
section
variable {ops:Array Oper} {rest:List Oper} {op:Oper} {a:Act} {w:World} {Q:Exit→Act→World→Prop}
theorem ldC (x:Operand) (ho:op.op = .load 26 x) {g o:Nat} {A B C D E F:Value} (hx:a.eval x = .pointer (some ⟨g,o,none⟩)) (hc:w.rangeAt g o [A,B,C,D,E,F])
 (h:wpList Try.prog ops Q rest (a.put op.dst (.agg #[A,B,C,D,E,F])) w) (hgd:op.guard=none):wpList Try.prog ops Q (op :: rest) a w :=
 wpList_load_mid hgd 26 x ho g o hx [A,B,C,D,E,F] _ hc Try.underlying26 rfl infoL6 h
theorem ldDg (x:Operand) (ho:op.op = .load 45 x) {g o:Nat} {A B C:Value} (hx:a.eval x = .pointer (some ⟨g,o,none⟩)) (hc:w.rangeAt g o [A,B,C])
 (h:wpList Try.prog ops Q rest (a.put op.dst (.agg #[A,B,C])) w) (hw:Region.wanted op (yielded ops a.tmps)=true):wpList Try.prog ops Q (op :: rest) a w :=
 wpList_load_on hw 45 x ho g o hx [A,B,C] _ hc Try.underlying45 rfl infoP3 h
theorem ldE (x:Operand) (ho:op.op = .load 58 x) {g o:Nat} {A B C D E F G H:Value} (hx:a.eval x = .pointer (some ⟨g,o,none⟩)) (hc:w.rangeAt g o [A,B,C,D,E,F,G,H])
 (h:wpList Try.prog ops Q rest (a.put op.dst (.agg #[A,B,C,D,E,F,G,H])) w) (hgd:op.guard=none):wpList Try.prog ops Q (op :: rest) a w :=
 wpList_load_mid hgd 58 x ho g o hx [A,B,C,D,E,F,G,H] _ hc Try.underlying58 rfl infoK8 h
theorem ldEg (x:Operand) (ho:op.op = .load 58 x) {g o:Nat} {A B C D E F G H:Value} (hx:a.eval x = .pointer (some ⟨g,o,none⟩)) (hc:w.rangeAt g o [A,B,C,D,E,F,G,H])
 (h:wpList Try.prog ops Q rest (a.put op.dst (.agg #[A,B,C,D,E,F,G,H])) w) (hw:Region.wanted op (yielded ops a.tmps)=true):wpList Try.prog ops Q (op :: rest) a w :=
 wpList_load_on hw 58 x ho g o hx [A,B,C,D,E,F,G,H] _ hc Try.underlying58 rfl infoK8 h
end
end Go.Proofs.Ytgdcmibdjiaofaa
namespace Go.Proofs.Ytgdcmibdjiaofaa
open Go.RowKit
set_option maxRecDepth 20000 in
set_option maxHeartbeats 2000000 in
theorem nodesTexts_any (cs:List Value) (d:LfD) (v:Value) (g:Tx) (z:Int) (ks:List Value) (q:PkD) (hk:lfK d) (hl:lfL d) (lb:∀ j,g.b j<256) (hn:g.n<140737488355000) (hkq:pkK q) (hlq:pkL q) (w:World) (hd:LfIn w cs d) (hv:BytesIn w v g.n g.b) (hq:PkIn w ks q) :
 Calls Try.prog 6 #[.agg cs.toArray,v,.int .i64 z,.agg ks.toArray] w fun e w'=>e = .returned (.bool true)∧Below w.heap.size w w':=by
 have hd':=hd
 have hq':=hq
 obtain ⟨ax0,ac0,ax1,ac1,ax2,ac2,ax4,ac4,ax5,ac5,rfl,-⟩:=hd.form
 obtain ⟨kx0,kc0,kx1,kc1,kx2,kc2,kx3,kc3,kx5,kc5,kx6,kc6,kx7,kc7,rfl⟩:=hq.form8
 clear hd hq
 have k0:=RW.fresh w [.slice ax0 d.enc.n ac0,.slice ax1 d.sig.n ac1,.slice ax2 d.name.n ac2,.int .i64 d.src,.slice ax4 d.hash.n ac4,.slice ax5 d.sg.n ac5] 24
 have b0:Below w.heap.size w (w.alloc (.cells #[.slice ax0 d.enc.n ac0,.slice ax1 d.sig.n ac1,.slice ax2 d.name.n ac2,.int .i64 d.src,.slice ax4 d.hash.n ac4,.slice ax5 d.sg.n ac5] 24)):=(Below.refl _ _).alloc (Nat.le_refl _) _
 have s0:(w.alloc (.cells #[.slice ax0 d.enc.n ac0,.slice ax1 d.sig.n ac1,.slice ax2 d.name.n ac2,.int .i64 d.src,.slice ax4 d.hash.n ac4,.slice ax5 d.sg.n ac5] 24)).heap.size=w.heap.size+1:=by simp
 obtain ⟨W1,hW1⟩:∃ W1,W1=w.alloc (.cells #[.slice ax0 d.enc.n ac0,.slice ax1 d.sig.n ac1,.slice ax2 d.name.n ac2,.int .i64 d.src,.slice ax4 d.hash.n ac4,.slice ax5 d.sg.n ac5] 24):=⟨_,rfl⟩
 rw [show w.alloc (.cells [.slice ax0 d.enc.n ac0,.slice ax1 d.sig.n ac1,.slice ax2 d.name.n ac2,.int .i64 d.src,.slice ax4 d.hash.n ac4,.slice ax5 d.sg.n ac5].toArray 24)=W1 from hW1.symm] at k0
 rw [←hW1] at b0 s0
 have k7:=RW.fresh W1 [.slice kx0 q.init.n kc0,.slice kx1 q.leaf.enc.n kc1,.slice kx2 q.leaf.sig.n kc2,.slice kx3 q.leaf.name.n kc3,.int .i64 q.leaf.src,.slice kx5 q.leaf.hash.n kc5,.slice kx6 q.leaf.sg.n kc6,.slice kx7 q.sg.n kc7] 56
 have b7:Below W1.heap.size W1 (W1.alloc (.cells #[.slice kx0 q.init.n kc0,.slice kx1 q.leaf.enc.n kc1,.slice kx2 q.leaf.sig.n kc2,.slice kx3 q.leaf.name.n kc3,.int .i64 q.leaf.src,.slice kx5 q.leaf.hash.n kc5,.slice kx6 q.leaf.sg.n kc6,.slice kx7 q.sg.n kc7] 56)):=(Below.refl _ _).alloc (Nat.le_refl _) _
 obtain ⟨W0,hW0⟩:∃ W0,W0=W1.alloc (.cells #[.slice kx0 q.init.n kc0,.slice kx1 q.leaf.enc.n kc1,.slice kx2 q.leaf.sig.n kc2,.slice kx3 q.leaf.name.n kc3,.int .i64 q.leaf.src,.slice kx5 q.leaf.hash.n kc5,.slice kx6 q.leaf.sg.n kc6,.slice kx7 q.sg.n kc7] 56):=⟨_,rfl⟩
 rw [show W1.alloc (.cells [.slice kx0 q.init.n kc0,.slice kx1 q.leaf.enc.n kc1,.slice kx2 q.leaf.sig.n kc2,.slice kx3 q.leaf.name.n kc3,.int .i64 q.leaf.src,.slice kx5 q.leaf.hash.n kc5,.slice kx6 q.leaf.sg.n kc6,.slice kx7 q.sg.n kc7].toArray 56)=W0 from hW0.symm] at k7
 rw [←hW0] at b7
 rw [s0] at k7
 have HW0:Hid (W0=(w.alloc (.cells #[.slice ax0 d.enc.n ac0,.slice ax1 d.sig.n ac1,.slice ax2 d.name.n ac2,.int .i64 d.src,.slice ax4 d.hash.n ac4,.slice ax5 d.sg.n ac5] 24)).alloc (.cells #[.slice kx0 q.init.n kc0,.slice kx1 q.leaf.enc.n kc1,.slice kx2 q.leaf.sig.n kc2,.slice kx3 q.leaf.name.n kc3,.int .i64 q.leaf.src,.slice kx5 q.leaf.hash.n kc5,.slice kx6 q.leaf.sg.n kc6,.slice kx7 q.sg.n kc7] 56)):=Hid.mk' (by rw [hW0,hW1])
 have bW:=below_next b0 b7
 have HD:=Hid.mk' (hd'.keep bW)
 have HQ:=Hid.mk' (hq'.keep bW)
 have HV:=Hid.mk' (hv.keep bW)
 have cL:=lent_any v g.n g.b W0 HV.out hn
 have K0:=Hid.mk' (k0.still b7)
 have K7:=Hid.mk' k7
 obtain ⟨S,hS⟩:∃ S,S=putS (ltR d g z) (ltLen d g) (ltByt d g z):=⟨_,rfl⟩
 obtain ⟨zp,hzp⟩:∃ z',z'=putZ (ltR d g z):=⟨_,rfl⟩
 obtain ⟨T,hT⟩:∃ T,T=putS (pkR q) (sumN (pkN q) 9) (allB (pkN q) (pkB q) 9):=⟨_,rfl⟩
 obtain ⟨zq,hzq⟩:∃ z',z'=putZ (pkR q):=⟨_,rfl⟩
 have cm:=fun W' hb=>mkLeaf_any _ d hl W' (HD.out.keep (w':=W') hb)
 have ck:=fun W' hb=>mkPackage_any _ q hlq W' (HQ.out.keep (w':=W') hb)
 have cp:∀ W cs u,LfIn W cs d→BytesIn W u g.n g.b→Calls Try.prog 31 #[.agg cs.toArray,u,.int .i64 z] W fun e w'=>Below W.heap.size W w'∧∃ x m c,e = .returned (.tuple #[.slice x m c,.int .i64 zp])∧Cv w' (.slice x m c) S:=fun W cs u hi hu=>(leafText_any _ d u g z W hi hu).mono fun e w' ⟨h1,h2⟩=>⟨h1,by rw [hS,hzp];exact h2.str (fun j=>allB_lt (ltB_lt hk lb) 8 j)⟩
 have cq:∀ W cs u,LfIn W cs d→BytesIn W u g.n g.b→Calls Try.prog 32 #[.agg cs.toArray,u,.int .i64 z] W fun e w'=>Below W.heap.size W w'∧∃ x m c,e = .returned (.tuple #[.slice x m c,.int .i64 zp])∧Cv w' (.slice x m c) S:=fun W cs u hi hu=>(rLeafText_any _ d u g z W hk lb hi hu).mono fun e w' ⟨h1,h2⟩=>⟨h1,by rw [hS,hzp];exact h2.str (fun j=>allB_lt (ltB_lt hk lb) 8 j)⟩
 have cr:∀ W cs,PkIn W cs q→Calls Try.prog 33 #[.agg cs.toArray] W fun e w'=>Below W.heap.size W w'∧∃ x m c,e = .returned (.tuple #[.slice x m c,.int .i64 zq])∧Cv w' (.slice x m c) T:=fun W cs hi=>(packageText_any _ q W hi).mono fun e w' ⟨h1,h2⟩=>⟨h1,by rw [hT,hzq];exact h2.str (fun j=>allB_lt (pkB_lt hkq) 9 j)⟩
 have ct:∀ W cs,PkIn W cs q→Calls Try.prog 34 #[.agg cs.toArray] W fun e w'=>Below W.heap.size W w'∧∃ x m c,e = .returned (.tuple #[.slice x m c,.int .i64 zq])∧Cv w' (.slice x m c) T:=fun W cs hi=>(rPackageText_any _ q hkq W hi).mono fun e w' ⟨h1,h2⟩=>⟨h1,by rw [hT,hzq];exact h2.str (fun j=>allB_lt (pkB_lt hkq) 9 j)⟩
 have CM:=Hid.mk' cm
 have CK:=Hid.mk' ck
 have CP:=Hid.mk' cp
 have CQ:=Hid.mk' cq
 have CR:=Hid.mk' cr
 have CT:=Hid.mk' ct
 clear hW0 hW1 k0 k7 s0 hd' hq' hv hS hzp hT hzq cm ck cp cq cr ct
 generalize hgn:g.n=n at *
 have HGN:=Hid.mk' hgn
 clear hgn
 go_enter Try.func6,Try.ntmps6
 go_upto_region 1 with (fail)
 rw [←HW0.out]
 go_upto_region 2 with (go_at_call 9;refine cL.mono ?_;clear cL;rintro e w1 ⟨gw,cap,rfl,hcap,hg,row1,b1⟩)
 have rr0:=(K0.out.still b1).range
 have cm:=CM.out w1 b1
 go_upto_region 3 with (first
  | (with_reducible (refine id (?_:wpList _ _ _ _ _ _));refine ldL _ rfl rfl rr0 ?_ rfl)
  | (go_at_call 10;refine cm.mono ?_;clear cm;rintro e w2 ⟨cs2,rfl,i2,b2⟩;(have cp:=CP.out w2 cs2 _ i2 (row_bytes (row1.keep (by omega) b2) hcap)))
  | (go_at_call 31;refine cp.mono ?_;clear cp;rintro e w3 ⟨b3,xa,ma,ca,rfl,va⟩))
 have b13:=below_next b1 (below_next b2 b3)
 have rr0:=(K0.out.still b13).range
 have cq:=CQ.out w3 _ _ (HD.out.keep b13) (HV.out.keep b13)
 go_upto_region 4 with (first
  | (with_reducible (refine id (?_:wpList _ _ _ _ _ _));refine ldL _ rfl rfl rr0 ?_ rfl)
  | (go_at_call 32;refine cq.mono ?_;clear cq;rintro e w4 ⟨b4,xc,mc,cc,rfl,vc⟩))
 have b14:=below_next b13 b4
 have rr7:=(K7.out.still b14).range
 have ck:=CK.out w4 b14
 clear rr0
 go_upto_region 5 with (first
  | (with_reducible (refine id (?_:wpList _ _ _ _ _ _));refine ldK _ rfl rfl rr7 ?_ rfl)
  | (go_at_call 25;refine ck.mono ?_;clear ck;rintro e w5 ⟨cs5,rfl,i5,b5⟩;(have cr:=CR.out w5 cs5 i5))
  | (go_at_call 33;refine cr.mono ?_;clear cr;rintro e w6 ⟨b6,xd,md,cd,rfl,vd⟩))
 have b46:=below_next b5 b6
 have b16:=below_next b14 b46
 have rr7:=(K7.out.still b16).range
 have ct:=CT.out w6 _ (HQ.out.keep b16)
 go_upto_region 6 with (first
  | (with_reducible (refine id (?_:wpList _ _ _ _ _ _));refine ldK _ rfl rfl rr7 ?_ rfl)
  | (go_at_call 34;refine ct.mono ?_;clear ct;rintro e w7 ⟨b7',xe,me,ce,rfl,ve⟩))
 have b47:=below_next b46 b7'
 have b17:=below_next b14 b47
 have ya:=va w7 (below_next b4 b47)
 have yc:=vc w7 b47
 have vd':=vd.keep b7'
 have row7:=row1.keep (by omega) (below_next (below_next b2 b3) (below_next b4 b47))
 have R7:=Hid.mk' row7
 have V7:=Hid.mk' (HV.out.keep b17)
 have yd:=vd' w7 (Below.refl _ _)
 have ye:=ve w7 (Below.refl _ _)
 clear row1 row7 va vc vd ve vd' rr7 i2 i5 b1 b2 b3 b4 b5 b6 b7' b13 b14 b46 b16 b47 CM CK CP CQ CR CT HD HQ HV HW0 K0 K7
 go_wp2_with (first
  | (go_at_call 15;refine (num13_any _ _).mono ?_;rintro e wn ⟨rfl,hwn⟩;subst hwn;(have ct:=stays_any gw cap n v g.b lb w7 hn hcap R7.out V7.out))
  | (go_at_call 17;refine ct.mono ?_;clear ct;rintro e w9 ⟨rfl,b9⟩)
  | (go_at_call 18;refine (knows13 _).mono ?_;rintro e w10 ⟨rfl,b10⟩))
 go_ret
 exact ⟨rfl,below_next (below_next (below_next bW b17) b9) b10⟩
end Go.Proofs.Ytgdcmibdjiaofaa
namespace Go.Proofs.Ytgdcmibdjiaofaa
open Go.ChangeShapes Go.WideShapes Go.ChangeAt Go.RowKit
theorem ownKnobs:ownKnob Try.prog.godebug=none:=by kernel_rfl
theorem laidOut:laidOutB Try.prog=true:=by kernel_rfl
theorem cellsOfByte:Try.prog.cellsOf 5=1:=by kernel_rfl
theorem bytesOfByte:Try.prog.bytesOf 5=1:=by kernel_rfl
set_option maxRecDepth 20000 in
theorem open_bytes {H:Type} {enc:TypeId × Value→H} {W:World} {base:Nat} {v:Value} {d:DataW H} {ps:List MemPlace} (hval:Value.okWide Try.prog W .any base 22 v) (h:DataW.Trod enc Try.prog W 0 (fun _=>true) true 22 v d ps) :
 ∃ n bs,BytesIn W v n bs∧(∀ j,bs j<256)∧(n=0∨∃ elems spare,d = .slice elems spare∧elems.length=n):=by
 obtain ⟨a0,len,cap,rfl⟩:=okWide_slice Try.underlying22 hval
 obtain ⟨fuel,hf⟩:=h
 have hc:Cell.ok Try.prog W .any base 22 (.slice a0 len cap):=by
  unfold Value.okWide Cell.okWide at hval
  simp only [Try.underlying22] at hval
  exact hval
 rcases open_ints Try.underlying22 Try.underlying5 cellsOfByte hf with ⟨hcs,hx⟩ | ⟨a,len',cap',zs,hcs,_,hl,hm,hz,hx,hcell,hwz⟩
 · simp [Value.cells] at hcs
   obtain ⟨rfl,rfl,rfl⟩:=hcs
   exact ⟨0,fun _=>0,.inl ⟨none,rfl,rfl⟩,fun _=>Nat.zero_lt_succ _,.inl rfl⟩
 · simp [Value.cells] at hcs
   obtain ⟨rfl,rfl,rfl⟩:=hcs
   simp only [Prod.mk.injEq] at hx
   obtain ⟨rfl,rfl⟩:=hx
   simp only [if_true] at hz
   unfold Cell.ok at hc
   simp only [Try.underlying22] at hc
   obtain ⟨_,_,_,hs,row,cells,hsh,_⟩:=hc
   obtain ⟨b,off,spot⟩:=a
   subst hs
   have hbl:b<W.heap.size:=by
    rcases Nat.lt_or_ge b W.heap.size with h | h
    · exact h
    · unfold World.shape? at hsh
      rw [Array.getElem?_eq_none h] at hsh
      cases hsh
   have hn:∀ j,0≤zs.getD j 0∧zs.getD j 0<256:=fun j=>by
    rw [List.getD_eq_getElem?_getD]
    cases h:zs[j]? with
    | none=>simp
    | some x =>
     have:=hwz x (List.mem_of_getElem? h)
     have h0:(0:Int)≤x∧x≤255:=by simpa [Lit.wf,IntKind.min,IntKind.max,IntKind.signed,IntKind.bits] using this
     show 0≤x∧x<256
     omega
   refine ⟨len,fun j=>(zs.getD j 0).toNat,.inr ⟨b,off,cap,rfl,hbl,hl,fun j hj => ?_⟩,fun j => ?_,.inr ⟨_,_,rfl,?_⟩⟩
   · have h:=hcell j (by omega)
     rw [Addr.add_mid] at h
     rw [h,Int.toNat_of_nonneg (hn j).1]
   · have:=hn j
     show (zs.getD j 0).toNat<256
     omega
   · simp [lits];omega
theorem bytes_reach {H:Type} {ts:List TypeId} {ds:List (DataW H)} (hR:(DataW.weightsEach Try.prog ts ds).all (·≤reachBytes)=true) {j n:Nat} {d:DataW H} (ht:ts[j]? = some 22) (hd:ds[j]? = some d) (h:n=0∨∃ elems spare,d = .slice elems spare∧elems.length=n):n<140737488355000:=by
 rcases h with h | ⟨elems,spare,rfl,rfl⟩
 · omega
 · have:=sized_slice hR ht hd Try.underlying22
   rw [bytesOfByte] at this
   unfold reachBytes at this
   omega
end Go.Proofs.Ytgdcmibdjiaofaa
namespace Go.Proofs.Ytgdcmibdjiaofaa
open Go.ChangeShapes Go.WideShapes Go.ChangeAt Go.RowKit
theorem plainC {w:World} {b o:Nat} {sp:Option Nat} {v:Value} (h:w.cell? ((⟨b,o,sp⟩:Addr).add 0)=some v):sp=none:=by
 cases sp with
 | none=>rfl
 | some k =>
  exfalso
  unfold World.cell? Addr.add at h
  simp at h
  split at h <;> simp at h
section
variable {H:Type} {enc:TypeId × Value→H} {W:World} {fuel:Nat} {x:DataW H × List MemPlace}
theorem bytesC {v:Value} (h:DataW.trod enc Try.prog W 0 (fun _=>true) true fuel 22 [v]=some x):∃ t:Tx,BytesIn W v t.n t.b∧(∀ j,t.b j<256)∧(t.n=0∨∃ elems spare,x.1 = .slice elems spare∧elems.length=t.n):=by
 rcases open_ints Try.underlying22 Try.underlying5 cellsOfByte h with ⟨hcs,hx⟩ | ⟨a,len,cap,zs,hcs,_,hl,hm,hz,hx,hcell,hwz⟩
 · obtain rfl:v = .slice none 0 0:=by simpa using hcs
   exact ⟨tx0,.inl ⟨none,rfl,rfl⟩,fun _=>Nat.zero_lt_succ _,.inl rfl⟩
 · obtain rfl:v = .slice (some a) len cap:=by simpa using hcs
   simp only [if_true] at hz
   have hn:∀ j,0≤zs.getD j 0∧zs.getD j 0<256:=fun j=>by
    rw [List.getD_eq_getElem?_getD]
    cases h:zs[j]? with
    | none=>simp
    | some x =>
     have:=hwz x (List.mem_of_getElem? h)
     have h0:(0:Int)≤x∧x≤255:=by simpa [Lit.wf,IntKind.min,IntKind.max,IntKind.signed,IntKind.bits] using this
     show 0≤x∧x<256
     omega
   refine ⟨⟨len,fun j=>(zs.getD j 0).toNat⟩,?_,fun j=>by have:=hn j;show (zs.getD j 0).toNat<256;omega,.inr ⟨_,_,by rw [hx],?_⟩⟩
   · by_cases hC:cap=0
     · exact .inl ⟨some a,by rw [hC,show len=0 by omega],show len=0 by omega⟩
     · obtain ⟨b,o,sp⟩:=a
       have hc0:=hcell 0 (by omega)
       obtain rfl:=plainC hc0
       rw [Addr.add_mid] at hc0
       refine .inr ⟨b,o,cap,rfl,block_lt_of_cell hc0,hl,fun j hj => ?_⟩
       replace hj:j<len:=hj
       have h:=hcell j (by omega)
       rw [Addr.add_mid] at h
       rw [h]
       show _=some (Value.int .u8 (((zs.getD j 0).toNat:Nat):Int))
       rw [Int.toNat_of_nonneg (hn j).1]
   · simp [lits]
     omega
theorem cellsOfInt:Try.prog.cellsOf 3=1:=by kernel_rfl
theorem bytesOfInt:Try.prog.bytesOf 3=8:=by kernel_rfl
theorem intsC {v:Value} (h:DataW.trod enc Try.prog W 0 (fun _=>true) true fuel 42 [v]=some x):∃ l:List Int,ZIx W v l∧(l.length=0∨∃ elems spare,x.1 = .slice elems spare∧elems.length=l.length):=by
 rcases open_ints und_ints Try.underlying3 cellsOfInt h with ⟨hcs,hx⟩ | ⟨a,len,cap,zs,hcs,_,hl,hm,hz,hx,hcell,hwz⟩
 · obtain rfl:v = .slice none 0 0:=by simpa using hcs
   exact ⟨[],⟨none,0,rfl,fun _=>rfl,fun i z hz=>by simp at hz⟩,.inl rfl⟩
 · obtain rfl:v = .slice (some a) len cap:=by simpa using hcs
   simp only [if_true] at hz
   have hlen:(zs.take len).length=len:=by simp;omega
   refine ⟨zs.take len,⟨some a,cap,by rw [hlen],(fun e=>by cases e),fun i z hi => ?_⟩,.inr ⟨_,_,by rw [hx],?_⟩⟩
   · have hi':=(List.getElem?_eq_some_iff.1 hi).1
     rw [hlen] at hi'
     obtain ⟨b,o,sp⟩:=a
     obtain rfl:=plainC (hcell 0 (by omega))
     have hc:=hcell i (by omega)
     rw [Addr.add_mid] at hc
     rw [List.getElem?_take_of_lt hi'] at hi
     rw [List.getD_eq_getElem?_getD,hi] at hc
     exact ⟨b,o,rfl,block_lt_of_cell hc,hc⟩
   · simp [lits]
end
theorem under_leaf:∃ f0 f1 f2 f3 f4 f5:Field,Try.prog.underlying 24=some (.struct #[f0,f1,f2,f3,f4,f5])∧(f0.type=22∧f1.type=22∧f2.type=22∧f3.type=3∧f4.type=22∧f5.type=22)∧(f0.offset=0∧f1.offset=1∧f2.offset=2∧f3.offset=3∧f4.offset=4∧f5.offset=5):=⟨_,_,_,_,_,_,Try.underlying24,⟨rfl,rfl,rfl,rfl,rfl,rfl⟩,⟨rfl,rfl,rfl,rfl,rfl,rfl⟩⟩
theorem under_parent:∃ f0 f1 f2:Field,Try.prog.underlying 44=some (.struct #[f0,f1,f2])∧(f0.type=22∧f1.type=22∧f2.type=42)∧(f0.offset=0∧f1.offset=1∧f2.offset=2):=⟨_,_,_,Try.underlying44,⟨rfl,rfl,rfl⟩,⟨rfl,rfl,rfl⟩⟩
theorem under_package:∃ f0 f1 f2:Field,Try.prog.underlying 56=some (.struct #[f0,f1,f2])∧(f0.type=22∧f1.type=24∧f2.type=22)∧(f0.offset=0∧f1.offset=1∧f2.offset=7):=⟨_,_,_,Try.underlying56,⟨rfl,rfl,rfl⟩,⟨rfl,rfl,rfl⟩⟩
theorem cellsOfBytes:Try.prog.cellsOf 22=1:=by kernel_rfl
theorem cellsOfInts:Try.prog.cellsOf 42=1:=by kernel_rfl
theorem cellsOfLeaf:Try.prog.cellsOf 24=6:=by kernel_rfl
theorem cellsOfParent:Try.prog.cellsOf 44=3:=by kernel_rfl
theorem cellsOfPackage:Try.prog.cellsOf 56=8:=by kernel_rfl
section
variable {H:Type} {enc:TypeId × Value→H} {W:World} {fuel:Nat} {x:DataW H × List MemPlace}
set_option maxRecDepth 20000 in
theorem leafC {cs:List Value} (h:DataW.trod enc Try.prog W 0 (fun _=>true) true fuel 24 cs=some x) (hR:(DataW.weightsEach Try.prog [24] [x.1]).all (·≤reachBytes)=true):∃ d,LfIn W cs d∧lfK d∧lfL d:=by
 obtain ⟨f0,f1,f2,f3,f4,f5,hu,⟨t0,t1,t2,t3,t4,t5⟩,o0,o1,o2,o3,o4,o5⟩:=under_leaf
 obtain ⟨xs,n,_,rfl,hl,hlen,hf⟩:=DataW.trod_struct hu h
 rw [cellsOfLeaf] at hl
 match xs,hlen,cs,hl with
 | [y0,y1,y2,y3,y4,y5],_,[v0,v1,v2,v3,v4,v5],_ =>
  have g0:=hf 0 f0 rfl
  have g1:=hf 1 f1 rfl
  have g2:=hf 2 f2 rfl
  have g3:=hf 3 f3 rfl
  have g4:=hf 4 f4 rfl
  have g5:=hf 5 f5 rfl
  rw [t0,o0,cellsOfBytes] at g0
  rw [t1,o1,cellsOfBytes] at g1
  rw [t2,o2,cellsOfBytes] at g2
  rw [t3,o3,cellsOfInt] at g3
  rw [t4,o4,cellsOfBytes] at g4
  rw [t5,o5,cellsOfBytes] at g5
  obtain ⟨a0,i0,l0,d0⟩:=bytesC (x:=y0) g0
  obtain ⟨a1,i1,l1,d1⟩:=bytesC (x:=y1) g1
  obtain ⟨a2,i2,l2,d2⟩:=bytesC (x:=y2) g2
  obtain ⟨a4,i4,l4,d4⟩:=bytesC (x:=y4) g4
  obtain ⟨a5,i5,l5,d5⟩:=bytesC (x:=y5) g5
  obtain ⟨z,rfl⟩:∃ z,v3 = .int .i64 z:=by
   obtain ⟨z,hz,-⟩:=DataW.trod_int Try.underlying3 (show DataW.trod enc Try.prog W 0 (fun _=>true) true n 3 [v3]=some y3 from g3)
   exact ⟨z,by simpa using hz⟩
  have hR':(DataW.weightsEach Try.prog [22,22,22,3,22,22] [y0.1,y1.1,y2.1,y3.1,y4.1,y5.1]).all (·≤reachBytes)=true:=by
   refine List.all_eq_true.2 fun x hx=>List.all_eq_true.1 hR x (DataW.weights_mem_each (j:=0) rfl rfl x ?_)
   simp only [List.map_cons,List.map_nil,DataW.weights,hu,t0,t1,t2,t3,t4,t5]
   exact hx
  exact ⟨⟨a0,a1,a2,z,a4,a5⟩,⟨v0,v1,v2,v4,v5,rfl,i0,i1,i2,i4,i5⟩,⟨l0,l1,l2,l4,l5⟩,⟨bytes_reach hR' (j:=0) rfl rfl d0,bytes_reach hR' (j:=1) rfl rfl d1,bytes_reach hR' (j:=2) rfl rfl d2,bytes_reach hR' (j:=4) rfl rfl d4,bytes_reach hR' (j:=5) rfl rfl d5⟩⟩
set_option maxRecDepth 20000 in
theorem open_leaf {base:Nat} {v:Value} {d:DataW H} {ps:List MemPlace} {ts:List TypeId} {ds:List (DataW H)} (hval:Value.okWide Try.prog W .any base 24 v) (h:DataW.Trod enc Try.prog W 0 (fun _=>true) true 24 v d ps)
 (hR:(DataW.weightsEach Try.prog ts ds).all (·≤reachBytes)=true) {j:Nat} (ht:ts[j]? = some 24) (hd:ds[j]? = some d):∃ cs e,v = .agg cs.toArray∧LfIn W cs e∧lfK e∧lfL e:=by
 obtain ⟨f0,f1,f2,f3,f4,f5,hu,-⟩:=under_leaf
 obtain ⟨cs,rfl,-⟩:=okWide_struct hu hval
 obtain ⟨fuel,hf⟩:=h
 have hR':(DataW.weightsEach Try.prog [24] [d]).all (·≤reachBytes)=true:=List.all_eq_true.2 fun x hx=>List.all_eq_true.1 hR x (DataW.weights_mem_each ht hd x (by simpa [DataW.weightsEach] using hx))
 obtain ⟨e,h1,h2,h3⟩:=leafC (x:=(d,ps)) (cs:=cs.toList) hf hR'
 exact ⟨cs.toList,e,by simp,h1,h2,h3⟩
set_option maxRecDepth 20000 in
theorem open_parent {base:Nat} {v:Value} {d:DataW H} {ps:List MemPlace} {ts:List TypeId} {ds:List (DataW H)} (hval:Value.okWide Try.prog W .any base 44 v) (h:DataW.Trod enc Try.prog W 0 (fun _=>true) true 44 v d ps)
 (hR:(DataW.weightsEach Try.prog ts ds).all (·≤reachBytes)=true) {j:Nat} (ht:ts[j]? = some 44) (hd:ds[j]? = some d):∃ cs e,v = .agg cs.toArray∧PrIx W cs e∧prK e∧prL e:=by
 obtain ⟨f0,f1,f2,hu,⟨t0,t1,t2⟩,o0,o1,o2⟩:=under_parent
 obtain ⟨cs,rfl,hsz⟩:=okWide_struct hu hval
 rw [cellsOfParent] at hsz
 obtain ⟨fuel,hf⟩:=h
 obtain ⟨xs,n,_,hx,hl,hlen,hg⟩:=DataW.trod_struct hu hf
 obtain ⟨l⟩:=cs
 match xs,hlen,l,hsz with
 | [y0,y1,y2],_,[v0,v1,v2],_ =>
  have g0:=hg 0 f0 rfl
  have g1:=hg 1 f1 rfl
  have g2:=hg 2 f2 rfl
  rw [t0,o0,cellsOfBytes] at g0
  rw [t1,o1,cellsOfBytes] at g1
  rw [t2,o2,cellsOfInts] at g2
  obtain ⟨a0,i0,l0,d0⟩:=bytesC (x:=y0) g0
  obtain ⟨a1,i1,l1,d1⟩:=bytesC (x:=y1) g1
  obtain ⟨a2,i2,d2⟩:=intsC (x:=y2) g2
  simp only [List.map_cons,List.map_nil,Prod.mk.injEq] at hx
  obtain ⟨rfl,-⟩:=hx
  have hR':(DataW.weightsEach Try.prog [22,22,42] [y0.1,y1.1,y2.1]).all (·≤reachBytes)=true:=by
   refine List.all_eq_true.2 fun x hx=>List.all_eq_true.1 hR x (DataW.weights_mem_each ht hd x ?_)
   simp only [DataW.weights,hu,t0,t1,t2,List.map_cons,List.map_nil]
   exact hx
  refine ⟨[v0,v1,v2],⟨a0,a1,a2⟩,rfl,⟨v0,v1,v2,rfl,i0,i1,i2⟩,⟨l0,l1⟩,⟨bytes_reach hR' (j:=0) rfl rfl d0,bytes_reach hR' (j:=1) rfl rfl d1,?_⟩⟩
  rcases d2 with d2 | ⟨elems,spare,e2,l2⟩
  · show a2.length*8≤_
    omega
  · have:=sized_slice hR' (j:=2) rfl (by rw [←e2];rfl) und_ints
    rw [bytesOfInt] at this
    unfold reachBytes at this
    show a2.length*8≤_
    rw [←l2]
    omega
set_option maxRecDepth 20000 in
theorem open_package {base:Nat} {v:Value} {d:DataW H} {ps:List MemPlace} {ts:List TypeId} {ds:List (DataW H)} (hval:Value.okWide Try.prog W .any base 56 v) (h:DataW.Trod enc Try.prog W 0 (fun _=>true) true 56 v d ps)
 (hR:(DataW.weightsEach Try.prog ts ds).all (·≤reachBytes)=true) {j:Nat} (ht:ts[j]? = some 56) (hd:ds[j]? = some d):∃ cs e,v = .agg cs.toArray∧PkIn W cs e∧pkK e∧pkL e:=by
 obtain ⟨f0,f1,f2,hu,⟨t0,t1,t2⟩,o0,o1,o2⟩:=under_package
 obtain ⟨cs,rfl,hsz⟩:=okWide_struct hu hval
 rw [cellsOfPackage] at hsz
 obtain ⟨fuel,hf⟩:=h
 obtain ⟨xs,n,_,hx,hl,hlen,hg⟩:=DataW.trod_struct hu hf
 obtain ⟨l⟩:=cs
 match xs,hlen,l,hsz with
 | [y0,y1,y2],_,[v0,v1,v2,v3,v4,v5,v6,v7],_ =>
  have g0:=hg 0 f0 rfl
  have g1:=hg 1 f1 rfl
  have g2:=hg 2 f2 rfl
  rw [t0,o0,cellsOfBytes] at g0
  rw [t1,o1,cellsOfLeaf] at g1
  rw [t2,o2,cellsOfBytes] at g2
  simp only [List.map_cons,List.map_nil,Prod.mk.injEq] at hx
  obtain ⟨rfl,-⟩:=hx
  have hR':(DataW.weightsEach Try.prog [22,24,22] [y0.1,y1.1,y2.1]).all (·≤reachBytes)=true:=by
   refine List.all_eq_true.2 fun x hx=>List.all_eq_true.1 hR x (DataW.weights_mem_each ht hd x ?_)
   simp only [DataW.weights,hu,t0,t1,t2,List.map_cons,List.map_nil]
   exact hx
  obtain ⟨a0,i0,l0,d0⟩:=bytesC (x:=y0) g0
  obtain ⟨a1,i1,k1,l1⟩:=leafC (x:=y1) (cs:=[v1,v2,v3,v4,v5,v6]) g1 (List.all_eq_true.2 fun x hx=>List.all_eq_true.1 hR' x (DataW.weights_mem_each (j:=1) rfl rfl x (by simpa [DataW.weightsEach] using hx)))
  obtain ⟨a2,i2,l2,d2⟩:=bytesC (x:=y2) g2
  exact ⟨[v0,v1,v2,v3,v4,v5,v6,v7],⟨a0,a1,a2⟩,rfl,⟨v0,[v1,v2,v3,v4,v5,v6],v7,rfl,i0,i1,i2⟩,⟨l0,k1,l2⟩,⟨bytes_reach hR' (j:=0) rfl rfl d0,l1,bytes_reach hR' (j:=2) rfl rfl d2⟩⟩
end
end Go.Proofs.Ytgdcmibdjiaofaa
