/- What the proof stands on: D1CI, D1CJ, Grw, D1CE, D1KN, D1BR, Kit, D1Op2, D1LW, D1Bl, D1OL, D1VS, D1LA, D1LR. -/
import Derived.Test.YtibgjjbnehhanaaBaseM
import Derived.Test.YtibgjjbnehhanaaD1RMM
import Derived.ChangeOld
import Derived.ChangeSlices
import Derived.Deep.DeepHandedRow
import Derived.Deep.Slices
import Derived.Lib.LaidTab
import Derived.Lib.SlBytesConst
import Derived.OpenShut
import Derived.ProofKit
import Derived.SizedLaws
import Derived.WalkKit
namespace Go.Proofs.Ytibgjjbnehhanaa
open Go.RowKit
theorem RdC.size {lo hi:Nat} {w:World} {g L:Nat} {B:Nat→Nat} {r:Rd} (h:RdC lo hi w g L B r):hi≤w.heap.size:=h.choose_spec.2.2.2.2
def lenA (L:Nat) (B:Nat→Nat) (a:Nat):Nat × Rd:=lenD (L - a) (fun j=>B (a+j)) ⟨0,0⟩
theorem lenA_eq {L:Nat} {B:Nat→Nat} {r:Rd} (ha:r.at_≤L) (he:r.e=0):lenD L B r=((lenA L B r.at_).1,⟨r.at_+(lenA L B r.at_).2.at_,(lenA L B r.at_).2.e⟩):=by
 have:=lenD_shift L B r.at_ ha
 rw [show (⟨r.at_,0⟩:Rd)=r by rw [←he]] at this
 exact this
theorem lenA_le (L:Nat) (B:Nat→Nat) (a:Nat):(lenA L B a).2.at_≤L - a∧((lenA L B a).2.e≠0→(lenA L B a).1=0∧(lenA L B a).2.at_=0):=by
 unfold lenA lenD
 rw [if_neg (fun h=>h rfl)]
 split
 · exact ⟨Nat.zero_le _,fun _=>⟨rfl,rfl⟩⟩
 · split
   · exact ⟨Nat.zero_le _,fun _=>⟨rfl,rfl⟩⟩
   · split
     · exact ⟨Nat.zero_le _,fun _=>⟨rfl,rfl⟩⟩
     · split
       · exact ⟨Nat.zero_le _,fun _=>⟨rfl,rfl⟩⟩
       · rename_i h _
         refine ⟨?_,fun e=>absurd rfl e⟩
         show 0+_≤_
         rw [Nat.sub_zero] at h
         omega
set_option maxRecDepth 20000 in
set_option maxHeartbeats 2000000 in
theorem cLenR_err (lo hi g L:Nat) (B:Nat→Nat) (r:Rd) (he:r.e≠0) (w:World) (h:RdC lo hi w g L B r):Calls Try.prog 26 #[.pointer (some ⟨g,0,none⟩)] w fun e w'=>e = .returned (.int .i64 0)∧w'=w:=by
 have c:=cReads_any lo hi g L B r w h
 rw [decide_eq_false he] at c
 clear h
 go_enter Try.func26,Try.ntmps26
 go_wp2
 refine wp_scope_fwd 0 rfl ?_
 go_wp2_with (go_at_call 49;refine c.mono ?_;clear c;rintro e w1 ⟨rfl,hw⟩;obtain rfl:=hw.symm)
 rw [jump_ret]
 go_ret
 exact ⟨rfl,rfl⟩
set_option maxRecDepth 20000 in
set_option maxHeartbeats 2000000 in
theorem cVecR_err (lo hi g L:Nat) (B:Nat→Nat) (r:Rd) (he:r.e≠0) (w:World) (h:RdC lo hi w g L B r):Calls Try.prog 28 #[.pointer (some ⟨g,0,none⟩)] w fun e w'=>e = .returned (.slice none 0 0)∧w'=w:=by
 have c:=cReads_any lo hi g L B r w h
 rw [decide_eq_false he] at c
 clear h
 go_enter Try.func28,Try.ntmps28
 go_wp2
 refine wp_scope_fwd 0 rfl ?_
 go_wp2_with (go_at_call 49;refine c.mono ?_;clear c;rintro e w1 ⟨rfl,hw⟩;obtain rfl:=hw.symm)
 rw [jump_ret]
 go_ret
 exact ⟨rfl,rfl⟩
set_option maxRecDepth 20000 in
set_option maxHeartbeats 2000000 in
theorem cTakR_err (lo hi g L:Nat) (B:Nat→Nat) (r:Rd) (n:Int) (he:r.e≠0) (w:World) (h:RdC lo hi w g L B r):Calls Try.prog 30 #[.pointer (some ⟨g,0,none⟩),.int .i64 n] w fun e w'=>e = .returned (.slice none 0 0)∧w'=w:=by
 have c:=cReads_any lo hi g L B r w h
 rw [decide_eq_false he] at c
 clear h
 go_enter Try.func30,Try.ntmps30
 go_wp2
 refine wp_scope_fwd 0 rfl ?_
 go_wp2_with (go_at_call 49;refine c.mono ?_;clear c;rintro e w1 ⟨rfl,hw⟩;obtain rfl:=hw.symm)
 rw [jump_ret]
 go_ret
 exact ⟨rfl,rfl⟩
set_option maxRecDepth 20000 in
set_option maxHeartbeats 2000000 in
theorem cLenR_bad (lo hi g L:Nat) (B:Nat→Nat) (lB:∀ j,B j<256) (r:Rd) (he:r.e=0) (hb:(lenA L B r.at_).2.e≠0) (w:World) (h:RdC lo hi w g L B r):Calls Try.prog 26 #[.pointer (some ⟨g,0,none⟩)] w fun e w'=>e = .returned (.int .i64 0)∧RdC lo hi w' g L B ⟨r.at_,(lenA L B r.at_).2.e⟩∧Out g 0 2 w w':=by
 have c:=cReads_any lo hi g L B r w h
 rw [decide_eq_true he] at c
 obtain ⟨v,⟨c0,-⟩,⟨c1,z1⟩,-,hv⟩:=h.cells
 have cl:=cLenAt_any _ _ _ (fun j=>lB (r.at_+j)) w (hv.of h.size)
 obtain ⟨xo,cx,-,-,-,-,rfl,-,-,-,-,-⟩:=hv.cut 0 (Nat.zero_le _)
 have Hh:=Hid.mk' h
 have ha:=h.le
 rw [he] at c1
 replace cl:Calls Try.prog 53 #[.slice xo (L - r.at_) cx] w fun e w'=>e=ansL (lenA L B r.at_)∧w'=w:=cl
 rw [show ansL (lenA L B r.at_) = .returned (.tuple #[.int .i64 0,.int .i64 0,.int .i64 (lenA L B r.at_).2.e]) by unfold ansL;rw [((lenA_le L B r.at_).2 hb).1,((lenA_le L B r.at_).2 hb).2];rfl] at cl
 generalize (lenA L B r.at_).2.e=er at *
 generalize L - r.at_=p at *
 clear h hv ha
 go_enter Try.func26,Try.ntmps26
 go_wp2
 refine wp_scope_fwd 0 rfl ?_
 go_wp2_with (first
  | (go_at_call 49;refine c.mono ?_;clear c;rintro e w1 ⟨rfl,hw⟩;obtain rfl:=hw.symm)
  | (go_at_call 53;refine cl.mono ?_;clear cl;rintro e w1 ⟨rfl,hw⟩;obtain rfl:=hw.symm))
 go_step3
 refine ⟨rfl,?_⟩
 go_wp2
 rw [Exit.noGoto_ret]
 go_ret
 exact ⟨rfl,Hh.out.setE er,Out.setCell _ _ (by decide) (by decide)⟩
set_option maxRecDepth 20000 in
set_option maxHeartbeats 2000000 in
theorem cVecR_bad (lo hi g L:Nat) (B:Nat→Nat) (lB:∀ j,B j<256) (r:Rd) (he:r.e=0) (hb:(lenA L B r.at_).2.e≠0) (w:World) (h:RdC lo hi w g L B r):Calls Try.prog 28 #[.pointer (some ⟨g,0,none⟩)] w fun e w'=>e = .returned (.slice none 0 0)∧RdC lo hi w' g L B ⟨r.at_,(lenA L B r.at_).2.e⟩∧Out g 0 2 w w':=by
 have c:=cReads_any lo hi g L B r w h
 rw [decide_eq_true he] at c
 obtain ⟨v,⟨c0,-⟩,⟨c1,z1⟩,-,hv⟩:=h.cells
 have cl:=cLenAt_any _ _ _ (fun j=>lB (r.at_+j)) w (hv.of h.size)
 obtain ⟨xo,cx,-,-,-,-,rfl,-,-,-,-,-⟩:=hv.cut 0 (Nat.zero_le _)
 have Hh:=Hid.mk' h
 have ha:=h.le
 rw [he] at c1
 replace cl:Calls Try.prog 53 #[.slice xo (L - r.at_) cx] w fun e w'=>e=ansL (lenA L B r.at_)∧w'=w:=cl
 rw [show ansL (lenA L B r.at_) = .returned (.tuple #[.int .i64 0,.int .i64 0,.int .i64 (lenA L B r.at_).2.e]) by unfold ansL;rw [((lenA_le L B r.at_).2 hb).1,((lenA_le L B r.at_).2 hb).2];rfl] at cl
 generalize (lenA L B r.at_).2.e=er at *
 generalize L - r.at_=p at *
 clear h hv ha
 go_enter Try.func28,Try.ntmps28
 go_wp2
 refine wp_scope_fwd 0 rfl ?_
 go_wp2_with (first
  | (go_at_call 49;refine c.mono ?_;clear c;rintro e w1 ⟨rfl,hw⟩;obtain rfl:=hw.symm)
  | (go_at_call 53;refine cl.mono ?_;clear cl;rintro e w1 ⟨rfl,hw⟩;obtain rfl:=hw.symm))
 go_step3
 refine ⟨rfl,?_⟩
 go_wp2
 rw [Exit.noGoto_ret]
 go_ret
 exact ⟨rfl,Hh.out.setE er,Out.setCell _ _ (by decide) (by decide)⟩
set_option maxRecDepth 20000 in
set_option maxHeartbeats 2000000 in
theorem cLenR_good (lo hi g L:Nat) (B:Nat→Nat) (lB:∀ j,B j<256) (r:Rd) (he:r.e=0) (hb:(lenA L B r.at_).2.e=0) (w:World) (h:RdC lo hi w g L B r):Calls Try.prog 26 #[.pointer (some ⟨g,0,none⟩)] w fun e w'=>e = .returned (.int .i64 (((lenA L B r.at_).1:Nat):Int))∧RdC lo hi w' g L B ⟨r.at_+(lenA L B r.at_).2.at_,0⟩∧Out g 0 2 w w':=by
 have c:=cReads_any lo hi g L B r w h
 rw [decide_eq_true he] at c
 obtain ⟨v,⟨c0,-⟩,⟨c1,z1⟩,-,hv⟩:=h.cells
 have cl:=cLenAt_any _ _ _ (fun j=>lB (r.at_+j)) w (hv.of h.size)
 obtain ⟨xo,cx,-,-,-,-,rfl,-,-,-,-,-⟩:=hv.cut 0 (Nat.zero_le _)
 have Hh:=Hid.mk' h
 have ha:=h.le
 have hle:=(lenA_le L B r.at_).1
 replace cl:Calls Try.prog 53 #[.slice xo (L - r.at_) cx] w fun e w'=>e=ansL (lenA L B r.at_)∧w'=w:=cl
 unfold ansL at cl
 rw [hb] at cl
 generalize (lenA L B r.at_).2.at_=sz at *
 generalize (lenA L B r.at_).1=n at *
 have cp:=cPass_any lo hi g L B r sz (by omega) w h
 rw [he] at cp
 clear hle
 generalize L - r.at_=p at *
 clear h hv ha c1 z1 hb Hh
 go_enter Try.func26,Try.ntmps26
 go_wp2
 refine wp_scope_fwd 0 rfl ?_
 go_wp2_with (first
  | (go_at_call 49;refine c.mono ?_;clear c;rintro e w1 ⟨rfl,hw⟩;obtain rfl:=hw.symm)
  | (go_at_call 53;refine cl.mono ?_;clear cl;rintro e w1 ⟨rfl,hw⟩;obtain rfl:=hw.symm)
  | (go_at_call 51;refine cp.mono ?_;clear cp;rintro e w2 ⟨v2,rfl,hv2,hr2,o2⟩))
 rw [jump_ret]
 go_ret
 exact ⟨rfl,hr2,o2⟩
theorem cLenR_any (lo hi g L:Nat) (B:Nat→Nat) (lB:∀ j,B j<256) (r:Rd) (w:World) (h:RdC lo hi w g L B r):Calls Try.prog 26 #[.pointer (some ⟨g,0,none⟩)] w fun e w'=>e = .returned (.int .i64 (((lenD L B r).1:Nat):Int))∧RdC lo hi w' g L B (lenD L B r).2∧Out g 0 2 w w':=by
 by_cases he:r.e≠0
 · have e0:lenD L B r=(0,r):=by unfold lenD;rw [if_pos he]
   rw [e0]
   exact (cLenR_err lo hi g L B r he w h).mono fun e w' ⟨h1,h2⟩=>⟨h1,by rw [h2];exact h,by rw [h2];exact Out.refl _ _ _ _⟩
 replace he:r.e=0:=Decidable.not_not.mp he
 rw [lenA_eq h.le he]
 by_cases hb:(lenA L B r.at_).2.e=0
 · show Calls _ _ _ _ fun e w'=>e=_∧RdC lo hi w' g L B ⟨_,(lenA L B r.at_).2.e⟩∧_
   rw [hb]
   exact cLenR_good lo hi g L B lB r he hb w h
 · have:=(lenA_le L B r.at_).2 hb
   rw [this.1,this.2]
   exact cLenR_bad lo hi g L B lB r he hb w h
end Go.Proofs.Ytibgjjbnehhanaa
namespace Go.Proofs.Ytibgjjbnehhanaa
open Go.RowKit
set_option maxRecDepth 20000 in
set_option maxHeartbeats 2000000 in
theorem cTakR_arg (lo hi g L:Nat) (B:Nat→Nat) (r:Rd) (n:Int) (he:r.e=0) (hn:n<0) (w:World) (h:RdC lo hi w g L B r):Calls Try.prog 30 #[.pointer (some ⟨g,0,none⟩),.int .i64 n] w fun e w'=>e = .returned (.slice none 0 0)∧RdC lo hi w' g L B ⟨r.at_,1⟩∧Out g 0 2 w w':=by
 have c:=cReads_any lo hi g L B r w h
 rw [decide_eq_true he] at c
 obtain ⟨v,-,⟨c1,z1⟩,-,-⟩:=h.cells
 have Hh:=Hid.mk' h
 clear h
 rw [he] at c1
 go_enter Try.func30,Try.ntmps30
 go_wp2
 refine wp_scope_fwd 0 rfl ?_
 go_wp2_with (go_at_call 49;refine c.mono ?_;clear c;rintro e w1 ⟨rfl,hw⟩;obtain rfl:=hw.symm)
 go_step3
 refine ⟨rfl,?_⟩
 go_wp2
 rw [Exit.noGoto_ret]
 go_ret
 exact ⟨rfl,Hh.out.setE 1,Out.setCell _ _ (by decide) (by decide)⟩
set_option maxRecDepth 20000 in
set_option maxHeartbeats 2000000 in
theorem cTakR_end (lo hi g L:Nat) (B:Nat→Nat) (r:Rd) (n:Int) (he:r.e=0) (hn:¬n<0) (hq:(L:Int) - (r.at_:Int)<n) (w:World) (h:RdC lo hi w g L B r):Calls Try.prog 30 #[.pointer (some ⟨g,0,none⟩),.int .i64 n] w fun e w'=>e = .returned (.slice none 0 0)∧RdC lo hi w' g L B ⟨r.at_,20⟩∧Out g 0 2 w w':=by
 have c:=cReads_any lo hi g L B r w h
 rw [decide_eq_true he] at c
 obtain ⟨v,⟨c0,-⟩,⟨c1,z1⟩,-,hv⟩:=h.cells
 obtain ⟨xo,cx,-,-,-,-,rfl,-,-,-,-,-⟩:=hv.cut 0 (Nat.zero_le _)
 have Hh:=Hid.mk' h
 have ha:=h.le
 obtain ⟨p,hp⟩:∃ p,p=L - r.at_:=⟨_,rfl⟩
 rw [←hp] at c0
 have t1:(p:Int)<n:=by omega
 clear h hv hp hq ha
 rw [he] at c1
 go_enter Try.func30,Try.ntmps30
 go_wp2
 refine wp_scope_fwd 0 rfl ?_
 go_wp2_with (go_at_call 49;refine c.mono ?_;clear c;rintro e w1 ⟨rfl,hw⟩;obtain rfl:=hw.symm)
 go_step3
 refine ⟨rfl,?_⟩
 go_wp2
 rw [Exit.noGoto_ret]
 go_ret
 exact ⟨rfl,Hh.out.setE 20,Out.setCell _ _ (by decide) (by decide)⟩
set_option maxRecDepth 20000 in
set_option maxHeartbeats 2000000 in
theorem cTakR_good (lo hi g L:Nat) (B:Nat→Nat) (r:Rd) (n:Nat) (hL:L<140737488355000) (he:r.e=0) (hq:r.at_+n≤L) (w:World) (h:RdC lo hi w g L B r):Calls Try.prog 30 #[.pointer (some ⟨g,0,none⟩),.int .i64 (n:Int)] w fun e w'=>∃ v,e = .returned v∧Own w.heap.size w' v n (fun j=>B (r.at_+j))∧RdC lo hi w' g L B ⟨r.at_+n,0⟩∧Out g 0 2 w w':=by
 have c:=cReads_any lo hi g L B r w h
 rw [decide_eq_true he] at c
 have cp:=cPass_any lo hi g L B r n hq w h
 rw [he] at cp
 obtain ⟨v,⟨c0,-⟩,-,-,hv⟩:=h.cells
 obtain ⟨xo,cx,-,-,-,-,rfl,-,-,-,-,-⟩:=hv.cut 0 (Nat.zero_le _)
 have ha:=h.le
 have gl:=h.lt
 obtain ⟨p,hp⟩:∃ p,p=L - r.at_:=⟨_,rfl⟩
 rw [←hp] at c0
 have t0:¬(n:Int)<0:=by omega
 have t1:¬(p:Int)<(n:Int):=by omega
 have hn:n<140737488355000:=by omega
 clear h hv hp hq ha
 go_enter Try.func30,Try.ntmps30
 go_wp2
 refine wp_scope_fwd 0 rfl ?_
 go_wp2_with (first
  | (go_at_call 49;refine c.mono ?_;clear c;rintro e w1 ⟨rfl,hw⟩;obtain rfl:=hw.symm)
  | (go_at_call 51;refine cp.mono ?_;clear cp;rintro e w2 ⟨v2,rfl,hv2,hr2,o2⟩;(have cc:=cClone_any v2 n _ hn w2 (hv2.of hr2.size)))
  | (go_at_call 48;refine cc.mono ?_;clear cc;rintro e w3 ⟨u3,rfl,own3,b3⟩))
 rw [jump_ret]
 go_ret
 exact ⟨_,rfl,World.ownsRow.mono own3 o2.size,hr2.still b3,o2.trans (Out.of_below b3 (Nat.lt_of_lt_of_le gl o2.size))⟩
theorem cTakR_any (lo hi g L:Nat) (B:Nat→Nat) (r:Rd) (n:Int) (hL:L<140737488355000) (w:World) (h:RdC lo hi w g L B r):Calls Try.prog 30 #[.pointer (some ⟨g,0,none⟩),.int .i64 n] w fun e w'=>∃ v,e = .returned v∧Own w.heap.size w' v (takD L n r).1 (fun j=>B (r.at_+j))∧RdC lo hi w' g L B (takD L n r).2∧Out g 0 2 w w':=by
 have ha:=h.le
 unfold takD
 by_cases he:r.e≠0
 · rw [if_pos he]
   exact (cTakR_err lo hi g L B r n he w h).mono fun e w' ⟨h1,h2⟩=>⟨_,h1,Own.nil _ _ _,by rw [h2];exact h,by rw [h2];exact Out.refl _ _ _ _⟩
 replace he:r.e=0:=Decidable.not_not.mp he
 rw [if_neg (fun e=>e he)]
 by_cases hn:n<0
 · rw [if_pos hn]
   exact (cTakR_arg lo hi g L B r n he hn w h).mono fun e w' ⟨h1,h2,h3⟩=>⟨_,h1,Own.nil _ _ _,h2,h3⟩
 rw [if_neg hn]
 by_cases h1:(L:Int) - (r.at_:Int)<n
 · rw [if_pos h1]
   exact (cTakR_end lo hi g L B r n he hn h1 w h).mono fun e w' ⟨h1,h2,h3⟩=>⟨_,h1,Own.nil _ _ _,h2,h3⟩
 rw [if_neg h1]
 obtain ⟨k,rfl⟩:∃ k:Nat,n=(k:Int):=⟨n.toNat,by omega⟩
 rw [Int.toNat_natCast]
 exact cTakR_good lo hi g L B r k hL he (by omega) w h
set_option maxRecDepth 20000 in
set_option maxHeartbeats 2000000 in
theorem cVecR_form (lo hi g L:Nat) (B:Nat→Nat) (lB:∀ j,B j<256) (r:Rd) (_hL:L<140737488355000) (he:r.e=0) (hb:(lenA L B r.at_).2.e=0) (hn:65536<(lenA L B r.at_).1) (w:World) (h:RdC lo hi w g L B r):Calls Try.prog 28 #[.pointer (some ⟨g,0,none⟩)] w fun e w'=>e = .returned (.slice none 0 0)∧RdC lo hi w' g L B ⟨r.at_,21⟩∧Out g 0 2 w w':=by
 have c:=cReads_any lo hi g L B r w h
 rw [decide_eq_true he] at c
 obtain ⟨v,⟨c0,-⟩,⟨c1,z1⟩,-,hv⟩:=h.cells
 have cl:=cLenAt_any _ _ _ (fun j=>lB (r.at_+j)) w (hv.of h.size)
 obtain ⟨xo,cx,-,-,-,-,rfl,-,-,-,-,-⟩:=hv.cut 0 (Nat.zero_le _)
 have Hh:=Hid.mk' h
 have ha:=h.le
 have hle:=(lenA_le L B r.at_).1
 replace cl:Calls Try.prog 53 #[.slice xo (L - r.at_) cx] w fun e w'=>e=ansL (lenA L B r.at_)∧w'=w:=cl
 unfold ansL at cl
 rw [hb] at cl
 generalize (lenA L B r.at_).2.at_=sz at *
 generalize (lenA L B r.at_).1=n at *
 rw [he] at c1
 obtain ⟨z,hz⟩:∃ z:Int,z=(n:Int):=⟨_,rfl⟩
 rw [←hz] at cl
 have t1:(65536:Int)<z:=by omega
 clear hle hn hz
 generalize L - r.at_=p at *
 clear h hv ha hb
 go_enter Try.func28,Try.ntmps28
 go_wp2
 refine wp_scope_fwd 0 rfl ?_
 go_wp2_with (first
  | (go_at_call 49;refine c.mono ?_;clear c;rintro e w1 ⟨rfl,hw⟩;obtain rfl:=hw.symm)
  | (go_at_call 53;refine cl.mono ?_;clear cl;rintro e w1 ⟨rfl,hw⟩;obtain rfl:=hw.symm))
 go_step3
 refine ⟨rfl,?_⟩
 go_wp2
 rw [Exit.noGoto_ret]
 go_ret
 exact ⟨rfl,Hh.out.setE 21,Out.setCell _ _ (by decide) (by decide)⟩
set_option maxRecDepth 20000 in
set_option maxHeartbeats 2000000 in
theorem cVecR_end (lo hi g L:Nat) (B:Nat→Nat) (lB:∀ j,B j<256) (r:Rd) (_hL:L<140737488355000) (he:r.e=0) (hb:(lenA L B r.at_).2.e=0) (hn:¬65536<(lenA L B r.at_).1) (hq:L<r.at_+(lenA L B r.at_).2.at_+(lenA L B r.at_).1) (w:World) (h:RdC lo hi w g L B r):Calls Try.prog 28 #[.pointer (some ⟨g,0,none⟩)] w fun e w'=>e = .returned (.slice none 0 0)∧RdC lo hi w' g L B ⟨r.at_,20⟩∧Out g 0 2 w w':=by
 have c:=cReads_any lo hi g L B r w h
 rw [decide_eq_true he] at c
 obtain ⟨v,⟨c0,-⟩,⟨c1,z1⟩,-,hv⟩:=h.cells
 have cl:=cLenAt_any _ _ _ (fun j=>lB (r.at_+j)) w (hv.of h.size)
 obtain ⟨xo,cx,-,-,-,-,rfl,-,-,-,-,-⟩:=hv.cut 0 (Nat.zero_le _)
 have Hh:=Hid.mk' h
 have ha:=h.le
 have hle:=(lenA_le L B r.at_).1
 replace cl:Calls Try.prog 53 #[.slice xo (L - r.at_) cx] w fun e w'=>e=ansL (lenA L B r.at_)∧w'=w:=cl
 unfold ansL at cl
 rw [hb] at cl
 generalize (lenA L B r.at_).2.at_=sz at *
 generalize (lenA L B r.at_).1=n at *
 rw [he] at c1
 obtain ⟨z,hz⟩:∃ z:Int,z=(n:Int):=⟨_,rfl⟩
 rw [←hz] at cl
 obtain ⟨p,hp⟩:∃ p,p=L - r.at_:=⟨_,rfl⟩
 rw [←hp] at cl c0
 have t1:¬(65536:Int)<z:=by omega
 have t3:(p:Int) - (sz:Int)<z:=by omega
 have t4:wrap64 ((p:Int) - (sz:Int))<z:=by unfold wrap64;omega
 clear hle hn hz hp hq
 clear h hv ha hb
 go_enter Try.func28,Try.ntmps28
 go_wp2
 refine wp_scope_fwd 0 rfl ?_
 go_wp2_with (first
  | (go_at_call 49;refine c.mono ?_;clear c;rintro e w1 ⟨rfl,hw⟩;obtain rfl:=hw.symm)
  | (go_at_call 53;refine cl.mono ?_;clear cl;rintro e w1 ⟨rfl,hw⟩;obtain rfl:=hw.symm))
 go_step3
 refine ⟨rfl,?_⟩
 go_wp2
 rw [Exit.noGoto_ret]
 go_ret
 exact ⟨rfl,Hh.out.setE 20,Out.setCell _ _ (by decide) (by decide)⟩
set_option maxRecDepth 20000 in
set_option maxHeartbeats 2000000 in
theorem cVecR_good (lo hi g L:Nat) (B:Nat→Nat) (lB:∀ j,B j<256) (r:Rd) (hL:L<140737488355000) (he:r.e=0) (hb:(lenA L B r.at_).2.e=0) (hn:¬65536<(lenA L B r.at_).1) (hq:r.at_+(lenA L B r.at_).2.at_+(lenA L B r.at_).1≤L) (w:World) (h:RdC lo hi w g L B r):Calls Try.prog 28 #[.pointer (some ⟨g,0,none⟩)] w fun e w'=>∃ v,e = .returned v∧Own w.heap.size w' v (lenA L B r.at_).1 (fun j=>B (r.at_+(lenA L B r.at_).2.at_+j))∧RdC lo hi w' g L B ⟨r.at_+(lenA L B r.at_).2.at_+(lenA L B r.at_).1,0⟩∧Out g 0 2 w w':=by
 have c:=cReads_any lo hi g L B r w h
 rw [decide_eq_true he] at c
 obtain ⟨v,⟨c0,-⟩,⟨c1,z1⟩,-,hv⟩:=h.cells
 have cl:=cLenAt_any _ _ _ (fun j=>lB (r.at_+j)) w (hv.of h.size)
 obtain ⟨xo,cx,-,-,-,-,rfl,-,-,-,-,-⟩:=hv.cut 0 (Nat.zero_le _)
 have Hh:=Hid.mk' h
 have ha:=h.le
 have hle:=(lenA_le L B r.at_).1
 replace cl:Calls Try.prog 53 #[.slice xo (L - r.at_) cx] w fun e w'=>e=ansL (lenA L B r.at_)∧w'=w:=cl
 unfold ansL at cl
 rw [hb] at cl
 generalize (lenA L B r.at_).2.at_=sz at *
 generalize (lenA L B r.at_).1=n at *
 rw [he] at c1
 have cp:=cPass_any lo hi g L B r sz (by omega) w h
 rw [he] at cp
 have cq:=fun w2 h2=>cPass_any lo hi g L B ⟨r.at_+sz,0⟩ n hq w2 h2
 have gl:=h.lt
 have hn':n<140737488355000:=by omega
 obtain ⟨p,hp⟩:∃ p,p=L - r.at_:=⟨_,rfl⟩
 rw [←hp] at cl c0
 obtain ⟨z,hz⟩:∃ z:Int,z=(n:Int):=⟨_,rfl⟩
 rw [←hz] at cl cq
 have t1:¬(65536:Int)<z:=by omega
 have t3:¬(p:Int) - (sz:Int)<z:=by omega
 have t4:¬wrap64 ((p:Int) - (sz:Int))<z:=by unfold wrap64;omega
 clear hle hn hp hq hz
 clear h hv ha hb c1 z1 Hh
 go_enter Try.func28,Try.ntmps28
 go_wp2
 refine wp_scope_fwd 0 rfl ?_
 go_wp2_with (first
  | (go_at_call 49;refine c.mono ?_;clear c;rintro e w1 ⟨rfl,hw⟩;obtain rfl:=hw.symm)
  | (go_at_call 53;refine cl.mono ?_;clear cl;rintro e w1 ⟨rfl,hw⟩;obtain rfl:=hw.symm)
  | (go_at_call 51;refine cp.mono ?_;clear cp;rintro e w2 ⟨v2,rfl,-,hr2,o2⟩;(have cq2:=cq w2 hr2);clear cq)
  | (go_at_call 51;refine cq2.mono ?_;clear cq2;rintro e w3 ⟨v3,rfl,hv3,hr3,o3⟩;(have cc:=cClone_any v3 n _ hn' w3 (hv3.of hr3.size)))
  | (go_at_call 48;refine cc.mono ?_;clear cc;rintro e w4 ⟨u4,rfl,own4,b4⟩))
 rw [jump_ret]
 go_ret
 have o:=o2.trans o3
 exact ⟨_,rfl,World.ownsRow.mono own4 o.size,hr3.still b4,o.trans (Out.of_below b4 (Nat.lt_of_lt_of_le gl o.size))⟩
theorem cVecR_any (lo hi g L:Nat) (B:Nat→Nat) (lB:∀ j,B j<256) (r:Rd) (hL:L<140737488355000) (w:World) (h:RdC lo hi w g L B r):Calls Try.prog 28 #[.pointer (some ⟨g,0,none⟩)] w fun e w'=>∃ v,e = .returned v∧Own w.heap.size w' v (vecD L B r).1 (fun j=>B ((lenD L B r).2.at_+j))∧RdC lo hi w' g L B (vecD L B r).2∧Out g 0 2 w w':=by
 have ha:=h.le
 unfold vecD
 by_cases he:r.e≠0
 · have e0:lenD L B r=(0,r):=by unfold lenD;rw [if_pos he]
   have e1:takD L ((0:Nat):Int) r=(0,r):=by unfold takD;rw [if_pos he]
   simp only [e0,if_neg (fun (e:r.e=0∧65536<0)=>he e.1),e1,if_pos he]
   exact (cVecR_err lo hi g L B r he w h).mono fun e w' ⟨h1,h2⟩=>⟨_,h1,Own.nil _ _ _,by rw [h2];exact h,by rw [h2];exact Out.refl _ _ _ _⟩
 replace he:r.e=0:=Decidable.not_not.mp he
 rw [lenA_eq ha he]
 dsimp only
 by_cases hb:(lenA L B r.at_).2.e=0
 · by_cases hn:65536<(lenA L B r.at_).1
   · have e1:takD L (((lenA L B r.at_).1:Nat):Int) ⟨r.at_+(lenA L B r.at_).2.at_,21⟩=(0,⟨r.at_+(lenA L B r.at_).2.at_,21⟩):=by unfold takD;exact if_pos (fun e=>by cases e)
     rw [if_pos (show (lenA L B r.at_).2.e=0∧65536<(lenA L B r.at_).1 from ⟨hb,hn⟩),e1,if_pos (show (21:Int)≠0 by decide)]
     exact (cVecR_form lo hi g L B lB r hL he hb hn w h).mono fun e w' ⟨h1,h2,h3⟩=>⟨_,h1,Own.nil _ _ _,h2,h3⟩
   rw [if_neg (fun (e:(lenA L B r.at_).2.e=0∧65536<(lenA L B r.at_).1)=>hn e.2),hb]
   by_cases hq:L<r.at_+(lenA L B r.at_).2.at_+(lenA L B r.at_).1
   · have e1:takD L (((lenA L B r.at_).1:Nat):Int) ⟨r.at_+(lenA L B r.at_).2.at_,0⟩=(0,⟨r.at_+(lenA L B r.at_).2.at_,20⟩):=by
      unfold takD
      rw [if_neg (fun e=>e rfl),if_neg (by omega),if_pos (by show (L:Int) - ((r.at_+(lenA L B r.at_).2.at_:Nat):Int)<_;omega)]
     rw [e1,if_pos (show (20:Int)≠0 by decide)]
     exact (cVecR_end lo hi g L B lB r hL he hb hn hq w h).mono fun e w' ⟨h1,h2,h3⟩=>⟨_,h1,Own.nil _ _ _,h2,h3⟩
   · have e1:takD L (((lenA L B r.at_).1:Nat):Int) ⟨r.at_+(lenA L B r.at_).2.at_,0⟩=((lenA L B r.at_).1,⟨r.at_+(lenA L B r.at_).2.at_+(lenA L B r.at_).1,0⟩):=by
      unfold takD
      rw [if_neg (fun e=>e rfl),if_neg (by omega),if_neg (by show ¬(L:Int) - ((r.at_+(lenA L B r.at_).2.at_:Nat):Int)<_;omega),Int.toNat_natCast]
     rw [e1,if_neg (show ¬(0:Int)≠0 from fun e=>e rfl)]
     exact cVecR_good lo hi g L B lB r hL he hb hn (by omega) w h
 · have hz:=(lenA_le L B r.at_).2 hb
   have e1:takD L (((lenA L B r.at_).1:Nat):Int) ⟨r.at_+(lenA L B r.at_).2.at_,(lenA L B r.at_).2.e⟩=(0,⟨r.at_+(lenA L B r.at_).2.at_,(lenA L B r.at_).2.e⟩):=by unfold takD;rw [if_pos hb]
   rw [if_neg (fun (e:(lenA L B r.at_).2.e=0∧65536<(lenA L B r.at_).1)=>hb e.1),e1,if_pos hb]
   exact (cVecR_bad lo hi g L B lB r he hb w h).mono fun e w' ⟨h1,h2,h3⟩=>⟨_,h1,Own.nil _ _ _,h2,h3⟩
end Go.Proofs.Ytibgjjbnehhanaa
namespace Go.Proofs.Ytibgjjbnehhanaa
open Go.RowKit
theorem run_append_zeros_nil (w:World) (ty:TypeId) (m:Nat) (h0:0<m) (hm:m≤1000000) :
 (Builtin.append_ #[22,3] ty #[.slice none 0 0,.int .i64 m]).run Try.prog w =
  .ok (.slice (some ⟨w.heap.size,0,none⟩) m (grownCap w m 0 5)) (w.drew.alloc (.cells ((ints .u8 m (fun _=>0)).toArray ++ Builtin.zeroCells #[.int .u8 0] (grownCap w m 0 5 - m)) 5)):=by
 obtain ⟨i,hi,hz,hz1,hz2⟩:=info_parts Try.info5
 have h63':¬ (9223372036854775807<(m:Int)):=by omega
 have hw:IntKind.i64.wrap (m:Int)=m:=by simp only [IntKind.wrap_i64];omega
 have hl0:¬((m:Int)<0):=by omega
 have h48:¬ (281474976710656<(m:Int)):=by omega
 have hm0:¬(m=0):=by omega
 have hai:∀ W,Sem.run Try.prog (asInt (.int .i64 (m:Int))) W = .ok (m:Int) W:=fun _=>rfl
 have hc:(Value.int IntKind.u8 0).cells=#[.int .u8 0]:=rfl
 have hu:=run_underlying (P:=Try.prog) Try.underlying22
 have hu2:=run_underlying (P:=Try.prog) Try.underlying3
 have hns:¬ (281474976710656<Builtin.nextslicecap m 0):=by rw [nextslicecap_zero h0];omega
 simp [Builtin.append_,hu,hu2,sizeOf,typeInfo,zeroValue,hi,hz,hai,hw,hl0,h48,hz1,hz2,h63',Question.forced,run_firstCells_none,newRow,grownCap,hc,hm0,hns]
 rw [zeroCells_u8 m]
theorem append_zeros0 (w:World) (ty:TypeId) (m:Nat) (h0:0<m) (hm:m≤1000000) :
 ∃ g cap w',(Builtin.append_ #[22,3] ty #[.slice none 0 0,.int .i64 m]).run Try.prog w = .ok (.slice (some ⟨g,0,none⟩) m cap) w'∧m≤cap∧Own w.heap.size w' (.slice (some ⟨g,0,none⟩) 0 cap) 0 (fun _=>0)∧Below w.heap.size w w':=by
 have hge:=grownCap_ge w m 0 5
 have hcm:=grownCap_le_maxLen w m 0 5 (by unfold maxLen;omega)
 refine ⟨_,_,_,run_append_zeros_nil w ty m h0 hm,hge,⟨rfl,.inr ⟨w.heap.size,_,_,rfl,Nat.le_refl _,heap_alloc_new w.drew _,Nat.zero_le _,hcm,?_,rfl⟩⟩,((Below.refl _ _).drew).alloc (Nat.le_refl _) _⟩
 simp only [Array.size_append,List.size_toArray,size_zeroCells,ints_len]
 simp
 omega
theorem wpList_append_zeros0 {w:World} {ops:Array Oper} {rest:List Oper} {o:Oper} {a:Act} {Q:Exit→Act→World→Prop} (hgd:o.guard=none) (s x:Operand)
 (ho:o.op = .call { callee := .builtin .append,args:=#[s,x],argTypes:=#[22,3] }) (hs:a.eval s = .slice none 0 0) (m:Nat) (hx:a.eval x = .int .i64 m) (h0:0<m) (hm:m≤1000000)
 (h:∀ g cap w',m≤cap→Own w.heap.size w' (.slice (some ⟨g,0,none⟩) 0 cap) 0 (fun _=>0)→Below w.heap.size w w'→wpList Try.prog ops Q rest (a.put o.dst (.slice (some ⟨g,0,none⟩) m cap)) w'):wpList Try.prog ops Q (o :: rest) a w:=by
 refine wpList_plain hgd fun K hK => ?_
 obtain ⟨g,cap,w',h1,h2,h3,h4⟩:=append_zeros0 w o.type m h0 hm
 unfold Oper.wp execOp
 simp only [ho,resolve,invoke,builtin,Sem.run_bind,Sem.run_pure,Result.andThen_ok,List.map_toArray,List.map_cons,List.map_nil,hs,hx,h1]
 exact hK _ _ (h g cap w' h2 h3 h4)
set_option maxRecDepth 20000 in
set_option maxHeartbeats 4000000 in
theorem grow_any (m:Nat) (h0:0<m) (hm:m≤1000000) (w:World) :
 Calls Try.prog 54 #[.slice none 0 0,.int .i64 m] w fun e w'=>∃ g cap,e = .returned (.slice (some ⟨g,0,none⟩) 0 cap)∧Own w.heap.size w' (.slice (some ⟨g,0,none⟩) 0 cap) 0 (fun _=>0)∧Below w.heap.size w w':=by
 have e1:¬((m:Int)<0):=by omega
 have e2:(0:Int)<(m:Int):=by omega
 have e3:IntKind.i64.wrap ((m:Int) - 0)=(m:Int):=by simp only [IntKind.wrap_i64];omega
 have e4:IntKind.i64.wrap (m:Int)=(m:Int):=by simp only [IntKind.wrap_i64];omega
 go_enter Try.func54,Try.ntmps54
 go_wp2_with (at_builtin;refine wpList_append_zeros0 rfl (.tmp 20) (.tmp 21) rfl rfl m rfl h0 hm ?_;intro g cap w1 hcap own hb)
 go_ret
 exact ⟨g,cap,rfl,own,hb⟩
end Go.Proofs.Ytibgjjbnehhanaa
namespace Go.Proofs.Ytibgjjbnehhanaa
open Go.RowKit
def Parts (w:World) (gp cnt m:Nat) (t:Nat→Nat):Prop:=∃ (pvs:Nat→Value) (L:Nat→Nat),L 0=0∧L cnt=m∧∀ i,i<cnt→w.cell? ⟨gp,i,none⟩=some (pvs i)∧L i≤L (i+1)∧L (i+1)≤m∧BytesIn w (pvs i) (L (i+1) - L i) (fun j=>t (L i+j))
set_option maxRecDepth 20000 in
set_option maxHeartbeats 8000000 in
theorem concat_parts (gp cnt m:Nat) (t:Nat→Nat) (w:World) (hP:Parts w gp cnt m t) (hcnt:cnt≤1000) (hsum:m≤1000000) (h0:0<m) :
 Calls Try.prog 46 #[.slice (some ⟨gp,0,none⟩) cnt cnt] w fun e w'=>∃ s,e = .returned s∧Own w.heap.size w' s m t∧Below w.heap.size w w':=by
 obtain ⟨pvs,L,p0,p1,p2⟩:=hP
 have P2:=Hid.mk' p2
 clear p2
 have hg:=grow_any m h0 hsum w
 go_enter Try.func46,Try.ntmps46
 go_wp2
 go_loopw [3,11] (fun s i wr=>∃ q T:Nat,q≤cnt∧i = .int .i64 q∧Hid (T=L q)∧s = .int .i64 T∧w=wr) (fun _ i _=>cnt - (intOf i).toNat)
 case atStart=>exact ⟨0,0,Nat.zero_le _,rfl,Hid.mk' p0.symm,rfl,rfl⟩
 case round =>
  obtain ⟨q,T,hq,rfl,HT,rfl,rfl⟩:=hrel
  by_cases hlt:q<cnt
  · obtain ⟨c1,c2,c3,c4⟩:=P2.out q hlt
    obtain ⟨xp,cp,hpv,hxn,hncp,hsrc⟩:=c4.src
    obtain ⟨n,hn⟩:∃ n,n=L (q+1) - L q:=⟨_,rfl⟩
    have hTn:T+n=L (q+1):=by have:=HT.out;omega
    have hTm:T+n≤1000000:=by omega
    have r0:w.cell? ⟨gp,q,none⟩=some (.slice xp n cp):=by rw [c1,hpv,hn]
    have hqi:(0:Int)≤(q:Int)∧(q:Int)<cnt:=by omega
    have hd:decide ((q:Int)<(cnt:Int))=true:=decide_eq_true (by omega)
    have ew:IntKind.i64.wrap ((T:Int)+(n:Int))=(T:Int)+n:=by simp only [IntKind.wrap_i64];omega
    have en:¬((T:Int)+(n:Int)<0):=by omega
    have HN:Hid (T+n=L (q+1)):=hTn
    clear hn hTn c1 c2 c3 c4 hpv hsrc hg p0 p1
    go_wp2
    go_roundw
    case rel=>exact ⟨q+1,T+n,by omega,by go_num,Hid.mk' HN.out,by simp,by first | rfl | trivial⟩
    case measure=>simp [intOf];omega
  · have hqe:q=cnt:=by omega
    subst hqe
    have hTm:T=m:=by rw [HT.out,p1]
    subst hTm
    go_wp2_with (go_at_call 54;refine hg.mono ?_;clear hg;rintro e w1 ⟨g1,cap1,rfl,own1,hb1⟩)
    have hd0:decide ((q:Int)<(q:Int))=false:=decide_eq_false (by omega)
    try rw [hd0]
    clear hd0 hlt HT
    go_loopw [6,27] (fun ns i wr=>∃ r A:Nat,r≤q∧i = .int .i64 r∧Hid (A=L r)∧Own w.heap.size wr ns A t∧Below w.heap.size w wr) (fun _ i _=>q - (intOf i).toNat)
    case atStart=>exact ⟨0,0,Nat.zero_le _,rfl,Hid.mk' p0.symm,own1.congr (fun j hj=>absurd hj (Nat.not_lt_zero j)),hb1⟩
    case round =>
     clear own1 hb1
     obtain ⟨r,A,hr,rfl,HA,own,hbw⟩:=hrel
     by_cases hlt:r<q
     · obtain ⟨c1,c2,c3,c4⟩:=P2.out r hlt
       obtain ⟨xp,cp,hpv,hxn,hncp,hsrc⟩:=c4.src
       obtain ⟨n,hn⟩:∃ n,n=L (r+1) - L r:=⟨_,rfl⟩
       have hTn:A+n=L (r+1):=by have:=HA.out;omega
       have hTm:A+n≤1000000:=by omega
       have r0:wr.cell? ⟨gp,r,none⟩=some (.slice xp n cp):=by rw [hbw.cell (p:=⟨gp,r,none⟩) (block_lt_of_cell c1),c1,hpv,hn]
       have hcg:∀ z,z<A+n→cat A t (fun j=>t (L r+j)) z=t z:=fun z hz=>by
        have:=HA.out
        unfold cat
        by_cases e:z<A
        · rw [if_pos e]
        · rw [if_neg e]
          show t (L r+(z - A))=t z
          rw [show L r+(z - A)=z by omega]
       have src:=hsrc wr hbw
       rw [←hn] at src
       obtain ⟨Y,hY⟩:∃ Y:Nat→Nat,Y=fun j=>t (L r+j):=⟨_,rfl⟩
       rw [←hY] at src hcg
       have hqi:(0:Int)≤(r:Int)∧(r:Int)<q:=by omega
       have hd:decide ((r:Int)<(q:Int))=true:=decide_eq_true (by omega)
       have hsz:=hbw.size
       have HN:Hid (A+n=L (r+1)):=hTn
       clear hn hTn c1 c2 c3 c4 hpv hsrc p0 p1 hY
       go_wp2_with (at_builtin;refine wpList_append_bytes rfl (.tmp 31) (.tmp 32) rfl w.heap.size u6 A t rfl own xp n cp Y rfl src hxn (by omega) hsz ?_;intro v6 w6 own6 grow6;(have hb6:Below w.heap.size w w6:=Own.grown hbw grow6 own (Nat.le_refl _) hsz))
       go_roundw
       case rel=>exact ⟨r+1,A+n,by omega,by go_num,Hid.mk' HN.out,own6.congr hcg,hb6⟩
       case measure=>simp [intOf];omega
     · have hqe:r=q:=by omega
       subst hqe
       have hA:=HA.out
       rw [p1] at hA
       go_wp2
       go_ret
       exact ⟨_,rfl,by rw [←hA];exact own,hbw⟩
theorem BytesIn.cong {w:World} {v:Value} {n:Nat} {a b:Nat→Nat} (h:BytesIn w v n a) (e:∀ j,j<n→a j=b j):BytesIn w v n b:=by
 rcases h with h | ⟨bb,ob,cap,rfl,h1,h2,h3⟩
 · exact .inl h
 · exact .inr ⟨bb,ob,cap,rfl,h1,h2,fun j hj=>by rw [h3 j hj,e j hj]⟩
theorem parts_two (w:World) (v u:Value) (n m:Nat) (t s:Nat→Nat) (ty:TypeId) (h1:BytesIn w v n t) (h2:BytesIn w u m s):Parts (w.alloc (.cells #[v,u] ty)) w.heap.size 2 (n+m) (cat n t s):=by
 have b:=(Below.refl _ w).alloc (Nat.le_refl _) (.cells #[v,u] ty)
 refine ⟨fun i=>if i=0 then v else u,fun i=>if i=0 then 0 else if i=1 then n else n+m,rfl,rfl,fun i hi => ?_⟩
 rcases (show i=0∨i=1 by omega) with rfl | rfl
 · refine ⟨by simp,Nat.zero_le _,Nat.le_add_right _ _,?_⟩
   show BytesIn _ v (n - 0) (fun j=>cat n t s (0+j))
   rw [Nat.sub_zero]
   exact (h1.keep b).cong fun j hj=>by rw [Nat.zero_add,cat_left hj]
 · refine ⟨by simp,Nat.le_add_right _ _,Nat.le_refl _,?_⟩
   show BytesIn _ u (n+m - n) (fun j=>cat n t s (n+j))
   rw [Nat.add_sub_cancel_left]
   exact (h2.keep b).cong fun j hj=>by rw [cat_right]
set_option maxRecDepth 20000 in
set_option maxHeartbeats 4000000 in
theorem cVec11_good (v:Value) (n:Nat) (b:Nat→Nat) (hn:n≤65536) (w:World) (hv:BytesIn w v n b):Calls Try.prog 15 #[v] w fun e w'=>∃ s,e = .returned (.tuple #[s,.int .i64 0])∧Own w.heap.size w' s (vcL n) (vcB n b)∧Below w.heap.size w w':=by
 have HV:=Hid.mk' hv
 obtain ⟨x1,c1,rfl,-,-,-⟩:=hv.src
 clear hv
 have cl:=cLen11_good n (by omega) w
 have hs:=lnS_pos n
 obtain ⟨z,hz⟩:∃ z:Int,z=(n:Int):=⟨_,rfl⟩
 have t1:¬(65536:Int)<(n:Int):=by omega
 have hL:vcL n≤1000000:=by unfold vcL;omega
 have h0:0<vcL n:=by unfold vcL;omega
 clear hn hz hs
 go_enter Try.func15,Try.ntmps15
 go_wp2_with (first
  | (go_at_call 13;refine cl.mono ?_;clear cl;rintro e w1 ⟨h1,rfl,hh1,b1⟩;(obtain ⟨x2,c2,e2,-,-,-⟩:=hh1.src);subst e2;(have hP:=parts_two w1 _ _ _ _ _ _ 22 hh1 (HV.out.keep b1));(have cc:=concat_parts w1.heap.size 2 (vcL n) (vcB n b) _ hP (by decide) hL h0);clear hP)
  | (go_at_call 46;refine cc.mono ?_;clear cc;rintro e w2 ⟨s,rfl,own2,b2⟩))
 go_ret2
 have ba:=below_next b1 ((Below.refl w1.heap.size w1).alloc (Nat.le_refl _) (.cells #[.slice x2 (lnS n) c2,.slice x1 n c1] 22))
 exact ⟨s,rfl,World.ownsRow.mono own2 ba.size,below_next ba b2⟩
end Go.Proofs.Ytibgjjbnehhanaa
namespace Go.Proofs.Ytibgjjbnehhanaa
open Go.RowKit
theorem RdC.ge {lo hi:Nat} {w:World} {g L:Nat} {B:Nat→Nat} {r:Rd} (h:RdC lo hi w g L B r):lo≤g:=h.choose_spec.2.2.2.1.1
theorem num11_any (x:Int) (w:World):Calls Try.prog 17 #[.int .i64 x] w fun e w'=>e = .returned (.int .i64 x)∧w=w':=by
 go_enter Try.func17,Try.ntmps17
 go_wp2
 go_ret
 exact ⟨rfl,rfl⟩
def twB (a b:Nat) (j:Nat):Nat:=if j=0 then a else b
theorem twB_lt {a b:Nat} (ha:a<256) (hb:b<256) (j:Nat):twB a b j<256:=by unfold twB;split <;> assumption
theorem two_new (w:World) (a b:Nat) (f:Nat × Nat):BytesIn (w.alloc (.cells #[.int .u8 (a:Int),.int .u8 (b:Int)] 5 f)) (.slice (some ⟨w.heap.size,0,none⟩) 2 2) 2 (twB a b):=by
 refine .inr ⟨w.heap.size,0,2,rfl,by simp,Nat.le_refl _,fun j hj => ?_⟩
 unfold World.cell?
 rw [heap_alloc_new]
 match j,hj with
 | 0,_=>simp [twB]
 | 1,_=>simp [twB]
theorem convC2 (W:World):(convert 22 22 (.slice (some ⟨W.heap.size,0,none⟩) 2 2)).run Try.prog (W.alloc (.cells #[.int .u8 97,.int .u8 98] 5)) = .ok (.slice (some ⟨W.heap.size,0,none⟩) 2 2) (W.alloc (.cells #[.int .u8 97,.int .u8 98] 5 (2,3))):=by
 have h:=Lib.run_convert_bytes_const (P:=Try.prog) W 22 5 #[.int .u8 97,.int .u8 98] 2 2 Try.underlying22 Try.underlying5
 rw [h]
 simp
set_option maxRecDepth 20000 in
set_option maxHeartbeats 4000000 in
theorem knows11 (w:World):Calls Try.prog 19 #[] w fun e w'=>e = .returned (.bool true)∧Below w.heap.size w w':=by
 have b0:=(Below.refl w.heap.size w).alloc (Nat.le_refl _) (.cells #[.int .u8 97,.int .u8 98] 5 (2,3))
 have n1:BytesIn (w.alloc (.cells #[.int .u8 97,.int .u8 98] 5 (2,3))) (.slice (some ⟨w.heap.size,0,none⟩) 2 2) 2 (twB 97 98):=two_new w 97 98 _
 have c1:=cVec11_good _ 2 (twB 97 98) (by decide) _ n1
 have hlt:∀ j,vcB 2 (twB 97 98) j<256:=cat_lt (fun j=>beN_lt _ _ j) (twB_lt (by decide) (by decide))
 have es:strB (vcL 2) (vcB 2 (twB 97 98))=⟨#[2,97,98]⟩:=by kernel_rfl
 have ev:vecD 2 (twB 64 5) ⟨0,0⟩=(0,⟨0,21⟩):=by kernel_rfl
 have n2:∀ W:World,BytesIn (W.alloc (.cells #[.int .u8 64,.int .u8 5] 5)) (.slice (some ⟨W.heap.size,0,none⟩) 2 2) 2 (twB 64 5):=fun W=>two_new W 64 5 _
 have c2:=fun W=>cNew_any _ 2 (twB 64 5) (by decide) _ (n2 W)
 have c3:=fun lo hi g W h=>cVecR_any lo hi g 2 (twB 64 5) (twB_lt (by decide) (by decide)) ⟨0,0⟩ (by decide) W h
 rw [ev] at c3
 have EV:=Hid.mk' ev
 have hid:=convC2 w
 clear ev n1 n2
 go_enter Try.func19,Try.ntmps19
 go_wp2_with (first
  | (go_at_call 15;refine c1.mono ?_;clear c1;rintro e w1 ⟨s1,rfl,own1,b1⟩;(replace b1:=below_next b0 b1);clear b0;(have hb1:=BytesIn.of_own own1);(obtain ⟨x1,d1,e1⟩:=own1.slice);subst e1;(have ba:=(Below.refl w1.heap.size w1).alloc (Nat.le_refl _) (.cells #[.int .u8 64,.int .u8 5] 5));(have c2:=c2 w1))
  | (go_at_call 22;refine c2.mono ?_;clear c2;rintro e w2 ⟨g,rfl,hr2,b2⟩;(replace b2:=below_next ba b2);clear ba;(have c3:=c3 _ _ g w2 hr2))
  | (go_at_call 28;refine c3.mono ?_;clear c3;rintro e w3 ⟨s3,rfl,own3,hr3,o3⟩;(have hg:w1.heap.size≤g:=Nat.le_trans (by simp) hr2.ge);(have b3:Below w1.heap.size w1 w3:=b2.trans (o3.below hg b2.size));(have ce:=cErr_any _ _ g 2 (twB 64 5) _ w3 hr3);(have cv:=hb1.conv hlt w3 b3);rw [es] at cv;(obtain ⟨x3,d3,e3⟩:=own3.slice);subst e3;clear own1 own3 hb1 hr2 hr3)
  | (go_at_call 17;refine (num11_any _ _).mono ?_;rintro e wn ⟨rfl,hwn⟩;subst hwn)
  | (go_at_call 34;refine ce.mono ?_;clear ce;rintro e w4 ⟨rfl,hw⟩;obtain rfl:=hw.symm))
 go_ret
 exact ⟨rfl,below_next b1 b3⟩
end Go.Proofs.Ytibgjjbnehhanaa
namespace Go.Proofs.Ytibgjjbnehhanaa
open Go.RowKit
structure SameIn (lo hi:Nat) (w w':World):Prop where
 size:w.heap.size≤w'.heap.size
 block:∀ k,lo≤k→k<hi→w'.heap[k]? = w.heap[k]?
theorem SameIn.cell {lo hi:Nat} {w w':World} (h:SameIn lo hi w w') {k o:Nat} (h1:lo≤k) (h2:k<hi):w'.cell? ⟨k,o,none⟩=w.cell? ⟨k,o,none⟩:=World.cell?_of_block (w:=w) (h.block k h1 h2)
theorem SameIn.frozen {lo hi:Nat} {w w':World} (h:SameIn lo hi w w') {k o:Nat} (h1:lo≤k) (h2:k<hi):w'.frozen? ⟨k,o,none⟩=w.frozen? ⟨k,o,none⟩:=World.frozen?_of_block (w:=w) (h.block k h1 h2)
theorem SameIn.of_below {lo hi M:Nat} {w w':World} (h:Below M w w') (hM:hi≤M):SameIn lo hi w w':=⟨h.size,fun k _ h2=>h.block k (by omega)⟩
theorem SameIn.of_out {lo hi b o n:Nat} {w w':World} (h:Out b o n w w') (hb:b<lo∨hi≤b) (hh:hi≤w.heap.size):SameIn lo hi w w':=⟨h.size,fun k h1 h2=>h.block k (by omega) (by omega)⟩
theorem RW.same {lo hi:Nat} {w w':World} (s:SameIn lo hi w w') {g:Nat} {vs:List Value} (r:RW w g 0 vs) (h1:lo≤g) (h2:g<hi):RW w' g 0 vs :=
 ⟨fun j v hv=>(s.cell h1 h2).trans (r.range j v hv),fun j hj=>by rw [s.cell h1 h2,s.frozen h1 h2];exact r.there j hj,Nat.lt_of_lt_of_le r.lt s.size⟩
theorem RdC.same {lo hi:Nat} {w w':World} {g L:Nat} {B:Nat→Nat} {r:Rd} (h:RdC lo hi w g L B r) (s:SameIn lo hi w w'):RdC lo hi w' g L B r:=by
 obtain ⟨v,rr,hv,ha,hg,hh⟩:=h
 exact ⟨v,RW.same s rr hg.1 hg.2,BI.same hv fun b o z h1 h2 hc=>(s.cell h1 h2).trans hc,ha,hg,Nat.le_trans hh s.size⟩
def RdB (lo hi:Nat) (w:World) (g L:Nat) (B:Nat→Nat) (r:Rd):Prop:=∃ v,RW w g 0 [v,.int .i64 (r.at_:Int),.int .i64 r.e]∧BI lo hi w v L B∧r.at_≤L∧(lo≤g∧g<hi)∧hi≤w.heap.size
theorem RdB.same {lo hi:Nat} {w w':World} {g L:Nat} {B:Nat→Nat} {r:Rd} (h:RdB lo hi w g L B r) (s:SameIn lo hi w w'):RdB lo hi w' g L B r:=by
 obtain ⟨v,rr,hv,ha,hg,hh⟩:=h
 exact ⟨v,RW.same s rr hg.1 hg.2,BI.same hv fun b o z h1 h2 hc=>(s.cell h1 h2).trans hc,ha,hg,Nat.le_trans hh s.size⟩
theorem RdB.size {lo hi:Nat} {w:World} {g L:Nat} {B:Nat→Nat} {r:Rd} (h:RdB lo hi w g L B r):hi≤w.heap.size:=h.choose_spec.2.2.2.2
theorem RdB.ge {lo hi:Nat} {w:World} {g L:Nat} {B:Nat→Nat} {r:Rd} (h:RdB lo hi w g L B r):lo≤g:=h.choose_spec.2.2.2.1.1
theorem RdB.lt {lo hi:Nat} {w:World} {g L:Nat} {B:Nat→Nat} {r:Rd} (h:RdB lo hi w g L B r):g<hi:=h.choose_spec.2.2.2.1.2
theorem RdB.of {lo hi:Nat} {w:World} {g L:Nat} {B:Nat→Nat} {r:Rd} (h:RdB lo hi w g L B r):RdR w g L B r:=by
 obtain ⟨v,rr,hv,ha,hg,hh⟩:=h
 exact ⟨v,rr,hv.of hh,ha⟩
theorem RdB.turn {lo hi:Nat} {w w':World} {g L:Nat} {B:Nat→Nat} {r r':Rd} (h:RdB lo hi w g L B r) (h':RdR w' g L B r') (o:Out g 1 2 w w'):RdB lo hi w' g L B r':=by
 obtain ⟨v,rr,hv,ha,hg,hh⟩:=h
 obtain ⟨v',rr',-,ha'⟩:=h'
 have e0:w'.cell? ⟨g,0,none⟩=some v:=(o.cell 0 (by omega)).trans (rr.range 0 _ rfl)
 have e1:w'.cell? ⟨g,0,none⟩=some v':=rr'.range 0 _ rfl
 obtain rfl:v=v':=Option.some.inj (e0.symm.trans e1)
 refine ⟨v,rr',BI.same hv fun b p z h1 h2 hc => ?_,ha',hg,Nat.le_trans hh o.size⟩
 by_cases e:b=g
 · subst e
   by_cases e2:p=1∨p=2
   · have c1:w.cell? ⟨b,1,none⟩=some (.int .i64 (r.at_:Int)):=rr.range 1 _ rfl
     have c2:w.cell? ⟨b,2,none⟩=some (.int .i64 r.e):=rr.range 2 _ rfl
     rcases e2 with rfl | rfl
     · rw [c1] at hc;cases hc
     · rw [c2] at hc;cases hc
   · exact (o.cell p (by omega)).trans hc
 · exact (o.cell' (by omega) e).trans hc
set_option maxRecDepth 20000 in
set_option maxHeartbeats 2000000 in
theorem rNewB_any (v:Value) (n:Nat) (b:Nat→Nat) (hn:n<140737488355000) (w:World) (hv:BytesIn w v n b):Calls Try.prog 23 #[v] w fun e w'=>∃ g,e = .returned (.pointer (some ⟨g,0,none⟩))∧RdB w.heap.size w'.heap.size w' g n b ⟨0,0⟩∧Below w.heap.size w w':=by
 obtain ⟨x1,c1,rfl,hxn,-,hsrc⟩:=hv.src
 have hsu:=hsrc _ ((Below.refl w.heap.size w).alloc (Nat.le_refl _) (.cells #[] 5))
 clear hv hsrc
 go_enter Try.func23,Try.ntmps23
 go_wp2_with (at_builtin;refine wpList_append_empty rfl (.tmp 3) (.tmp 4) rfl w.heap.size b w.heap.size rfl rfl x1 n c1 rfl hsu hxn (by omega) (Nat.le_refl _) ?_;intro v3 w3 own3 hb3;(obtain ⟨y3,d3,e3⟩:=own3.slice);subst e3)
 go_ret
 have hb:=(Below.refl w3.heap.size w3).alloc (Nat.le_refl _) (.cells #[.slice y3 n d3,.int .i64 0,.int .i64 0] 54)
 exact ⟨w3.heap.size,rfl,⟨_,RW.fresh w3 [_,_,_] _,(BI.own own3).below hb (Nat.le_refl _) |>.wide (Nat.le_refl _) hb.size,Nat.zero_le _,⟨hb3.size,by simp⟩,Nat.le_refl _⟩,below_next hb3 hb⟩
theorem rNumB_any (lo hi g L:Nat) (B:Nat→Nat) (lB:∀ j,B j<256) (r:Rd) (s:Int) (hL:L<140737488355000) (w:World) (h:RdB lo hi w g L B r):Calls Try.prog 25 #[.pointer (some ⟨g,0,none⟩),.int .i64 s] w fun e w'=>e = .returned (.int .i64 (((numD L B s r).1:Nat):Int))∧RdB lo hi w' g L B (numD L B s r).2∧Out g 1 2 w w' :=
 (rNumR_any g L B lB r s hL w h.of).mono fun _ _ ⟨h1,h2,h3⟩=>⟨h1,h.turn h2 h3,h3⟩
theorem rLenB_any (lo hi g L:Nat) (B:Nat→Nat) (lB:∀ j,B j<256) (r:Rd) (hL:L<140737488355000) (w:World) (h:RdB lo hi w g L B r):Calls Try.prog 27 #[.pointer (some ⟨g,0,none⟩)] w fun e w'=>e = .returned (.int .i64 (((lenD L B r).1:Nat):Int))∧RdB lo hi w' g L B (lenD L B r).2∧Out g 1 2 w w' :=
 (rLenR_any g L B lB r hL w h.of).mono fun _ _ ⟨h1,h2,h3⟩=>⟨h1,h.turn h2 h3,h3⟩
theorem rTakB_any (lo hi g L:Nat) (B:Nat→Nat) (r:Rd) (n:Int) (hL:L<140737488355000) (w:World) (h:RdB lo hi w g L B r):Calls Try.prog 31 #[.pointer (some ⟨g,0,none⟩),.int .i64 n] w fun e w'=>∃ v,e = .returned v∧Own w.heap.size w' v (takD L n r).1 (fun j=>B (r.at_+j))∧RdB lo hi w' g L B (takD L n r).2∧Out g 1 2 w w' :=
 (rTakR_any g L B r n hL w h.of).mono fun _ _ ⟨v,h1,h2,h3,h4⟩=>⟨v,h1,h2,h.turn h3 h4,h4⟩
theorem rVecB_any (lo hi g L:Nat) (B:Nat→Nat) (lB:∀ j,B j<256) (r:Rd) (hL:L<140737488355000) (w:World) (h:RdB lo hi w g L B r):Calls Try.prog 29 #[.pointer (some ⟨g,0,none⟩)] w fun e w'=>∃ v,e = .returned v∧Own w.heap.size w' v (vecD L B r).1 (fun j=>B ((lenD L B r).2.at_+j))∧RdB lo hi w' g L B (vecD L B r).2∧Out g 1 2 w w' :=
 (rVecR_any g L B lB r hL w h.of).mono fun _ _ ⟨v,h1,h2,h3,h4⟩=>⟨v,h1,h2,h.turn h3 h4,h4⟩
structure Two (m lo hi hj:Nat) (w:World) (g k L:Nat) (B:Nat→Nat) (r:Rd):Prop where
 code:RdC lo hi w g L B r
 ref:RdB hi hj w k L B r
 low:m≤lo
theorem Two.same {m lo hi hj:Nat} {w w':World} {g k L:Nat} {B:Nat→Nat} {r:Rd} (h:Two m lo hi hj w g k L B r) (s:SameIn lo hj w w'):Two m lo hi hj w' g k L B r :=
 ⟨h.code.same ⟨s.size,fun c h1 h2=>s.block c h1 (Nat.lt_of_lt_of_le h2 (Nat.le_of_lt (Nat.lt_of_le_of_lt h.ref.ge h.ref.lt)))⟩,h.ref.same ⟨s.size,fun c h1 h2=>s.block c (Nat.le_trans (Nat.le_of_lt (Nat.lt_of_le_of_lt h.code.ge h.code.choose_spec.2.2.2.1.2)) h1) h2⟩,h.low⟩
theorem Two.still {m lo hi hj:Nat} {w w':World} {g k L:Nat} {B:Nat→Nat} {r:Rd} (h:Two m lo hi hj w g k L B r) (hb:Below w.heap.size w w'):Two m lo hi hj w' g k L B r:=h.same (SameIn.of_below hb h.ref.size)
theorem Two.half {m lo hi hj:Nat} {w w':World} {g k L:Nat} {B:Nat→Nat} {r:Rd} (h:Two m lo hi hj w g k L B r) (o:Out g 0 2 w w'):RdB hi hj w' k L B r∧Below m w w' :=
 ⟨h.ref.same (SameIn.of_out o (.inl h.code.choose_spec.2.2.2.1.2) h.ref.size),o.below (Nat.le_trans h.low h.code.ge) (Nat.le_trans (Nat.le_trans h.low h.code.ge) (Nat.le_of_lt h.code.lt))⟩
theorem Two.whole {m lo hi hj:Nat} {w w':World} {g k L:Nat} {B:Nat→Nat} {r:Rd} (hl:m≤lo) (h:RdC lo hi w g L B r) (h':RdB hi hj w' k L B r) (o:Out k 1 2 w w'):Two m lo hi hj w' g k L B r∧Below m w w' :=
 ⟨⟨h.same (SameIn.of_out o (.inr h'.ge) h.size),h',hl⟩,o.below (Nat.le_trans (Nat.le_trans hl h.ge) (Nat.le_trans (Nat.le_of_lt h.choose_spec.2.2.2.1.2) h'.ge)) (Nat.le_trans (Nat.le_trans hl h.ge) (Nat.le_of_lt h.lt))⟩
end Go.Proofs.Ytibgjjbnehhanaa
namespace Go.Proofs.Ytibgjjbnehhanaa
open Go.ChangeShapes Go.WideShapes Go.ChangeAt Go.RowKit
theorem ownKnobs:ownKnob Try.prog.godebug=none:=by kernel_rfl
theorem laidOut:laidOutB Try.prog=true:=by kernel_rfl
theorem cellsOfByte:Try.prog.cellsOf 5=1:=by kernel_rfl
theorem bytesOfByte:Try.prog.bytesOf 5=1:=by kernel_rfl
set_option maxRecDepth 20000 in
theorem open_bytes {H:Type} {enc:TypeId × Value→H} {W:World} {base:Nat} {v:Value} {d:DataW H} {ps:List MemPlace} (hval:Value.okWide Try.prog W .any base 22 v) (h:DataW.Trod enc Try.prog W 0 (fun _=>true) true 22 v d ps) :
 ∃ n bs,BytesIn W v n bs∧(∀ j,bs j<256)∧(n=0∨∃ elems spare,d = .slice elems spare∧elems.length=n):=by
 obtain ⟨a0,len,cap,rfl⟩:=okWide_slice Try.underlying22 hval
 obtain ⟨fuel,hf⟩:=h
 have hc:Cell.ok Try.prog W .any base 22 (.slice a0 len cap):=by
  unfold Value.okWide Cell.okWide at hval
  simp only [Try.underlying22] at hval
  exact hval
 rcases open_ints Try.underlying22 Try.underlying5 cellsOfByte hf with ⟨hcs,hx⟩ | ⟨a,len',cap',zs,hcs,_,hl,hm,hz,hx,hcell,hwz⟩
 · simp [Value.cells] at hcs
   obtain ⟨rfl,rfl,rfl⟩:=hcs
   exact ⟨0,fun _=>0,.inl ⟨none,rfl,rfl⟩,fun _=>Nat.zero_lt_succ _,.inl rfl⟩
 · simp [Value.cells] at hcs
   obtain ⟨rfl,rfl,rfl⟩:=hcs
   simp only [Prod.mk.injEq] at hx
   obtain ⟨rfl,rfl⟩:=hx
   simp only [if_true] at hz
   unfold Cell.ok at hc
   simp only [Try.underlying22] at hc
   obtain ⟨_,_,_,hs,row,cells,hsh,_⟩:=hc
   obtain ⟨b,off,spot⟩:=a
   subst hs
   have hbl:b<W.heap.size:=by
    rcases Nat.lt_or_ge b W.heap.size with h | h
    · exact h
    · unfold World.shape? at hsh
      rw [Array.getElem?_eq_none h] at hsh
      cases hsh
   have hn:∀ j,0≤zs.getD j 0∧zs.getD j 0<256:=fun j=>by
    rw [List.getD_eq_getElem?_getD]
    cases h:zs[j]? with
    | none=>simp
    | some x =>
     have:=hwz x (List.mem_of_getElem? h)
     have h0:(0:Int)≤x∧x≤255:=by simpa [Lit.wf,IntKind.min,IntKind.max,IntKind.signed,IntKind.bits] using this
     show 0≤x∧x<256
     omega
   refine ⟨len,fun j=>(zs.getD j 0).toNat,.inr ⟨b,off,cap,rfl,hbl,hl,fun j hj => ?_⟩,fun j => ?_,.inr ⟨_,_,rfl,?_⟩⟩
   · have h:=hcell j (by omega)
     rw [Addr.add_mid] at h
     rw [h,Int.toNat_of_nonneg (hn j).1]
   · have:=hn j
     show (zs.getD j 0).toNat<256
     omega
   · simp [lits];omega
theorem bytes_reach {H:Type} {ts:List TypeId} {ds:List (DataW H)} (hR:(DataW.weightsEach Try.prog ts ds).all (·≤reachBytes)=true) {j n:Nat} {d:DataW H} (ht:ts[j]? = some 22) (hd:ds[j]? = some d) (h:n=0∨∃ elems spare,d = .slice elems spare∧elems.length=n):n<140737488355000:=by
 rcases h with h | ⟨elems,spare,rfl,rfl⟩
 · omega
 · have:=sized_slice hR ht hd Try.underlying22
   rw [bytesOfByte] at this
   unfold reachBytes at this
   omega
end Go.Proofs.Ytibgjjbnehhanaa
namespace Go.Proofs.Ytibgjjbnehhanaa
open Go.ChangeShapes Go.WideShapes Go.ChangeAt Go.RowKit
structure Ops2 (w:World) (xo:Option Addr) (cnt:Nat) (kd nn:Nat→Int):Prop where
 cells:∀ q,q<cnt→∃ b o,xo=some ⟨b,o,none⟩∧b<w.heap.size∧w.cell? ⟨b,o+q*2,none⟩=some (.int .i64 (kd q))∧w.cell? ⟨b,o+q*2+1,none⟩=some (.int .i64 (nn q))
 num:∀ q,q<cnt→(-9223372036854775808≤kd q∧kd q≤9223372036854775807)∧(-9223372036854775808≤nn q∧nn q≤9223372036854775807)
theorem Ops2.keep {w w':World} {xo:Option Addr} {cnt:Nat} {kd nn:Nat→Int} (h:Ops2 w xo cnt kd nn) (hb:Below w.heap.size w w'):Ops2 w' xo cnt kd nn :=
 ⟨fun q hq=>by
   obtain ⟨b,o,e,hl,h1,h2⟩:=h.cells q hq
   exact ⟨b,o,e,Nat.lt_of_lt_of_le hl hb.size,(hb.cell (p:=⟨b,o+q*2,none⟩) hl).trans h1,(hb.cell (p:=⟨b,o+q*2+1,none⟩) hl).trans h2⟩,h.num⟩
theorem cellsOfOp2:Try.prog.cellsOf 47=2:=by kernel_rfl
theorem bytesOfOp2:Try.prog.bytesOf 47=16:=by kernel_rfl
set_option maxRecDepth 20000 in
theorem open_ops2 {H:Type} {enc:TypeId × Value→H} {W:World} {base:Nat} {v:Value} {d:DataW H} {ps:List MemPlace} {ts:List TypeId} {ds:List (DataW H)} (hval:Value.okWide Try.prog W .any base 41 v) (h:DataW.Trod enc Try.prog W 0 (fun _=>true) true 41 v d ps)
 (hR:(DataW.weightsEach Try.prog ts ds).all (·≤reachBytes)=true) {j:Nat} (ht:ts[j]? = some 41) (hd:ds[j]? = some d) :
 ∃ xo cnt cap kd nn,v = .slice xo cnt cap∧cnt<140737488355000∧Ops2 W xo cnt kd nn:=by
 obtain ⟨a0,len,cap,rfl⟩:=okWide_slice Try.underlying41 hval
 obtain ⟨fuel,hf⟩:=h
 have hc:Cell.ok Try.prog W .any base 41 (.slice a0 len cap):=by
  unfold Value.okWide Cell.okWide at hval
  simp only [Try.underlying41] at hval
  exact hval
 have hw:∀ n∈d.weights Try.prog 41,n≤reachBytes:=fun n hn =>
  of_decide_eq_true (List.all_eq_true.1 hR n (DataW.weights_mem_each ht hd n hn))
 rcases Deep.open_slice Try.underlying41 hf with ⟨hcs,hx⟩ | ⟨a,len',cap',m,n,D,Pl,hcs,_,hl,hm,hmm,hx,hrow⟩
 · simp [Value.cells] at hcs
   obtain ⟨rfl,rfl,rfl⟩:=hcs
   exact ⟨none,0,0,fun _=>0,fun _=>0,rfl,by decide,⟨fun q hq=>by omega,fun q hq=>by omega⟩⟩
 · simp [Value.cells] at hcs
   obtain ⟨rfl,rfl,rfl⟩:=hcs
   simp only [if_true] at hmm
   unfold Cell.ok at hc
   simp only [Try.underlying41] at hc
   obtain ⟨_,_,_,hs,_⟩:=hc
   obtain ⟨b,off,spot⟩:=a
   subst hs
   rw [cellsOfOp2] at hrow
   obtain ⟨hx1,-⟩:=Prod.mk.inj hx
   rw [hx1] at hw
   simp only [DataW.weights,Try.underlying41,List.mem_cons,List.mem_append] at hw
   have hcnt:len<140737488355000:=by
    have:=hw _ (.inl rfl)
    rw [bytesOfOp2] at this
    simp only [List.length_map,List.length_range] at this
    unfold reachBytes at this
    omega
   have each:∀ i,i<len→∃ q:Int × Int,b<W.heap.size∧W.cell? ⟨b,off+i*2,none⟩=some (.int .i64 q.1)∧W.cell? ⟨b,off+i*2+1,none⟩=some (.int .i64 q.2)∧(-9223372036854775808≤q.1∧q.1≤9223372036854775807)∧(-9223372036854775808≤q.2∧q.2≤9223372036854775807):=by
    intro i hi
    obtain ⟨cs',h1,h2⟩:=hrow i (by omega)
    obtain ⟨_,hlen,hcell⟩:=World.cells?_some h1
    obtain ⟨xs,k,hk,hxy,_,hxl,hfd⟩:=DataW.trod_struct Try.underlying47 h2
    match xs,hxl,cs',hlen with
    | [y0,y1],_,[v0,v1],_ =>
     have g0:=hfd 0 _ rfl
     have g1:=hfd 1 _ rfl
     have k2:Try.prog.cellsOf 3=1:=by kernel_rfl
     simp [k2] at g0 g1
     obtain ⟨z0,hz0,-,hw0⟩:=DataW.trod_int Try.underlying3 g0
     obtain ⟨z1,hz1,-,hw1⟩:=DataW.trod_int Try.underlying3 g1
     obtain rfl:v0 = .int .i64 z0:=by simpa using hz0
     obtain rfl:v1 = .int .i64 z1:=by simpa using hz1
     have e0:=hcell 0 (by omega)
     have e1:=hcell 1 (by omega)
     rw [Addr.add_mid,Addr.add_mid] at e0 e1
     refine ⟨(z0,z1),block_lt_of_cell (by simpa using e0),by simpa using e0,by simpa using e1,?_,?_⟩
     · simpa [Lit.wf,IntKind.min,IntKind.max,IntKind.signed,IntKind.bits] using hw0
     · simpa [Lit.wf,IntKind.min,IntKind.max,IntKind.signed,IntKind.bits] using hw1
   obtain ⟨q,hq⟩:=Deep.choose_lt (α:=Int × Int) each
   exact ⟨some ⟨b,off,none⟩,len,cap,fun i=>(q i).1,fun i=>(q i).2,rfl,hcnt,⟨fun i hi=>⟨b,off,rfl,(hq i hi).1,(hq i hi).2.1,(hq i hi).2.2.1⟩,fun i hi=>(hq i hi).2.2.2⟩⟩
end Go.Proofs.Ytibgjjbnehhanaa
namespace Go.Proofs.Ytibgjjbnehhanaa
open Go.RowKit
theorem rowL {w:World} {g n cap:Nat} {X:Nat→Nat} {Y:Nat→Nat} (h:RowAt .u8 w g 0 (n+2) (cat n X Y)) (hc:n+2≤cap):BytesIn w (.slice (some ⟨g,0,none⟩) n cap) n X :=
 .inr ⟨g,0,cap,rfl,block_lt_of_cell (h 0 (by omega)).1,by omega,fun j hj=>by rw [(h j (by omega)).1,cat_left hj]⟩
end Go.Proofs.Ytibgjjbnehhanaa
namespace Go.Proofs.Ytibgjjbnehhanaa
open Go.RowKit
theorem vecD_said {L:Nat} {B:Nat→Nat} {r:Rd} (lB:∀ j,B j<256) (hr:r.e=0) (hl:r.at_≤L) (h:(vecD L B r).2.e=0):(vecD L B r).1≤65536∧(vecD L B r).2.at_=r.at_+vcL (vecD L B r).1∧(vecD L B r).2.at_≤L∧∀ j,j<vcL (vecD L B r).1→B (r.at_+j)=vcB (vecD L B r).1 (fun j=>B ((lenD L B r).2.at_+j)) j:=by
 have hs:=lenD_said (L:=L) (r:=r) lB hr hl
 obtain ⟨p,hp⟩:∃ p,p=vecD L B r:=⟨_,rfl⟩
 rw [←hp] at h ⊢
 unfold vecD at hp
 obtain ⟨⟨n,s⟩,hq⟩:∃ q,q=lenD L B r:=⟨_,rfl⟩
 rw [←hq] at hp hs ⊢
 dsimp only at hp hs ⊢
 by_cases h1:s.e=0∧65536<n
 · rw [if_pos h1] at hp
   have e1:takD L (n:Int) ⟨s.at_,21⟩=(0,⟨s.at_,21⟩):=by unfold takD;exact if_pos (fun e=>by cases e)
   rw [e1,if_pos (show (21:Int)≠0 by decide)] at hp
   subst hp;cases h
 rw [if_neg h1] at hp
 by_cases he:s.e≠0
 · have e1:takD L (n:Int) s=(0,s):=by unfold takD;exact if_pos he
   rw [e1,if_pos he] at hp
   subst hp;exact absurd h he
 replace he:s.e=0:=Decidable.not_not.mp he
 obtain ⟨g1,g2,g3,g4⟩:=hs he
 have hn:n≤65536:=by omega
 by_cases h2:(L:Int) - (s.at_:Int)<(n:Int)
 · have e1:takD L (n:Int) s=(0,⟨s.at_,20⟩):=by
    unfold takD;rw [if_neg (fun e=>e he),if_neg (by omega),if_pos h2]
   rw [e1,if_pos (show (20:Int)≠0 by decide)] at hp
   subst hp;cases h
 have e1:takD L (n:Int) s=(n,⟨s.at_+n,0⟩):=by
  unfold takD;rw [if_neg (fun e=>e he),if_neg (by omega),if_neg h2,Int.toNat_natCast]
 rw [e1,if_neg (fun e=>e rfl)] at hp
 subst hp
 dsimp only
 refine ⟨hn,by unfold vcL;omega,by omega,fun j hj => ?_⟩
 unfold vcB
 by_cases hj':j<lnS n
 · rw [cat_left hj',g4 j hj']
 · unfold cat
   rw [if_neg hj',g2]
   show B (r.at_+j)=B (r.at_+lnS n+(j - lnS n))
   rw [show r.at_+lnS n+(j - lnS n)=r.at_+j by omega]
def vst (L:Nat) (B:Nat→Nat):Nat→Rd
 | 0=>⟨0,0⟩
 | i+1=>(vecD L B (vst L B i)).2
def vln (L:Nat) (B:Nat→Nat) (i:Nat):Nat:=(vecD L B (vst L B i)).1
def vbt (L:Nat) (B:Nat→Nat) (i:Nat):Nat→Nat:=fun j=>B ((lenD L B (vst L B i)).2.at_+j)
theorem vst_said {L:Nat} {B:Nat→Nat} (lB:∀ j,B j<256):∀ i,(∀ k,k≤i→(vst L B k).e=0)→(vst L B i).at_=vsL (vln L B) i∧(vst L B i).at_≤L∧(∀ k,k<i→vln L B k≤65536)∧∀ j,j<vsL (vln L B) i→B j=vsB (vln L B) (vbt L B) i j
 | 0,_=>⟨rfl,Nat.zero_le _,fun k hk=>absurd hk (Nat.not_lt_zero _),fun j hj=>absurd hj (Nat.not_lt_zero _)⟩
 | i+1,h=>by
  obtain ⟨h1,h2,h3,h4⟩:=vst_said lB i (fun k hk=>h k (by omega))
  obtain ⟨g1,g2,g3,g4⟩:=vecD_said (L:=L) (r:=vst L B i) lB (h i (by omega)) h2 (h (i+1) (Nat.le_refl _))
  have e:vsL (vln L B) (i+1)=vsL (vln L B) i+vcL (vln L B i):=rfl
  refine ⟨?_,g3,fun k hk => ?_,fun j hj => ?_⟩
  · show (vecD L B (vst L B i)).2.at_=_
    rw [g2,h1];rfl
  · by_cases hk':k=i
    · subst hk';exact g1
    · exact h3 k (by omega)
  · show B j=cat (vsL (vln L B) i) (vsB (vln L B) (vbt L B) i) (vcB (vln L B i) (vbt L B i)) j
    by_cases hj':j<vsL (vln L B) i
    · rw [cat_left hj',h4 j hj']
    · have:=g4 (j - vsL (vln L B) i) (by show _<vcL (vln L B i);omega)
      rw [h1,show vsL (vln L B) i+(j - vsL (vln L B) i)=j by omega] at this
      unfold cat
      rw [if_neg hj']
      exact this
end Go.Proofs.Ytibgjjbnehhanaa
namespace Go.Proofs.Ytibgjjbnehhanaa
open Go.RowKit
def OwnL (base:Nat) (w:World) (v:Value) (n:Nat) (pv:Nat→Value):Prop:=w.ownsRow base 22 1 v n ((List.range n).map pv)
theorem OwnL.nil (base:Nat) (w:World) (pv:Nat→Value):OwnL base w (.slice none 0 0) 0 pv:=World.ownsRow_nil w base _ _
theorem OwnL.slice {base:Nat} {w:World} {v:Value} {n:Nat} {pv:Nat→Value} (h:OwnL base w v n pv):∃ x c,v = .slice x n c:=by
 rcases h.2 with ⟨rfl,rfl⟩ | ⟨g,cap,cur,rfl,_⟩
 · exact ⟨_,_,rfl⟩
 · exact ⟨_,_,rfl⟩
theorem own_out {base e:Nat} {w w':World} {v:Value} {n size:Nat} {xs:List Value} (h:w.ownsRow base e size v n xs) {b o k:Nat} (ho:Out b o k w w') (hb:b<base):w'.ownsRow base e size v n xs :=
 h.kept (row:=some b) ⟨ho.os,ho.tape,ho.output,ho.size,fun c hc hne=>ho.block c hc (fun e=>hne (by rw [e]))⟩ (by
  cases hv:v.ownBlock with
  | none=>exact .inl rfl
  | some c=>exact .inr (fun e=>by have:=(h.lt c hv).1;cases e;omega))
structure LsIn (base:Nat) (w:World) (v:Value) (n:Nat) (pv:Nat→Value) (pn:Nat→Nat) (pb:Nat→Nat→Nat):Prop where
 list:OwnL base w v n pv
 each:∀ i,i<n→Own base w (pv i) (pn i) (pb i)
theorem LsIn.below {base:Nat} {w w':World} {v:Value} {n:Nat} {pv:Nat→Value} {pn:Nat→Nat} {pb:Nat→Nat→Nat} (h:LsIn base w v n pv pn pb) (hb:Below w.heap.size w w'):LsIn base w' v n pv pn pb :=
 ⟨own_below h.list hb,fun i hi=>own_below (h.each i hi) hb⟩
theorem LsIn.out {base:Nat} {w w':World} {v:Value} {n:Nat} {pv:Nat→Value} {pn:Nat→Nat} {pb:Nat→Nat→Nat} (h:LsIn base w v n pv pn pb) {b o k:Nat} (ho:Out b o k w w') (hb:b<base):LsIn base w' v n pv pn pb :=
 ⟨own_out h.list ho hb,fun i hi=>own_out (h.each i hi) ho hb⟩
end Go.Proofs.Ytibgjjbnehhanaa
namespace Go.Proofs.Ytibgjjbnehhanaa
open Go.RowKit
theorem OwnL.congr {base:Nat} {w:World} {v:Value} {n:Nat} {pv pv':Nat→Value} (h:OwnL base w v n pv) (e:∀ i,i<n→pv i=pv' i):OwnL base w v n pv':=by
 have e':(List.range n).map pv=(List.range n).map pv':=List.map_congr_left fun i hi=>e i (List.mem_range.1 hi)
 unfold OwnL
 rw [←e']
 exact h
theorem vst_le {L:Nat} {B:Nat→Nat} (lB:∀ j,B j<256):∀ i,(∀ k,k≤i→(vst L B k).e=0)→i≤(vst L B i).at_
 | 0,_=>Nat.zero_le _
 | i+1,h=>by
  have ih:=vst_le lB i (fun k hk=>h k (by omega))
  obtain ⟨h1,h2,-,-⟩:=vst_said lB i (fun k hk=>h k (by omega))
  obtain ⟨g1,g2,g3,g4⟩:=vecD_said (L:=L) (r:=vst L B i) lB (h i (by omega)) h2 (h (i+1) (Nat.le_refl _))
  show i+1≤(vecD L B (vst L B i)).2.at_
  have:=lnS_pos (vecD L B (vst L B i)).1
  unfold vcL at g2
  omega
def Till (L:Nat) (B:Nat→Nat) (q:Nat):Prop:=∀ k,k<q→(vst L B k).e=0∧(vst L B k).at_<L
theorem Till.le {L:Nat} {B:Nat→Nat} (lB:∀ j,B j<256) {q:Nat} (h:Till L B q):q≤L:=by
 match q,h with
 | 0,_=>exact Nat.zero_le _
 | q+1,h =>
  have h1:=(h q (Nat.lt_succ_self _)).2
  have h2:=vst_le lB q (fun k hk=>(h k (by omega)).1)
  omega
end Go.Proofs.Ytibgjjbnehhanaa
namespace Go.Proofs.Ytibgjjbnehhanaa
open Go.RowKit
theorem PiecesIn.at_ {w:World} {xo:Option Addr} {cnt:Nat} {pv:Nat→Value} {pn:Nat→Nat} {pb:Nat→Nat→Nat} (h:PiecesIn w xo cnt pv pn pb) {q:Nat} (hq:q<cnt):∃ lb lo,xo=some ⟨lb,lo,none⟩∧(∀ w',Below w.heap.size w w'→w'.cell? ⟨lb,lo+q,none⟩=some (pv q))∧∀ w',Below w.heap.size w w'→(convert 22 9 (pv q)).run Try.prog w' = .ok (.string (strB (pn q) (pb q))) w':=by
 obtain ⟨lb,lo,e,hc⟩:=h.cell q hq
 exact ⟨lb,lo,e,fun w' hb=>(hb.cell (p:=⟨lb,lo+q,none⟩) (block_lt_of_cell (hc q hq))).trans (hc q hq),fun w' hb=>(h.each q hq).conv (h.byte q) w' hb⟩
theorem exec_conv {o:Oper} {a:Act} {w:World} {s:ByteArray} (x:Operand) (ho:o.op = .convert 22 9 x) {v:Value} (hx:a.eval x=v) (h:(convert 22 9 v).run Try.prog w = .ok (.string s) w):(execOp a.eval o).run Try.prog w = .ok (.value (.string s)) w:=by
 simp [execOp,ho,hx,h,Result.andThen]
end Go.Proofs.Ytibgjjbnehhanaa
namespace Go.Proofs.Ytibgjjbnehhanaa
open Go.RowKit
def RowV (w:World) (m:Nat) (x:Option Addr) (n:Nat):Prop:=n=0∨∃ g,x=some ⟨g,0,none⟩∧m≤g∧∃ Y,RowAt .u8 w g 0 n Y
theorem takD_le (L:Nat) (n:Int) (r:Rd):(takD L n r).1≤L:=by
 unfold takD
 split
 · exact Nat.zero_le _
 · split
   · exact Nat.zero_le _
   · split
     · exact Nat.zero_le _
     · show n.toNat≤L
       omega
theorem vecD_le (L:Nat) (B:Nat→Nat) (r:Rd):(vecD L B r).1≤L:=by
 unfold vecD
 dsimp only
 generalize (if (lenD L B r).2.e=0∧65536<(lenD L B r).1 then (⟨(lenD L B r).2.at_,21⟩:Rd) else (lenD L B r).2)=q
 split
 · exact Nat.zero_le _
 · exact takD_le _ _ _
set_option maxRecDepth 20000 in
set_option maxHeartbeats 8000000 in
theorem codecReads_any (v:Value) (n:Nat) (b:Nat→Nat) (lB:∀ j,b j<256) (hn:n<140737488355000) (xo:Option Addr) (cnt cap:Nat) (kd nn:Nat→Int) (hcnt:cnt<140737488355000) (w:World) (hv:BytesIn w v n b) (ho:Ops2 w xo cnt kd nn) :
 Calls Try.prog 5 #[v,.slice xo cnt cap] w fun e w'=>e = .returned (.bool true)∧Below w.heap.size w w':=by
 have cL:=lent_any v n b w hv hn
 have c1:=fun (x:Value) (W:World) (h:BytesIn W x n b)=>cNew_any x n b hn W h
 have c2:=fun W hb=>rNewB_any v n b hn W (hv.keep hb)
 have HO:=Hid.mk' ho
 clear hv ho
 go_enter Try.func5,Try.ntmps5
 go_wp2_with (first
  | (go_at_call 10;refine cL.mono ?_;clear cL;rintro e w1 ⟨gx,cx,rfl,hcap,hgx,hrow,b1⟩;(have hgl:=block_lt_of_cell (hrow 0 (by omega)).1);(have c1:=c1 _ w1 (rowL hrow hcap)))
  | (go_at_call 22;refine c1.mono ?_;clear c1;rintro e w2 ⟨g,rfl,hr2,b2⟩;(have c2:=c2 w2 (below_next b1 b2)))
  | (go_at_call 23;refine c2.mono ?_;clear c2;rintro e w3 ⟨k,rfl,hr3,b3⟩;(have hT:Two w.heap.size w1.heap.size w2.heap.size w3.heap.size w3 g k n b ⟨0,0⟩:=⟨hr2.still b3,hr3,b1.size⟩);(have hX:RowAt .u8 w3 gx 0 n b:=fun j hj=>by (have hh:=(hrow.below (below_next b2 b3) hgl) j (by omega));rw [cat_left hj] at hh;exact hh);(have bW:=below_next b1 (below_next b2 b3));clear hr2 hr3 hrow b1 b2 b3;(obtain ⟨lo,hlo⟩:∃ z,z=w1.heap.size:=⟨_,rfl⟩);(obtain ⟨hi,hhi⟩:∃ z,z=w2.heap.size:=⟨_,rfl⟩);(obtain ⟨hj,hhj⟩:∃ z,z=w3.heap.size:=⟨_,rfl⟩);rw [←hlo,←hhi,←hhj] at hT;rw [←hlo] at hgl;clear hlo hhi hhj;(have hgw:gx<w3.heap.size:=Nat.lt_of_lt_of_le hgl (Nat.le_trans hT.code.ge (Nat.le_of_lt hT.code.lt))))
  | (go_at_call 19;refine (knows11 _).mono ?_;rintro e w4 ⟨rfl,b4⟩;(replace hT:=hT.still b4);(replace hX:=hX.below b4 hgw);(replace bW:=below_next bW b4);clear b4))
 go_loopw [8] (fun i W=>∃ (q:Nat) (X:Nat→Nat),q≤n∧i = .int .i64 q∧RowAt .u8 W gx 0 n X∧Two w.heap.size lo hi hj W g k n b ⟨0,0⟩∧Below w.heap.size w W) (fun i _=>n - (intOf i).toNat)
 case atStart=>exact ⟨0,b,Nat.zero_le _,rfl,hX,hT,bW⟩
 case round =>
  clear hX hT bW
  obtain ⟨q,X,hq,rfl,hX,hT,bW⟩:=hrel
  by_cases hqn:q<n
  · obtain ⟨r1,r2⟩:=hX q hqn
    have hst:=hX.set (i:=q) hqn (v:=(((X q+1)%256:Nat):Int)) rfl
    rw [Nat.zero_add] at r1 r2 hst
    have e1:IntKind.u8.wrap ((X q:Int)+1)=(((X q+1)%256:Nat):Int):=by show ((X q:Int)+1)%256=_;omega
    have hT2:=hT.same (SameIn.of_out (Out.setCell (b:=gx) (o:=0) (n:=n) _ (.int .u8 (((X q+1)%256:Nat):Int)) (Nat.zero_le _) (show q<0+n by omega)) (.inl hgl) hT.ref.size)
    have bW2:Below w.heap.size w (wr.setCell ⟨gx,q,none⟩ (.int .u8 (((X q+1)%256:Nat):Int))):=bW.setCell hgx _
    obtain ⟨y,hy⟩:∃ y,y=(X q+1)%256:=⟨_,rfl⟩
    obtain ⟨x,hx⟩:∃ x,x=X q:=⟨_,rfl⟩
    rw [←hy] at e1 hst hT2 bW2
    rw [←hx] at e1 r1
    have t0:(q:Int)<(n:Int):=by omega
    have t1:(0:Int)≤(q:Int)∧(q:Int)<(n:Int):=by omega
    clear hy hx hX hT bW
    go_wp2
    go_roundw
    case rel=>exact ⟨q+1,_,hqn,by go_num,hst,hT2,bW2⟩
    case measure=>simp [intOf];omega
  · obtain rfl:q=n:=by omega
    have t0:¬(q:Int)<(q:Int):=by omega
    obtain ⟨w0,hw0⟩:∃ w0:World,w0=wr:=⟨_,rfl⟩
    subst hw0
    clear hX
    go_wp2
    go_loopw [9] (fun i W=>∃ (p:Nat) (r:Rd),p≤cnt∧i = .int .i64 p∧Two w.heap.size lo hi hj W g k q b r∧Below w.heap.size w W) (fun i _=>cnt - (intOf i).toNat)
    case atStart=>exact ⟨0,_,Nat.zero_le _,rfl,hT,bW⟩
    case round =>
     clear hT bW
     obtain ⟨p,r,hp,rfl,hT,bW⟩:=hrel
     by_cases hlt:p<cnt
     · obtain ⟨lb,ll,rfl,hll,f0,f1⟩:=(HO.out.keep bW).cells p hlt
       obtain ⟨w5,hw5⟩:∃ w5:World,w5=wr:=⟨_,rfl⟩
       subst hw5
       have hlow:=hT.low
       have hhj:hj≤w5.heap.size:=hT.ref.size
       have hkj:k<hj:=hT.ref.lt
       have hwj:w.heap.size≤hj:=Nat.le_trans (Nat.le_trans (Nat.le_trans hlow hT.code.ge) (Nat.le_of_lt hT.code.choose_spec.2.2.2.1.2)) (Nat.le_trans hT.ref.ge (Nat.le_of_lt hkj))
       have hlw:lb<w.heap.size:=by
        obtain ⟨lb',lo',e,h,-,-⟩:=HO.out.cells p hlt
        cases e
        exact h
       have t0:(p:Int)<(cnt:Int):=by omega
       have t1:(0:Int)≤(p:Int)∧(p:Int)<(cnt:Int):=by omega
       have f1x:∀ W,Below w.heap.size w W→W.cell? ⟨lb,ll+p*2+1,none⟩=some (.int .i64 (nn p)):=fun W hW=>(hW.cell (p:=⟨lb,ll+p*2+1,none⟩) hlw).trans ((bW.cell (p:=⟨lb,ll+p*2+1,none⟩) hlw).symm.trans f1)
       obtain ⟨kq,hkq⟩:∃ x,x=kd p:=⟨_,rfl⟩
       obtain ⟨nq,hnq⟩:∃ x,x=nn p:=⟨_,rfl⟩
       rw [←hkq] at f0
       rw [←hnq] at f1 f1x
       clear hkq hnq
       by_cases k0:kq=0
       · subst k0
         have bd0:Below w5.heap.size w5 w5.drew:=(Below.refl _ _).drew
         have T0:=hT.still bd0
         have bW0:=below_next bW bd0
         have d1:=cNumR_any lo hi g q b lB r nq _ T0.code
         obtain ⟨R,hR⟩:∃ R,R=(numD q b nq r).2:=⟨_,rfl⟩
         obtain ⟨Z,hZ⟩:∃ Z:Int,Z=(((numD q b nq r).1:Nat):Int):=⟨_,rfl⟩
         have d2:=fun W h=>rNumB_any hi hj k q b lB r nq hn W h
         rw [←hR,←hZ] at d1 d2
         clear hR hZ
         go_upto_region 17 with (fail)
         refine wp_region_held_drew (S:=fun u=>Below w.heap.size w u) (by kernel_rfl) bW0 (fun hS => ?_)
         refine tg 0 hS ?_
         (try simp only [pS])
         refine tg 1 hS ?_
         (try simp only [pS])
         refine tg 2 hS ?_
         (try simp only [pS])
         refine tg 3 hS ?_
         (try simp only [pS])
         refine tg 4 hS ?_
         (try simp only [pS])
         refine tc 5 hS (fun u hu=>f1x u hu) ?_
         (try simp only [pS])
         refine tg 7 hS ?_
         (try simp only [pS])
         refine tg 8 hS ?_
         (try simp only [pS])
         refine tg 9 hS ?_
         (try simp only [pS])
         refine tg 10 hS ?_
         (try simp only [pS])
         refine tg 11 hS ?_
         (try simp only [pS])
         refine tc 12 hS (fun u hu=>f1x u hu) ?_
         (try simp only [pS])
         refine cl 6 d1 ?_
         rintro e v1 ⟨rfl,x1,o1⟩
         obtain ⟨y1,n1⟩:=T0.half o1
         replace hS:=bW0.trans n1
         refine ⟨_,rfl,hS,?_⟩
         (try simp only [pS])
         refine cl 13 (d2 v1 y1) ?_
         rintro e v2 ⟨rfl,y2,o2⟩
         obtain ⟨T2,n2⟩:=Two.whole hlow x1 y2 o2
         replace hS:=hS.trans n2
         refine ⟨_,rfl,hS,?_⟩
         (try simp only [pS])
         refine tg 14 hS (v := .bool true) ?_
         (try simp only [pS])
         refine tg 15 hS ?_
         (try simp only [pS])
         refine wpAnyH_done (by kernel_rfl) ?_ _
         clear d2
         obtain ⟨W,hW⟩:∃ W,W=v2.drew:=⟨_,rfl⟩
         have bd:Below v2.heap.size v2 W:=by rw [hW];exact (Below.refl _ _).drew
         have T9:=Hid.mk' (T2.still bd)
         have bW9:=below_next hS bd
         have q0:=fun u (hu:Below W.heap.size W u)=>cLeft_any lo hi g q b R u (T9.out.code.still hu)
         have q1:=fun u (hu:Below W.heap.size W u)=>rLeft11_any k q b R hn u (T9.out.ref.of.keep hu)
         have q2:=fun u (hu:Below W.heap.size W u)=>cErr_any lo hi g q b R u (T9.out.code.still hu)
         have q3:=fun u (hu:Below W.heap.size W u)=>cEnd_any lo hi g q b R u (T9.out.code.still hu)
         have q4:=fun u (hu:Below W.heap.size W u)=>rEndR_any k q b R hn u (T9.out.ref.of.keep hu)
         have q5:=fun u (hu:Below W.heap.size W u)=>(T9.out.ref.of.keep hu).f2.1
         generalize ((q:Int) - ((R).at_:Int))=z1 at *
         generalize (R).e=z2 at *
         generalize endD q (R)=z3 at *
         go_upto_region 27 with (fail)
         refine wp_region_held_drew (S:=fun u=>Below W.heap.size W u) (by kernel_rfl) (by rw [←hW];exact Below.refl _ _) (fun hS => ?_)
         rw [←hW] at hS ⊢
         clear hW
         refine tg 0 hS ?_
         (try simp only [pS])
         refine tg 1 hS ?_
         (try simp only [pS])
         refine tg 2 hS ?_
         (try simp only [pS])
         refine tg 3 hS ?_
         (try simp only [pS])
         refine tg 5 hS ?_
         (try simp only [pS])
         refine cl 4 (q0 _ hS) ?_
         rintro e u1 ⟨rfl,hu⟩
         obtain rfl:=hu.symm
         refine ⟨_,rfl,hS,?_⟩
         (try simp only [pS])
         refine cl 6 (q1 _ hS) ?_
         rintro e u2 ⟨rfl,hu⟩
         replace hS:=below_next hS hu
         refine ⟨_,rfl,hS,?_⟩
         (try simp only [pS])
         refine tg 7 hS (v := .bool false) ?_
         (try simp only [pS])
         refine tg 8 hS ?_
         (try simp only [pS])
         refine tg 9 hS ?_
         (try simp only [pS])
         refine tg 10 hS ?_
         (try simp only [pS])
         refine tg 13 hS ?_
         (try simp only [pS])
         refine tg 14 hS ?_
         (try simp only [pS])
         refine tg 15 hS ?_
         (try simp only [pS])
         refine tc 16 hS (fun u hu=>q5 u hu) ?_
         (try simp only [pS])
         refine cl 11 (q2 _ hS) ?_
         rintro e u3 ⟨rfl,hu⟩
         obtain rfl:=hu.symm
         refine ⟨_,rfl,hS,?_⟩
         (try simp only [pS])
         refine cl 12 (num11_any z2 _) ?_
         rintro e u4 ⟨rfl,hu⟩
         subst hu
         refine ⟨_,rfl,hS,?_⟩
         (try simp only [pS])
         refine tg 17 hS (v := .bool false) ?_
         (try simp only [pS])
         refine tg 18 hS ?_
         (try simp only [pS])
         refine tg 19 hS ?_
         (try simp only [pS])
         refine tg 20 hS ?_
         (try simp only [pS])
         refine tg 23 hS ?_
         (try simp only [pS])
         refine cl 21 (q3 _ hS) ?_
         rintro e u5 ⟨rfl,hu⟩
         obtain rfl:=hu.symm
         refine ⟨_,rfl,hS,?_⟩
         (try simp only [pS])
         refine cl 22 (num11_any z3 _) ?_
         rintro e u6 ⟨rfl,hu⟩
         subst hu
         refine ⟨_,rfl,hS,?_⟩
         (try simp only [pS])
         refine cl 24 (q4 _ hS) ?_
         rintro e u7 ⟨rfl,hu⟩
         replace hS:=below_next hS hu
         refine ⟨_,rfl,hS,?_⟩
         (try simp only [pS])
         refine tg 25 hS (v := .bool false) ?_
         (try simp only [pS])
         refine tg 26 hS ?_
         (try simp only [pS])
         refine wpAnyH_done (by kernel_rfl) ?_ _
         go_wp2
         go_roundw
         case rel=>exact ⟨p+1,R,hlt,by go_num,T9.out.still hS,below_next bW9 hS⟩
         case measure=>simp [intOf];omega
       by_cases k1:kq=1
       · subst k1
         have d1:=cLenR_any lo hi g q b lB r _ hT.code
         obtain ⟨R,hR⟩:∃ R,R=(lenD q b r).2:=⟨_,rfl⟩
         obtain ⟨Z,hZ⟩:∃ Z:Int,Z=(((lenD q b r).1:Nat):Int):=⟨_,rfl⟩
         have d2:=fun W h=>rLenB_any hi hj k q b lB r hn W h
         rw [←hR,←hZ] at d1 d2
         clear hR hZ
         go_upto_region 27 with (first
          | (go_at_call 26;refine d1.mono ?_;clear d1;rintro e v1 ⟨rfl,x1,o1⟩;(obtain ⟨y1,n1⟩:=hT.half o1);(have d2:=d2 v1 y1))
          | (go_at_call 27;refine d2.mono ?_;clear d2;rintro e v2 ⟨rfl,y2,o2⟩;(obtain ⟨T2,n2⟩:=Two.whole hlow x1 y2 o2)))
         obtain ⟨W,hW⟩:∃ W,W=v2.drew:=⟨_,rfl⟩
         have bd:Below v2.heap.size v2 W:=by rw [hW];exact (Below.refl _ _).drew
         have T9:=Hid.mk' (T2.still bd)
         have bW9:=below_next ((bW.trans n1).trans n2) bd
         have q0:=fun u (hu:Below W.heap.size W u)=>cLeft_any lo hi g q b R u (T9.out.code.still hu)
         have q1:=fun u (hu:Below W.heap.size W u)=>rLeft11_any k q b R hn u (T9.out.ref.of.keep hu)
         have q2:=fun u (hu:Below W.heap.size W u)=>cErr_any lo hi g q b R u (T9.out.code.still hu)
         have q3:=fun u (hu:Below W.heap.size W u)=>cEnd_any lo hi g q b R u (T9.out.code.still hu)
         have q4:=fun u (hu:Below W.heap.size W u)=>rEndR_any k q b R hn u (T9.out.ref.of.keep hu)
         have q5:=fun u (hu:Below W.heap.size W u)=>(T9.out.ref.of.keep hu).f2.1
         generalize ((q:Int) - ((R).at_:Int))=z1 at *
         generalize (R).e=z2 at *
         generalize endD q (R)=z3 at *
         go_upto_region 27 with (fail)
         refine wp_region_held_drew (S:=fun u=>Below W.heap.size W u) (by kernel_rfl) (by rw [←hW];exact Below.refl _ _) (fun hS => ?_)
         rw [←hW] at hS ⊢
         clear hW
         refine tg 0 hS ?_
         (try simp only [pS])
         refine tg 1 hS ?_
         (try simp only [pS])
         refine tg 2 hS ?_
         (try simp only [pS])
         refine tg 3 hS ?_
         (try simp only [pS])
         refine tg 5 hS ?_
         (try simp only [pS])
         refine cl 4 (q0 _ hS) ?_
         rintro e u1 ⟨rfl,hu⟩
         obtain rfl:=hu.symm
         refine ⟨_,rfl,hS,?_⟩
         (try simp only [pS])
         refine cl 6 (q1 _ hS) ?_
         rintro e u2 ⟨rfl,hu⟩
         replace hS:=below_next hS hu
         refine ⟨_,rfl,hS,?_⟩
         (try simp only [pS])
         refine tg 7 hS (v := .bool false) ?_
         (try simp only [pS])
         refine tg 8 hS ?_
         (try simp only [pS])
         refine tg 9 hS ?_
         (try simp only [pS])
         refine tg 10 hS ?_
         (try simp only [pS])
         refine tg 13 hS ?_
         (try simp only [pS])
         refine tg 14 hS ?_
         (try simp only [pS])
         refine tg 15 hS ?_
         (try simp only [pS])
         refine tc 16 hS (fun u hu=>q5 u hu) ?_
         (try simp only [pS])
         refine cl 11 (q2 _ hS) ?_
         rintro e u3 ⟨rfl,hu⟩
         obtain rfl:=hu.symm
         refine ⟨_,rfl,hS,?_⟩
         (try simp only [pS])
         refine cl 12 (num11_any z2 _) ?_
         rintro e u4 ⟨rfl,hu⟩
         subst hu
         refine ⟨_,rfl,hS,?_⟩
         (try simp only [pS])
         refine tg 17 hS (v := .bool false) ?_
         (try simp only [pS])
         refine tg 18 hS ?_
         (try simp only [pS])
         refine tg 19 hS ?_
         (try simp only [pS])
         refine tg 20 hS ?_
         (try simp only [pS])
         refine tg 23 hS ?_
         (try simp only [pS])
         refine cl 21 (q3 _ hS) ?_
         rintro e u5 ⟨rfl,hu⟩
         obtain rfl:=hu.symm
         refine ⟨_,rfl,hS,?_⟩
         (try simp only [pS])
         refine cl 22 (num11_any z3 _) ?_
         rintro e u6 ⟨rfl,hu⟩
         subst hu
         refine ⟨_,rfl,hS,?_⟩
         (try simp only [pS])
         refine cl 24 (q4 _ hS) ?_
         rintro e u7 ⟨rfl,hu⟩
         replace hS:=below_next hS hu
         refine ⟨_,rfl,hS,?_⟩
         (try simp only [pS])
         refine tg 25 hS (v := .bool false) ?_
         (try simp only [pS])
         refine tg 26 hS ?_
         (try simp only [pS])
         refine wpAnyH_done (by kernel_rfl) ?_ _
         go_wp2
         go_roundw
         case rel=>exact ⟨p+1,R,hlt,by go_num,T9.out.still hS,below_next bW9 hS⟩
         case measure=>simp [intOf];omega
       by_cases k2:kq=2
       · subst k2
         have d1:=cVecR_any lo hi g q b lB r hn _ hT.code
         have d2:=fun W h=>rVecB_any hi hj k q b lB r hn W h
         obtain ⟨R,hR⟩:∃ R,R=(vecD q b r).2:=⟨_,rfl⟩
         obtain ⟨Z,hZ⟩:∃ Z,Z=(vecD q b r).1:=⟨_,rfl⟩
         have hZb:Z≤q:=by rw [hZ];exact vecD_le q b r
         obtain ⟨Y,hY⟩:∃ Y:Nat→Nat,Y=fun j=>b ((lenD q b r).2.at_+j):=⟨_,rfl⟩
         have lY:∀ j,Y j<256:=fun j=>by rw [hY];exact lB _
         obtain ⟨SS,hSS⟩:∃ S,S=strB Z Y:=⟨_,rfl⟩
         rw [←hR,←hZ,←hY] at d1 d2
         clear hR hZ hY
         go_upto_region 22 with (go_at_call 28;refine d1.mono ?_;clear d1;rintro e v1 ⟨vv,rfl,own1,x1,o1⟩;(obtain ⟨y1,n1⟩:=hT.half o1);(have hS1:=bW.trans n1);(have hs1:=o1.size);(obtain ⟨xx,cc,ex⟩:=own1.slice);subst ex)
         have bd1:Below v1.heap.size v1 v1.drew:=(Below.refl _ _).drew
         replace own1:=own1.below bd1
         replace y1:=y1.same (SameIn.of_below bd1 y1.size)
         replace x1:=x1.still bd1
         replace hS1:=below_next hS1 bd1
         have k1:(convert 22 9 (.slice xx Z cc)).run Try.prog v1.drew = .ok (.string SS) v1.drew:=by rw [hSS];exact (BytesIn.of_own own1).conv lY _ (Below.refl _ _)
         refine wp_region_held_drew (S:=fun u=>Below w.heap.size w u∧(convert 22 9 (.slice xx Z cc)).run Try.prog u = .ok (.string SS) u) (by kernel_rfl) ⟨hS1,k1⟩ (fun hS => ?_)
         refine tg 0 hS ?_
         (try simp only [pS])
         refine tg 1 hS (v := .string SS) ?_ (hy:=fun u hu=>exec_conv (.tmp 95) rfl rfl hu.2)
         (try simp only [pS])
         refine tg 2 hS ?_
         (try simp only [pS])
         refine cl 3 (d2 _ y1) ?_
         rintro e v2 ⟨vw,rfl,own2,y2,o2⟩
         obtain ⟨T2,n2⟩:=Two.whole hlow x1 y2 o2
         have hS2:=hS1.trans n2
         have own1b:Own w5.heap.size v2 (.slice xx Z cc) Z Y:=own_out own1 o2 (Nat.lt_of_lt_of_le hkj hhj)
         have k1b:(convert 22 9 (.slice xx Z cc)).run Try.prog v2 = .ok (.string SS) v2:=by rw [hSS];exact (BytesIn.of_own own1b).conv lY v2 (Below.refl _ _)
         have k2b:(convert 22 9 vw).run Try.prog v2 = .ok (.string SS) v2:=by rw [hSS];exact (BytesIn.of_own own2).conv lY v2 (Below.refl _ _)
         refine ⟨_,rfl,⟨hS2,k1b⟩,?_⟩
         (try simp only [pS])
         refine onlyV 4 (v := .string SS) (w':=v2) (exec_conv (.tmp 98) rfl rfl k2b) ⟨hS2,k1b⟩ ?_
         (try simp only [pS])
         refine tg 5 ⟨hS2,k1b⟩ (v := .bool true) ?_
         (try simp only [pS])
         refine tg 6 ⟨hS2,k1b⟩ ?_
         (try simp only [pS])
         refine wpAnyH_done (by kernel_rfl) ?_ _
         have hrv:RowV v2 hj xx Z:=by
          rcases own1b.form with ⟨e,e2⟩ | ⟨gv,cv,e,h1,h2,h3,h4⟩
          · exact .inl e2
          · cases e
            exact .inr ⟨gv,rfl,Nat.le_trans hhj h1,_,h4⟩
         have hZl:Z<140737488355000:=by
          have:=hZb
          omega
         clear d2 own1 own1b own2 k1 k1b k2b x1 y1 y2 hT hSS
         go_wp2
         go_loopw [12] (fun i W=>∃ j:Nat,j≤Z∧i = .int .i64 j∧RowV W hj xx Z∧Two w.heap.size lo hi hj W g k q b R∧Below w.heap.size w W) (fun i _=>Z - (intOf i).toNat)
         case atStart=>exact ⟨0,Nat.zero_le _,rfl,hrv,T2,hS2⟩
         case round =>
          clear hrv T2 hS2 n2 o2
          obtain ⟨j,hjz,rfl,hrv,T2,hS2⟩:=hrel
          by_cases hjl:j<Z
          · rcases hrv with e | ⟨gv,rfl,hgv,Y2,hY2⟩
            · omega
            obtain ⟨r1,r2⟩:=hY2 j hjl
            have hst:=hY2.set (i:=j) hjl (v:=0) (u:=0) rfl
            rw [Nat.zero_add] at r1 r2 hst
            have T3:=T2.same (SameIn.of_out (Out.setCell (b:=gv) (o:=0) (n:=Z) _ (.int .u8 0) (Nat.zero_le _) (show j<0+Z by omega)) (.inr hgv) T2.ref.size)
            have bW3:Below w.heap.size w (wr.setCell ⟨gv,j,none⟩ (.int .u8 0)):=hS2.setCell (Nat.le_trans hwj hgv) _
            obtain ⟨x,hx⟩:∃ x,x=Y2 j:=⟨_,rfl⟩
            rw [←hx] at r1
            have u0:(j:Int)<(Z:Int):=by omega
            have u1:(0:Int)≤(j:Int)∧(j:Int)<(Z:Int):=by omega
            clear hx hY2 T2 hS2
            go_wp2
            go_roundw
            case rel=>exact ⟨j+1,hjl,by go_num,.inr ⟨gv,rfl,hgv,_,hst⟩,T3,bW3⟩
            case measure=>simp [intOf];omega
          · obtain rfl:j=Z:=by omega
            have u0:¬(j:Int)<(j:Int):=by omega
            clear hrv
            obtain ⟨W,hW⟩:∃ W,W=wr.drew:=⟨_,rfl⟩
            have bd:Below wr.heap.size wr W:=by rw [hW];exact (Below.refl _ _).drew
            have T9:=Hid.mk' (T2.still bd)
            have bW9:=below_next hS2 bd
            have q0:=fun u (hu:Below W.heap.size W u)=>cLeft_any lo hi g q b R u (T9.out.code.still hu)
            have q1:=fun u (hu:Below W.heap.size W u)=>rLeft11_any k q b R hn u (T9.out.ref.of.keep hu)
            have q2:=fun u (hu:Below W.heap.size W u)=>cErr_any lo hi g q b R u (T9.out.code.still hu)
            have q3:=fun u (hu:Below W.heap.size W u)=>cEnd_any lo hi g q b R u (T9.out.code.still hu)
            have q4:=fun u (hu:Below W.heap.size W u)=>rEndR_any k q b R hn u (T9.out.ref.of.keep hu)
            have q5:=fun u (hu:Below W.heap.size W u)=>(T9.out.ref.of.keep hu).f2.1
            generalize ((q:Int) - ((R).at_:Int))=z1 at *
            generalize (R).e=z2 at *
            generalize endD q (R)=z3 at *
            go_upto_region 27 with (fail)
            refine wp_region_held_drew (S:=fun u=>Below W.heap.size W u) (by kernel_rfl) (by rw [←hW];exact Below.refl _ _) (fun hS => ?_)
            rw [←hW] at hS ⊢
            clear hW
            refine tg 0 hS ?_
            (try simp only [pS])
            refine tg 1 hS ?_
            (try simp only [pS])
            refine tg 2 hS ?_
            (try simp only [pS])
            refine tg 3 hS ?_
            (try simp only [pS])
            refine tg 5 hS ?_
            (try simp only [pS])
            refine cl 4 (q0 _ hS) ?_
            rintro e u1 ⟨rfl,hu⟩
            obtain rfl:=hu.symm
            refine ⟨_,rfl,hS,?_⟩
            (try simp only [pS])
            refine cl 6 (q1 _ hS) ?_
            rintro e u2 ⟨rfl,hu⟩
            replace hS:=below_next hS hu
            refine ⟨_,rfl,hS,?_⟩
            (try simp only [pS])
            refine tg 7 hS (v := .bool false) ?_
            (try simp only [pS])
            refine tg 8 hS ?_
            (try simp only [pS])
            refine tg 9 hS ?_
            (try simp only [pS])
            refine tg 10 hS ?_
            (try simp only [pS])
            refine tg 13 hS ?_
            (try simp only [pS])
            refine tg 14 hS ?_
            (try simp only [pS])
            refine tg 15 hS ?_
            (try simp only [pS])
            refine tc 16 hS (fun u hu=>q5 u hu) ?_
            (try simp only [pS])
            refine cl 11 (q2 _ hS) ?_
            rintro e u3 ⟨rfl,hu⟩
            obtain rfl:=hu.symm
            refine ⟨_,rfl,hS,?_⟩
            (try simp only [pS])
            refine cl 12 (num11_any z2 _) ?_
            rintro e u4 ⟨rfl,hu⟩
            subst hu
            refine ⟨_,rfl,hS,?_⟩
            (try simp only [pS])
            refine tg 17 hS (v := .bool false) ?_
            (try simp only [pS])
            refine tg 18 hS ?_
            (try simp only [pS])
            refine tg 19 hS ?_
            (try simp only [pS])
            refine tg 20 hS ?_
            (try simp only [pS])
            refine tg 23 hS ?_
            (try simp only [pS])
            refine cl 21 (q3 _ hS) ?_
            rintro e u5 ⟨rfl,hu⟩
            obtain rfl:=hu.symm
            refine ⟨_,rfl,hS,?_⟩
            (try simp only [pS])
            refine cl 22 (num11_any z3 _) ?_
            rintro e u6 ⟨rfl,hu⟩
            subst hu
            refine ⟨_,rfl,hS,?_⟩
            (try simp only [pS])
            refine cl 24 (q4 _ hS) ?_
            rintro e u7 ⟨rfl,hu⟩
            replace hS:=below_next hS hu
            refine ⟨_,rfl,hS,?_⟩
            (try simp only [pS])
            refine tg 25 hS (v := .bool false) ?_
            (try simp only [pS])
            refine tg 26 hS ?_
            (try simp only [pS])
            refine wpAnyH_done (by kernel_rfl) ?_ _
            go_wp2
            go_roundw
            case rel=>exact ⟨p+1,R,hlt,by go_num,T9.out.still hS,below_next bW9 hS⟩
            case measure=>simp [intOf];omega
       have bd0:Below w5.heap.size w5 w5.drew:=(Below.refl _ _).drew
       have T0:=hT.still bd0
       have bW0:=below_next bW bd0
       have d1:=cTakR_any lo hi g q b r nq hn _ T0.code
       have d2:=fun W h=>rTakB_any hi hj k q b r nq hn W h
       obtain ⟨R,hR⟩:∃ R,R=(takD q nq r).2:=⟨_,rfl⟩
       obtain ⟨Z,hZ⟩:∃ Z,Z=(takD q nq r).1:=⟨_,rfl⟩
       obtain ⟨Y,hY⟩:∃ Y:Nat→Nat,Y=fun j=>b (r.at_+j):=⟨_,rfl⟩
       have lY:∀ j,Y j<256:=fun j=>by rw [hY];exact lB _
       obtain ⟨SS,hSS⟩:∃ S,S=strB Z Y:=⟨_,rfl⟩
       rw [←hR,←hZ,←hY] at d1 d2
       clear hR hZ hY
       go_upto_region 15 with (fail)
       refine wp_region_held_drew (S:=fun u=>Below w.heap.size w u) (by kernel_rfl) bW0 (fun hS => ?_)
       refine tg 0 hS ?_
       (try simp only [pS])
       refine tg 1 hS ?_
       (try simp only [pS])
       refine tg 2 hS ?_
       (try simp only [pS])
       refine tg 3 hS ?_
       (try simp only [pS])
       refine tg 4 hS ?_
       (try simp only [pS])
       refine tc 5 hS (fun u hu=>f1x u hu) ?_
       (try simp only [pS])
       refine tg 8 hS ?_
       (try simp only [pS])
       refine tg 9 hS ?_
       (try simp only [pS])
       refine tg 10 hS ?_
       (try simp only [pS])
       refine tg 11 hS ?_
       (try simp only [pS])
       refine tg 12 hS ?_
       (try simp only [pS])
       refine tc 13 hS (fun u hu=>f1x u hu) ?_
       (try simp only [pS])
       refine cl 6 d1 ?_
       rintro e v1 ⟨vv,rfl,own1,x1,o1⟩
       obtain ⟨y1,n1⟩:=T0.half o1
       replace hS:=bW0.trans n1
       have k1:(convert 22 9 vv).run Try.prog v1 = .ok (.string SS) v1:=by rw [hSS];exact (BytesIn.of_own own1).conv lY v1 (Below.refl _ _)
       refine ⟨_,rfl,hS,wpAnyH_narrow (S':=fun u=>Below w.heap.size w u∧(convert 22 9 vv).run Try.prog u = .ok (.string SS) u) (fun _ hu=>hu.1) _ _ _ _ ?_⟩
       (try simp only [pS])
       refine tg 7 ⟨hS,k1⟩ (v := .string SS) ?_ (hy:=fun u hu=>exec_conv (.tmp 56) rfl rfl hu.2)
       (try simp only [pS])
       refine cl 14 (d2 v1 y1) ?_
       rintro e v2 ⟨vw,rfl,own2,y2,o2⟩
       obtain ⟨T2,n2⟩:=Two.whole hlow x1 y2 o2
       replace hS:=hS.trans n2
       have own1b:Own w5.drew.heap.size v2 vv Z Y:=own_out own1 o2 (Nat.lt_of_lt_of_le hkj hhj)
       have k1b:(convert 22 9 vv).run Try.prog v2 = .ok (.string SS) v2:=by rw [hSS];exact (BytesIn.of_own own1b).conv lY v2 (Below.refl _ _)
       have k2b:(convert 22 9 vw).run Try.prog v2 = .ok (.string SS) v2:=by rw [hSS];exact (BytesIn.of_own own2).conv lY v2 (Below.refl _ _)
       refine ⟨_,rfl,⟨hS,k1b⟩,?_⟩
       (try simp only [pS])
       refine onlyV 15 (v := .string SS) (w':=v2) (exec_conv (.tmp 64) rfl rfl k2b) ⟨hS,k1b⟩ ?_
       (try simp only [pS])
       refine tg 16 ⟨hS,k1b⟩ (v := .bool true) ?_
       (try simp only [pS])
       refine tg 17 ⟨hS,k1b⟩ ?_
       (try simp only [pS])
       refine wpAnyH_done (by kernel_rfl) ?_ _
       clear d2
       obtain ⟨W,hW⟩:∃ W,W=v2.drew:=⟨_,rfl⟩
       have bd:Below v2.heap.size v2 W:=by rw [hW];exact (Below.refl _ _).drew
       have T9:=Hid.mk' (T2.still bd)
       have bW9:=below_next hS bd
       have q0:=fun u (hu:Below W.heap.size W u)=>cLeft_any lo hi g q b R u (T9.out.code.still hu)
       have q1:=fun u (hu:Below W.heap.size W u)=>rLeft11_any k q b R hn u (T9.out.ref.of.keep hu)
       have q2:=fun u (hu:Below W.heap.size W u)=>cErr_any lo hi g q b R u (T9.out.code.still hu)
       have q3:=fun u (hu:Below W.heap.size W u)=>cEnd_any lo hi g q b R u (T9.out.code.still hu)
       have q4:=fun u (hu:Below W.heap.size W u)=>rEndR_any k q b R hn u (T9.out.ref.of.keep hu)
       have q5:=fun u (hu:Below W.heap.size W u)=>(T9.out.ref.of.keep hu).f2.1
       generalize ((q:Int) - ((R).at_:Int))=z1 at *
       generalize (R).e=z2 at *
       generalize endD q (R)=z3 at *
       go_upto_region 27 with (fail)
       refine wp_region_held_drew (S:=fun u=>Below W.heap.size W u) (by kernel_rfl) (by rw [←hW];exact Below.refl _ _) (fun hS => ?_)
       rw [←hW] at hS ⊢
       clear hW
       refine tg 0 hS ?_
       (try simp only [pS])
       refine tg 1 hS ?_
       (try simp only [pS])
       refine tg 2 hS ?_
       (try simp only [pS])
       refine tg 3 hS ?_
       (try simp only [pS])
       refine tg 5 hS ?_
       (try simp only [pS])
       refine cl 4 (q0 _ hS) ?_
       rintro e u1 ⟨rfl,hu⟩
       obtain rfl:=hu.symm
       refine ⟨_,rfl,hS,?_⟩
       (try simp only [pS])
       refine cl 6 (q1 _ hS) ?_
       rintro e u2 ⟨rfl,hu⟩
       replace hS:=below_next hS hu
       refine ⟨_,rfl,hS,?_⟩
       (try simp only [pS])
       refine tg 7 hS (v := .bool false) ?_
       (try simp only [pS])
       refine tg 8 hS ?_
       (try simp only [pS])
       refine tg 9 hS ?_
       (try simp only [pS])
       refine tg 10 hS ?_
       (try simp only [pS])
       refine tg 13 hS ?_
       (try simp only [pS])
       refine tg 14 hS ?_
       (try simp only [pS])
       refine tg 15 hS ?_
       (try simp only [pS])
       refine tc 16 hS (fun u hu=>q5 u hu) ?_
       (try simp only [pS])
       refine cl 11 (q2 _ hS) ?_
       rintro e u3 ⟨rfl,hu⟩
       obtain rfl:=hu.symm
       refine ⟨_,rfl,hS,?_⟩
       (try simp only [pS])
       refine cl 12 (num11_any z2 _) ?_
       rintro e u4 ⟨rfl,hu⟩
       subst hu
       refine ⟨_,rfl,hS,?_⟩
       (try simp only [pS])
       refine tg 17 hS (v := .bool false) ?_
       (try simp only [pS])
       refine tg 18 hS ?_
       (try simp only [pS])
       refine tg 19 hS ?_
       (try simp only [pS])
       refine tg 20 hS ?_
       (try simp only [pS])
       refine tg 23 hS ?_
       (try simp only [pS])
       refine cl 21 (q3 _ hS) ?_
       rintro e u5 ⟨rfl,hu⟩
       obtain rfl:=hu.symm
       refine ⟨_,rfl,hS,?_⟩
       (try simp only [pS])
       refine cl 22 (num11_any z3 _) ?_
       rintro e u6 ⟨rfl,hu⟩
       subst hu
       refine ⟨_,rfl,hS,?_⟩
       (try simp only [pS])
       refine cl 24 (q4 _ hS) ?_
       rintro e u7 ⟨rfl,hu⟩
       replace hS:=below_next hS hu
       refine ⟨_,rfl,hS,?_⟩
       (try simp only [pS])
       refine tg 25 hS (v := .bool false) ?_
       (try simp only [pS])
       refine tg 26 hS ?_
       (try simp only [pS])
       refine wpAnyH_done (by kernel_rfl) ?_ _
       go_wp2
       go_roundw
       case rel=>exact ⟨p+1,R,hlt,by go_num,T9.out.still hS,below_next bW9 hS⟩
       case measure=>simp [intOf];omega
     · obtain rfl:p=cnt:=by omega
       have t0:¬(p:Int)<(p:Int):=by omega
       clear hT
       go_wp2
       go_ret
       exact ⟨rfl,bW⟩
end Go.Proofs.Ytibgjjbnehhanaa
