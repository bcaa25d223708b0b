/- What the proof stands on: A8Undo, Kit. -/
import Derived.Test.YtplnmmokafomaaaA8RksM
import Derived.Test.YtplnmmokafomaaaBaseM
import Derived.ChangeOld
import Derived.ChangeSlices
import Derived.Deep.DeepHandedRow
import Derived.Lib.LaidTab
import Derived.OpenShut
import Derived.ProofKit
import Derived.SizedLaws
import Derived.WalkKit
namespace Go.Proofs.Ytplnmmokafomaaa
open Go.RowKit
theorem conv16 {W:World} {g:Nat} {X:Nat→Nat} (h:RowAt .u8 W g 0 16 X) (hX:B16 X) {W':World} (hb:Below W.heap.size W W') (c:Nat):(convert 25 9 (.slice (some ⟨g,0,none⟩) 16 c)).run Try.prog W' = .ok (.string (strB 16 X)) W':=by
 have e:strB 16 X=strB 16 (fun j=>X j%256):=strB_congr (fun j hj=>(Nat.mod_eq_of_lt (hX j hj)).symm)
 rw [e]
 exact conv_bytes W' g 0 16 c (fun j=>X j%256) (fun j=>Nat.mod_lt _ (by decide)) (fun j hj=>by
  rw [Nat.mod_eq_of_lt (hX j hj)]
  exact ((h.still hb) j hj).1)
set_option maxRecDepth 20000 in
set_option maxHeartbeats 8000000 in
theorem aesUndoes_any (v u:Value) (n m:Nat) (ks bs:Nat→Nat) (hks:∀ j,ks j<256) (hbs:∀ j,bs j<256) (w:World) (hv:BytesIn w v n ks) (hu:BytesIn w u m bs) :
 Calls Try.prog 6 #[v,u] w fun e w'=>e = .returned (.bool true)∧Below w.heap.size w w':=by
 have c1:=sixteen_any v n ks w hv
 have c2:=fun W hb=>sixteen_any u m bs W (hu.keep hb)
 obtain ⟨xk,ck,rfl,-,-,-⟩:=hv.src
 obtain ⟨xb,cb,rfl,-,-,-⟩:=hu.src
 have hK:=fit16_lt (n:=n) hks
 have hB:B16 (fit16 m bs):=fun j _=>fit16_lt (n:=m) hbs j
 obtain ⟨X,hX⟩:∃ X,X=fit16 n ks:=⟨_,rfl⟩
 obtain ⟨Y,hY⟩:∃ Y,Y=fit16 m bs:=⟨_,rfl⟩
 rw [←hX] at c1 hK
 rw [←hY] at hB
 have c2':∀ W,Below w.heap.size w W→Calls Try.prog 20 #[.slice xb m cb] W fun e w'=>∃ g,e = .returned (.slice (some ⟨g,0,none⟩) 16 16)∧RowAt .u8 w' g 0 16 Y∧Below W.heap.size W w':=fun W hb=>by rw [hY];exact c2 W hb
 have hw:=kyN_lt hK
 have hZ:=blkN_B hB hw
 have hT:=bckN_B hB hw
 have k1:=fun a b W ha hb=>block_good a b X Y hK hB W ha hb
 have k2:=fun a b W ha hb=>back_good a b X (blkN (kyN X) Y) hK hZ W ha hb
 have k3:=fun a b W ha hb=>back_good a b X Y hK hB W ha hb
 have k4:=fun a b W ha hb=>block_good a b X (bckN (kyN X) Y) hK hT W ha hb
 have hZ2:=bckN_B hZ hw
 have hT2:=blkN_B hT hw
 have e1:strB 16 (bckN (kyN X) (blkN (kyN X) Y))=strB 16 Y:=strB_congr (bck_blk hB hw)
 have e2:strB 16 (blkN (kyN X) (bckN (kyN X) Y))=strB 16 Y:=strB_congr (blk_bck hB hw)
 have cy:=fun W g (h:RowAt .u8 W g 0 16 (bckN (kyN X) (blkN (kyN X) Y))) W' hb c=>conv16 h hZ2 (W':=W') hb c
 have cw:=fun W g (h:RowAt .u8 W g 0 16 (blkN (kyN X) (bckN (kyN X) Y))) W' hb c=>conv16 h hT2 (W':=W') hb c
 have cb':=fun W g (h:RowAt .u8 W g 0 16 Y) W' hb c=>conv16 h hB (W':=W') hb c
 rw [e1] at cy
 rw [e2] at cw
 generalize strB 16 Y=S at *
 generalize bckN (kyN X) (blkN (kyN X) Y)=Z2 at *
 generalize blkN (kyN X) (bckN (kyN X) Y)=T2 at *
 generalize blkN (kyN X) Y=Z at *
 generalize bckN (kyN X) Y=T at *
 have w0:IntKind.i64.wrap 0=0:=by decide
 clear c2 hX hY hK hB hZ hT hZ2 hT2 e1 e2 hw hv
 go_enter Try.func6,Try.ntmps6
 go_wp2_with (first
  | (go_at_call 20;refine c1.mono ?_;clear c1;rintro e w1 ⟨g1,rfl,r1,hb1⟩;(have c3:=c2' w1 hb1);clear c2')
  | (go_at_call 20;refine c3.mono ?_;clear c3;rintro e w2 ⟨g2,rfl,r2,hb2⟩;(replace r1:=r1.still hb2);(have b2:=below_next hb1 hb2);clear hb1 hb2;(have d1:=k1 _ _ w2 (rowB r1 (by decide) (Nat.le_refl _)) (rowB r2 (by decide) (Nat.le_refl _)));clear k1)
  | (go_at_call 16;refine d1.mono ?_;clear d1;rintro e w3 ⟨g3,rfl,r3,hb3⟩;(replace r1:=r1.still hb3);(replace r2:=r2.still hb3);(have b3:=below_next b2 hb3);clear b2 hb3;(have d2:=k2 _ _ w3 (rowB r1 (by decide) (Nat.le_refl _)) (rowB r3 (by decide) (Nat.le_refl _)));clear k2 r3)
  | (go_at_call 18;refine d2.mono ?_;clear d2;rintro e w4 ⟨g4,rfl,r4,hb4⟩;(replace r1:=r1.still hb4);(replace r2:=r2.still hb4);(have b4:=below_next b3 hb4);clear b3 hb4;(have d3:=k3 _ _ w4 (rowB r1 (by decide) (Nat.le_refl _)) (rowB r2 (by decide) (Nat.le_refl _)));clear k3)
  | (go_at_call 18;refine d3.mono ?_;clear d3;rintro e w5 ⟨g5,rfl,r5,hb5⟩;(replace r1:=r1.still hb5);(replace r2:=r2.still hb5);(replace r4:=r4.still hb5);(have b5:=below_next b4 hb5);clear b4 hb5;(have d4:=k4 _ _ w5 (rowB r1 (by decide) (Nat.le_refl _)) (rowB r5 (by decide) (Nat.le_refl _)));clear k4 r5 r1)
  | (go_at_call 16;refine d4.mono ?_;clear d4;rintro e w6 ⟨g6,rfl,r6,hb6⟩;(replace r2:=r2.still hb6);(replace r4:=r4.still hb6);(have b6:=below_next b5 hb6);clear b5 hb6;(have q1:=cy w6 g4 r4 w6 (Below.refl _ _) 16);(have q2:=cb' w6 g2 r2 w6 (Below.refl _ _) 16);(have q3:=cw w6 g6 r6 w6 (Below.refl _ _) 16);clear cy cb' cw r2 r4 r6;(have dk:=knows8 w6))
  | (go_at_call 14;refine (num8_any _ _).mono ?_;rintro e wn ⟨rfl,hwn⟩;subst hwn)
  | rw [q1]
  | rw [q2]
  | rw [q3]
  | (go_at_call 10;refine dk.mono ?_;clear dk;rintro e w7 ⟨rfl,hb7⟩))
 go_ret
 exact ⟨rfl,below_next b6 hb7⟩
end Go.Proofs.Ytplnmmokafomaaa
namespace Go.Proofs.Ytplnmmokafomaaa
open Go.ChangeShapes Go.WideShapes Go.ChangeAt Go.RowKit
theorem ownKnobs:ownKnob Try.prog.godebug=none:=by kernel_rfl
theorem laidOut:laidOutB Try.prog=true:=by kernel_rfl
theorem cellsOfByte:Try.prog.cellsOf 5=1:=by kernel_rfl
theorem bytesOfByte:Try.prog.bytesOf 5=1:=by kernel_rfl
set_option maxRecDepth 20000 in
theorem open_bytes {H:Type} {enc:TypeId × Value→H} {W:World} {base:Nat} {v:Value} {d:DataW H} {ps:List MemPlace} (hval:Value.okWide Try.prog W .any base 25 v) (h:DataW.Trod enc Try.prog W 0 (fun _=>true) true 25 v d ps) :
 ∃ n bs,BytesIn W v n bs∧(∀ j,bs j<256)∧(n=0∨∃ elems spare,d = .slice elems spare∧elems.length=n):=by
 obtain ⟨a0,len,cap,rfl⟩:=okWide_slice Try.underlying25 hval
 obtain ⟨fuel,hf⟩:=h
 have hc:Cell.ok Try.prog W .any base 25 (.slice a0 len cap):=by
  unfold Value.okWide Cell.okWide at hval
  simp only [Try.underlying25] at hval
  exact hval
 rcases open_ints Try.underlying25 Try.underlying5 cellsOfByte hf with ⟨hcs,hx⟩ | ⟨a,len',cap',zs,hcs,_,hl,hm,hz,hx,hcell,hwz⟩
 · simp [Value.cells] at hcs
   obtain ⟨rfl,rfl,rfl⟩:=hcs
   exact ⟨0,fun _=>0,.inl ⟨none,rfl,rfl⟩,fun _=>Nat.zero_lt_succ _,.inl rfl⟩
 · simp [Value.cells] at hcs
   obtain ⟨rfl,rfl,rfl⟩:=hcs
   simp only [Prod.mk.injEq] at hx
   obtain ⟨rfl,rfl⟩:=hx
   simp only [if_true] at hz
   unfold Cell.ok at hc
   simp only [Try.underlying25] at hc
   obtain ⟨_,_,_,hs,row,cells,hsh,_⟩:=hc
   obtain ⟨b,off,spot⟩:=a
   subst hs
   have hbl:b<W.heap.size:=by
    rcases Nat.lt_or_ge b W.heap.size with h | h
    · exact h
    · unfold World.shape? at hsh
      rw [Array.getElem?_eq_none h] at hsh
      cases hsh
   have hn:∀ j,0≤zs.getD j 0∧zs.getD j 0<256:=fun j=>by
    rw [List.getD_eq_getElem?_getD]
    cases h:zs[j]? with
    | none=>simp
    | some x =>
     have:=hwz x (List.mem_of_getElem? h)
     have h0:(0:Int)≤x∧x≤255:=by simpa [Lit.wf,IntKind.min,IntKind.max,IntKind.signed,IntKind.bits] using this
     show 0≤x∧x<256
     omega
   refine ⟨len,fun j=>(zs.getD j 0).toNat,.inr ⟨b,off,cap,rfl,hbl,hl,fun j hj => ?_⟩,fun j => ?_,.inr ⟨_,_,rfl,?_⟩⟩
   · have h:=hcell j (by omega)
     rw [Addr.add_mid] at h
     rw [h,Int.toNat_of_nonneg (hn j).1]
   · have:=hn j
     show (zs.getD j 0).toNat<256
     omega
   · simp [lits];omega
theorem bytes_reach {H:Type} {ts:List TypeId} {ds:List (DataW H)} (hR:(DataW.weightsEach Try.prog ts ds).all (·≤reachBytes)=true) {j n:Nat} {d:DataW H} (ht:ts[j]? = some 25) (hd:ds[j]? = some d) (h:n=0∨∃ elems spare,d = .slice elems spare∧elems.length=n):n<140737488355000:=by
 rcases h with h | ⟨elems,spare,rfl,rfl⟩
 · omega
 · have:=sized_slice hR ht hd Try.underlying25
   rw [bytesOfByte] at this
   unfold reachBytes at this
   omega
end Go.Proofs.Ytplnmmokafomaaa
