/- What the proof stands on: N3rf, N3rg, N3rh, N3ri. -/
import Derived.Test.YtgdcmibdjiaofaaN3KgM
namespace Go.Proofs.Ytgdcmibdjiaofaa
open Go.RowKit
theorem ts {P:Program} {md:Region.Mode} {ops:Array Oper} {Q:Exit→Act→World→Prop} {S:World→Prop} {fuel:Nat} {listed:Array Bool} {a:Act} {w:World} (i:Nat) (hS:S w) {oi:Oper} (h:wpAnyH P md ops Q S fuel (listed.setIfInBounds i true) (a.put oi.dst undef) w) (hi:ops.toList[i]? = some oi:=by rfl) (hw:Region.wanted oi (yielded ops a.tmps)=false:=by rfl)
 (hQ:∀ c b w,Q (.panic c) (b.put oi.dst undef) w→Q (.panic c) b w:=by exact fun _ _ _ h=>h) (hs:Region.noSelect ops=true:=by kernel_rfl) (hf:Region.free md ops listed i=true:=by kernel_rfl) (hr:(Region.ready md ops listed).contains i=true:=by kernel_rfl):wpAnyH P md ops Q S (fuel+1) listed a w :=
 tkH i oi undef hS (.inr ⟨hw,rfl⟩) h hQ (at_list hi) hs hf hr
theorem risU_step {l:List Int} {k:Nat} (h:risU l k=true):(decide (lastZ l k<zat l k) && decide (zat l k<64))=true↔¬zat l k<0∧¬64≤zat l k∧(k=0∨¬zat l k≤zat l (k - 1)):=by
 rw [Bool.and_eq_true,decide_eq_true_eq,decide_eq_true_eq]
 cases k with
 | zero=>simp only [lastZ,true_or,and_true];omega
 | succ k =>
  have:=risU_at h (Nat.lt_succ_self k)
  show zat l k<zat l (k+1)∧_↔_∧_∧(_∨¬zat l (k+1)≤zat l k)
  omega
set_option maxRecDepth 20000 in
set_option maxHeartbeats 4000000 in
theorem rRP_a (x0 x1 x:Option Addr) (n0 n1 n c0 c1 c:Nat) (_h0:¬(n0:Int)=32) (w:World):Calls Try.prog 45 #[.agg #[.slice x0 n0 c0,.slice x1 n1 c1,.slice x n c]] w fun e w'=>e = .returned (.bool false)∧Below w.heap.size w w':=by
 go_enter Try.func45,Try.ntmps45
 go_wp2
 go_ret
 exact ⟨rfl,(Below.refl _ _).alloc (Nat.le_refl _) _⟩
set_option maxRecDepth 20000 in
set_option maxHeartbeats 4000000 in
theorem rRP_b (x0 x1 x:Option Addr) (n0 n1 n c0 c1 c:Nat) (_h0:(n0:Int)=32) (_h1:¬(n1:Int)=0) (_h2:¬(n1:Int)=32) (w:World):Calls Try.prog 45 #[.agg #[.slice x0 n0 c0,.slice x1 n1 c1,.slice x n c]] w fun e w'=>e = .returned (.bool false)∧Below w.heap.size w w':=by
 have e1:((n1:Int) != 32)=true:=by simpa using _h2
 have e2:decide ((n1:Int)=32)=false:=decide_eq_false _h2
 have e3:¬ n1=32:=by omega
 go_enter Try.func45,Try.ntmps45
 go_wp2
 go_ret
 exact ⟨rfl,(Below.refl _ _).alloc (Nat.le_refl _) _⟩
set_option maxRecDepth 20000 in
set_option maxHeartbeats 4000000 in
theorem rRP_c (x0 x1 x:Option Addr) (n0 n1 n c0 c1 c:Nat) (l:List Int) (hn:n=l.length) (hl:n<140737488355000) (_h0:(n0:Int)=32) (_h1:(n1:Int)=0) (w:World) (hz:∀ i z,l[i]? = some z→∃ g o,x=some ⟨g,o,none⟩∧g<w.heap.size∧w.cell? ⟨g,o+i,none⟩=some (.int .i64 z)):Calls Try.prog 45 #[.agg #[.slice x0 n0 c0,.slice x1 n1 c1,.slice x n c]] w fun e w'=>e = .returned (.bool (risU l l.length))∧Below w.heap.size w w':=by
 have Hn:=Hid.mk' hn
 have HZ:=Hid.mk' hz
 obtain ⟨B,hB⟩:∃ B,B=risU l n:=⟨_,rfl⟩
 have HB:=Hid.mk' hB
 rw [←hn,←hB]
 have k1:=RW.fresh w [.slice x0 n0 c0,.slice x1 n1 c1,.slice x n c] 44
 have bV:Below w.heap.size w (w.alloc (.cells #[.slice x0 n0 c0,.slice x1 n1 c1,.slice x n c] 44)):=(Below.refl _ _).alloc (Nat.le_refl _) _
 obtain ⟨W,hW⟩:∃ W,W=w.alloc (.cells #[.slice x0 n0 c0,.slice x1 n1 c1,.slice x n c] 44):=⟨_,rfl⟩
 rw [show w.alloc (.cells ([.slice x0 n0 c0,.slice x1 n1 c1,.slice x n c]).toArray 44)=W from hW.symm] at k1
 rw [←hW] at bV
 have HW:=Hid.mk' hW
 have K1:=Hid.mk' k1
 have q0:=k1.cell (o:=0) rfl
 have q1:=k1.cell (o:=1) rfl
 clear hn hz hB hW k1
 go_enter Try.func45,Try.ntmps45
 go_upto_region 1 with (fail)
 rw [←HW.out]
 go_wp2
 clear q0 q1
 go_loopw [3] (fun i wr=>∃ k:Nat,k≤n∧i = .int .i64 k∧risU l k=true∧Below W.heap.size W wr) (fun i _=>n - (intOf i).toNat)
 case atStart=>exact ⟨0,Nat.zero_le _,rfl,rfl,Below.refl _ _⟩
 case round =>
  obtain ⟨k,hk,rfl,hal,hb⟩:=hrel
  have q2:=(K1.out.still hb).cell (o:=2) rfl
  by_cases hlt:k<n
  · obtain ⟨g,o,rfl,hg,hc⟩:=HZ.out k _ (zat_get (by rw [←Hn.out];exact hlt))
    have hcw:=(hb.cell (p:=⟨g,o+k,none⟩) (Nat.lt_of_lt_of_le hg bV.size)).trans ((bV.cell (p:=⟨g,o+k,none⟩) hg).trans hc)
    have hst:=risU_step hal
    have E2:Hid (∀ b,(decide (lastZ l k<zat l k) && decide (zat l k<64))=b→risU l (k+1)=b):=Hid.mk' (fun b h=>by rw [risU,hal,h];rfl)
    have E3:Hid ((decide (lastZ l k<zat l k) && decide (zat l k<64))=false→B=false):=Hid.mk' (fun h=>by rw [HB.out];exact risU_false h hlt)
    generalize (decide (lastZ l k<zat l k) && decide (zat l k<64))=T at *
    have t1:(0:Int)≤(k:Int)∧(k:Int)<(n:Int):=by omega
    have t2:(k:Int)<(n:Int):=by omega
    have Q2:Hid (w.heap.size<wr.drew.heap.size∧wr.drew.cell? ⟨w.heap.size,2,none⟩=some (.slice (some ⟨g,o,none⟩) n c)):=Hid.mk' ⟨(K1.out.still hb).lt,q2⟩
    have QK:Hid (g<wr.drew.heap.size∧wr.drew.cell? ⟨g,o+k,none⟩=some (.int .i64 (zat l k))):=Hid.mk' ⟨block_lt_of_cell hcw,hcw⟩
    clear hcw
    have bd:Below W.heap.size W wr.drew:=hb.trans ((Below.refl wr.heap.size wr).drew.mono hb.size)
    have hF:¬(¬zat l k<0∧¬64≤zat l k∧(k=0∨¬zat l k≤zat l (k - 1)))→B=false:=fun h=>E3.out (Bool.eq_false_iff.2 fun e=>h (hst.1 e))
    have hT:(¬zat l k<0∧¬64≤zat l k∧(k=0∨¬zat l k≤zat l (k - 1)))→risU l (k+1)=true:=fun h=>E2.out true (hst.2 h)
    have HF:=Hid.mk' hF
    have HT:=Hid.mk' hT
    clear hc hal HB hst E2 E3 hF hT
    by_cases h1:zat l k<0
    · have hBf:=HF.out (fun h=>h.1 h1)
      clear HF HT HZ
      generalize zat l k=z at *
      go_upto_region 6 with (fail)
      refine wp_region_held_drew (S:=fun u=>Below wr.drew.heap.size wr.drew u) (by kernel_rfl) (Below.refl _ _) (fun hS => ?_)
      refine tg 0 hS ?_
      (try simp only [pS])
      refine tc 1 hS (fun u hu=>(hu.cell (p:=⟨w.heap.size,2,none⟩) Q2.out.1).trans Q2.out.2) ?_
      (try simp only [pS])
      refine tg 2 hS ?_
      (try simp only [pS])
      refine tg 3 hS ?_
      (try simp only [pS])
      refine tc 4 hS (fun u hu=>(hu.cell (p:=⟨g,o+k,none⟩) QK.out.1).trans QK.out.2) ?_
      (try simp only [pS])
      refine tg 5 hS (v := .bool true) ?_ (hy:=by intro u hu;go_simp;try (first | with_reducible rfl | omega))
      (try simp only [pS])
      refine tg 6 hS ?_
      (try simp only [pS])
      refine ts 7 hS ?_
      (try simp only [pS])
      refine ts 8 hS ?_
      (try simp only [pS])
      refine ts 9 hS ?_
      (try simp only [pS])
      refine ts 10 hS ?_
      (try simp only [pS])
      refine ts 11 hS ?_
      (try simp only [pS])
      refine ts 12 hS ?_
      (try simp only [pS])
      refine tg 13 hS ?_
      (try simp only [pS])
      refine tg 14 hS ?_
      (try simp only [pS])
      refine ts 15 hS ?_
      (try simp only [pS])
      refine ts 16 hS ?_
      (try simp only [pS])
      refine ts 17 hS ?_
      (try simp only [pS])
      refine ts 18 hS ?_
      (try simp only [pS])
      refine ts 19 hS ?_
      (try simp only [pS])
      refine ts 20 hS ?_
      (try simp only [pS])
      refine ts 21 hS ?_
      (try simp only [pS])
      refine ts 22 hS ?_
      (try simp only [pS])
      refine ts 23 hS ?_
      (try simp only [pS])
      refine ts 24 hS ?_
      (try simp only [pS])
      refine ts 25 hS ?_
      (try simp only [pS])
      refine ts 26 hS ?_
      (try simp only [pS])
      refine ts 27 hS ?_
      (try simp only [pS])
      refine ts 28 hS ?_
      (try simp only [pS])
      refine ts 29 hS ?_
      (try simp only [pS])
      refine ts 30 hS ?_
      (try simp only [pS])
      refine tg 31 hS ?_
      (try simp only [pS])
      refine wpAnyH_done (by kernel_rfl) ?_ _
      go_wp2
      go_ret
      exact ⟨by first | rfl | (rw [hBf];rfl),below_next bV bd⟩
    · by_cases h2:64≤zat l k
      · have hBf:=HF.out (fun h=>h.2.1 h2)
        clear HF HT HZ
        generalize zat l k=z at *
        go_upto_region 6 with (fail)
        refine wp_region_held_drew (S:=fun u=>Below wr.drew.heap.size wr.drew u) (by kernel_rfl) (Below.refl _ _) (fun hS => ?_)
        refine tg 0 hS ?_
        (try simp only [pS])
        refine tc 1 hS (fun u hu=>(hu.cell (p:=⟨w.heap.size,2,none⟩) Q2.out.1).trans Q2.out.2) ?_
        (try simp only [pS])
        refine tg 2 hS ?_
        (try simp only [pS])
        refine tg 3 hS ?_
        (try simp only [pS])
        refine tc 4 hS (fun u hu=>(hu.cell (p:=⟨g,o+k,none⟩) QK.out.1).trans QK.out.2) ?_
        (try simp only [pS])
        refine tg 5 hS (v := .bool false) ?_ (hy:=by intro u hu;go_simp;try (first | with_reducible rfl | omega))
        (try simp only [pS])
        refine tg 6 hS ?_
        (try simp only [pS])
        refine tg 7 hS ?_
        (try simp only [pS])
        refine tc 8 hS (fun u hu=>(hu.cell (p:=⟨w.heap.size,2,none⟩) Q2.out.1).trans Q2.out.2) ?_
        (try simp only [pS])
        refine tg 9 hS ?_
        (try simp only [pS])
        refine tg 10 hS ?_
        (try simp only [pS])
        refine tc 11 hS (fun u hu=>(hu.cell (p:=⟨g,o+k,none⟩) QK.out.1).trans QK.out.2) ?_
        (try simp only [pS])
        refine tg 12 hS (v := .bool true) ?_ (hy:=by intro u hu;go_simp;try (first | with_reducible rfl | omega))
        (try simp only [pS])
        refine tg 13 hS ?_
        (try simp only [pS])
        refine tg 14 hS ?_
        (try simp only [pS])
        refine ts 15 hS ?_
        (try simp only [pS])
        refine ts 16 hS ?_
        (try simp only [pS])
        refine ts 17 hS ?_
        (try simp only [pS])
        refine ts 18 hS ?_
        (try simp only [pS])
        refine ts 19 hS ?_
        (try simp only [pS])
        refine ts 20 hS ?_
        (try simp only [pS])
        refine ts 21 hS ?_
        (try simp only [pS])
        refine ts 22 hS ?_
        (try simp only [pS])
        refine ts 23 hS ?_
        (try simp only [pS])
        refine ts 24 hS ?_
        (try simp only [pS])
        refine ts 25 hS ?_
        (try simp only [pS])
        refine ts 26 hS ?_
        (try simp only [pS])
        refine ts 27 hS ?_
        (try simp only [pS])
        refine ts 28 hS ?_
        (try simp only [pS])
        refine ts 29 hS ?_
        (try simp only [pS])
        refine ts 30 hS ?_
        (try simp only [pS])
        refine tg 31 hS ?_
        (try simp only [pS])
        refine wpAnyH_done (by kernel_rfl) ?_ _
        go_wp2
        go_ret
        exact ⟨by first | rfl | (rw [hBf];rfl),below_next bV bd⟩
      · by_cases h0:k=0
        · have hTt:=Hid.mk' (HT.out ⟨h1,h2,.inl h0⟩)
          have t3:decide ((0:Int)<(k:Int))=false:=decide_eq_false (by omega)
          have t4:¬(0:Int)<(k:Int):=by omega
          clear HF HT HZ h0
          generalize zat l k=z at *
          go_upto_region 6 with (fail)
          refine wp_region_held_drew (S:=fun u=>Below wr.drew.heap.size wr.drew u) (by kernel_rfl) (Below.refl _ _) (fun hS => ?_)
          refine tg 0 hS ?_
          (try simp only [pS])
          refine tc 1 hS (fun u hu=>(hu.cell (p:=⟨w.heap.size,2,none⟩) Q2.out.1).trans Q2.out.2) ?_
          (try simp only [pS])
          refine tg 2 hS ?_
          (try simp only [pS])
          refine tg 3 hS ?_
          (try simp only [pS])
          refine tc 4 hS (fun u hu=>(hu.cell (p:=⟨g,o+k,none⟩) QK.out.1).trans QK.out.2) ?_
          (try simp only [pS])
          refine tg 5 hS (v := .bool false) ?_ (hy:=by intro u hu;go_simp;try (first | with_reducible rfl | omega))
          (try simp only [pS])
          refine tg 6 hS ?_
          (try simp only [pS])
          refine tg 7 hS ?_
          (try simp only [pS])
          refine tc 8 hS (fun u hu=>(hu.cell (p:=⟨w.heap.size,2,none⟩) Q2.out.1).trans Q2.out.2) ?_
          (try simp only [pS])
          refine tg 9 hS ?_
          (try simp only [pS])
          refine tg 10 hS ?_
          (try simp only [pS])
          refine tc 11 hS (fun u hu=>(hu.cell (p:=⟨g,o+k,none⟩) QK.out.1).trans QK.out.2) ?_
          (try simp only [pS])
          refine tg 12 hS (v := .bool false) ?_ (hy:=by intro u hu;go_simp;try (first | with_reducible rfl | omega))
          (try simp only [pS])
          refine tg 13 hS ?_
          (try simp only [pS])
          refine tg 14 hS ?_
          (try simp only [pS])
          refine tg 15 hS ?_
          (try simp only [pS])
          refine tg 16 hS (v := .bool false) ?_ (hy:=by intro u hu;go_simp;try (first | with_reducible rfl | omega))
          (try simp only [pS])
          refine tg 17 hS ?_
          (try simp only [pS])
          refine ts 18 hS ?_
          (try simp only [pS])
          refine ts 19 hS ?_
          (try simp only [pS])
          refine ts 20 hS ?_
          (try simp only [pS])
          refine ts 21 hS ?_
          (try simp only [pS])
          refine ts 22 hS ?_
          (try simp only [pS])
          refine ts 23 hS ?_
          (try simp only [pS])
          refine ts 24 hS ?_
          (try simp only [pS])
          refine ts 25 hS ?_
          (try simp only [pS])
          refine ts 26 hS ?_
          (try simp only [pS])
          refine ts 27 hS ?_
          (try simp only [pS])
          refine ts 28 hS ?_
          (try simp only [pS])
          refine ts 29 hS ?_
          (try simp only [pS])
          refine tg 30 hS ?_
          (try simp only [pS])
          refine tg 31 hS ?_
          (try simp only [pS])
          refine wpAnyH_done (by kernel_rfl) ?_ _
          go_wp2
          go_roundw
          case rel=>exact ⟨k+1,by omega,by go_num,hTt.out,bd⟩
          case measure=>simp [intOf];omega
        · have t3:(0:Int)<(k:Int):=by omega
          obtain ⟨g',o',e',hg',hc'⟩:=HZ.out (k - 1) _ (zat_get (by rw [←Hn.out];omega))
          cases e'
          have hcp:=(hb.cell (p:=⟨g,o+(k - 1),none⟩) (Nat.lt_of_lt_of_le hg bV.size)).trans ((bV.cell (p:=⟨g,o+(k - 1),none⟩) hg).trans hc')
          obtain ⟨m,hm⟩:∃ m,m=k - 1:=⟨_,rfl⟩
          have t4:IntKind.i64.wrap ((k:Int) - 1)=(m:Int):=by simp only [IntKind.wrap_i64];omega
          have t5:(0:Int)≤(m:Int)∧(m:Int)<(n:Int):=by omega
          rw [←hm] at hcp HF HT
          have QM:Hid (g<wr.drew.heap.size∧wr.drew.cell? ⟨g,o+m,none⟩=some (.int .i64 (zat l m))):=Hid.mk' ⟨block_lt_of_cell hcp,hcp⟩
          clear hcp
          clear hc' hg' HZ hm
          by_cases h3:zat l k≤zat l m
          · have hBf:=HF.out (fun h=>by rcases h.2.2 with h | h;exact h0 h;exact h h3)
            clear HF HT
            generalize zat l k=z at *
            generalize zat l m=z' at *
            go_upto_region 6 with (fail)
            refine wp_region_held_drew (S:=fun u=>Below wr.drew.heap.size wr.drew u) (by kernel_rfl) (Below.refl _ _) (fun hS => ?_)
            refine tg 0 hS ?_
            (try simp only [pS])
            refine tc 1 hS (fun u hu=>(hu.cell (p:=⟨w.heap.size,2,none⟩) Q2.out.1).trans Q2.out.2) ?_
            (try simp only [pS])
            refine tg 2 hS ?_
            (try simp only [pS])
            refine tg 3 hS ?_
            (try simp only [pS])
            refine tc 4 hS (fun u hu=>(hu.cell (p:=⟨g,o+k,none⟩) QK.out.1).trans QK.out.2) ?_
            (try simp only [pS])
            refine tg 5 hS (v := .bool false) ?_ (hy:=by intro u hu;go_simp;try (first | with_reducible rfl | omega))
            (try simp only [pS])
            refine tg 6 hS ?_
            (try simp only [pS])
            refine tg 7 hS ?_
            (try simp only [pS])
            refine tc 8 hS (fun u hu=>(hu.cell (p:=⟨w.heap.size,2,none⟩) Q2.out.1).trans Q2.out.2) ?_
            (try simp only [pS])
            refine tg 9 hS ?_
            (try simp only [pS])
            refine tg 10 hS ?_
            (try simp only [pS])
            refine tc 11 hS (fun u hu=>(hu.cell (p:=⟨g,o+k,none⟩) QK.out.1).trans QK.out.2) ?_
            (try simp only [pS])
            refine tg 12 hS (v := .bool false) ?_ (hy:=by intro u hu;go_simp;try (first | with_reducible rfl | omega))
            (try simp only [pS])
            refine tg 13 hS ?_
            (try simp only [pS])
            refine tg 14 hS ?_
            (try simp only [pS])
            refine tg 15 hS ?_
            (try simp only [pS])
            refine tg 16 hS (v := .bool true) ?_ (hy:=by intro u hu;go_simp;try (first | with_reducible rfl | omega))
            (try simp only [pS])
            refine tg 17 hS ?_
            (try simp only [pS])
            refine tg 18 hS ?_
            (try simp only [pS])
            refine tc 19 hS (fun u hu=>(hu.cell (p:=⟨w.heap.size,2,none⟩) Q2.out.1).trans Q2.out.2) ?_
            (try simp only [pS])
            refine tg 20 hS ?_
            (try simp only [pS])
            refine tg 21 hS ?_
            (try simp only [pS])
            refine tc 22 hS (fun u hu=>(hu.cell (p:=⟨g,o+k,none⟩) QK.out.1).trans QK.out.2) ?_
            (try simp only [pS])
            refine tg 23 hS ?_
            (try simp only [pS])
            refine tc 24 hS (fun u hu=>(hu.cell (p:=⟨w.heap.size,2,none⟩) Q2.out.1).trans Q2.out.2) ?_
            (try simp only [pS])
            refine tg 25 hS ?_
            (try simp only [pS])
            refine tg 26 hS ?_
            (try simp only [pS])
            refine tg 27 hS ?_
            (try simp only [pS])
            refine tc 28 hS (fun u hu=>(hu.cell (p:=⟨g,o+m,none⟩) QM.out.1).trans QM.out.2) ?_
            (try simp only [pS])
            refine tg 29 hS (v := .bool true) ?_ (hy:=by intro u hu;go_simp;try (first | with_reducible rfl | omega))
            (try simp only [pS])
            refine tg 30 hS ?_
            (try simp only [pS])
            refine tg 31 hS ?_
            (try simp only [pS])
            refine wpAnyH_done (by kernel_rfl) ?_ _
            go_wp2
            go_ret
            exact ⟨by first | rfl | (rw [hBf];rfl),below_next bV bd⟩
          · have hTt:=Hid.mk' (HT.out ⟨h1,h2,.inr h3⟩)
            clear HF HT
            generalize zat l k=z at *
            generalize zat l m=z' at *
            have h3d:decide (z≤z')=false:=by simp [h3]
            go_upto_region 6 with (fail)
            refine wp_region_held_drew (S:=fun u=>Below wr.drew.heap.size wr.drew u) (by kernel_rfl) (Below.refl _ _) (fun hS => ?_)
            refine tg 0 hS ?_
            (try simp only [pS])
            refine tc 1 hS (fun u hu=>(hu.cell (p:=⟨w.heap.size,2,none⟩) Q2.out.1).trans Q2.out.2) ?_
            (try simp only [pS])
            refine tg 2 hS ?_
            (try simp only [pS])
            refine tg 3 hS ?_
            (try simp only [pS])
            refine tc 4 hS (fun u hu=>(hu.cell (p:=⟨g,o+k,none⟩) QK.out.1).trans QK.out.2) ?_
            (try simp only [pS])
            refine tg 5 hS (v := .bool false) ?_ (hy:=by intro u hu;go_simp;try (first | with_reducible rfl | omega))
            (try simp only [pS])
            refine tg 6 hS ?_
            (try simp only [pS])
            refine tg 7 hS ?_
            (try simp only [pS])
            refine tc 8 hS (fun u hu=>(hu.cell (p:=⟨w.heap.size,2,none⟩) Q2.out.1).trans Q2.out.2) ?_
            (try simp only [pS])
            refine tg 9 hS ?_
            (try simp only [pS])
            refine tg 10 hS ?_
            (try simp only [pS])
            refine tc 11 hS (fun u hu=>(hu.cell (p:=⟨g,o+k,none⟩) QK.out.1).trans QK.out.2) ?_
            (try simp only [pS])
            refine tg 12 hS (v := .bool false) ?_ (hy:=by intro u hu;go_simp;try (first | with_reducible rfl | omega))
            (try simp only [pS])
            refine tg 13 hS ?_
            (try simp only [pS])
            refine tg 14 hS ?_
            (try simp only [pS])
            refine tg 15 hS ?_
            (try simp only [pS])
            refine tg 16 hS (v := .bool true) ?_ (hy:=by intro u hu;go_simp;try (first | with_reducible rfl | omega))
            (try simp only [pS])
            refine tg 17 hS ?_
            (try simp only [pS])
            refine tg 18 hS ?_
            (try simp only [pS])
            refine tc 19 hS (fun u hu=>(hu.cell (p:=⟨w.heap.size,2,none⟩) Q2.out.1).trans Q2.out.2) ?_
            (try simp only [pS])
            refine tg 20 hS ?_
            (try simp only [pS])
            refine tg 21 hS ?_
            (try simp only [pS])
            refine tc 22 hS (fun u hu=>(hu.cell (p:=⟨g,o+k,none⟩) QK.out.1).trans QK.out.2) ?_
            (try simp only [pS])
            refine tg 23 hS ?_
            (try simp only [pS])
            refine tc 24 hS (fun u hu=>(hu.cell (p:=⟨w.heap.size,2,none⟩) Q2.out.1).trans Q2.out.2) ?_
            (try simp only [pS])
            refine tg 25 hS ?_
            (try simp only [pS])
            refine tg 26 hS ?_
            (try simp only [pS])
            refine tg 27 hS ?_
            (try simp only [pS])
            refine tc 28 hS (fun u hu=>(hu.cell (p:=⟨g,o+m,none⟩) QM.out.1).trans QM.out.2) ?_
            (try simp only [pS])
            refine tg 29 hS (v := .bool false) ?_ (hy:=by intro u hu;go_simp;try (first | with_reducible rfl | omega))
            (try simp only [pS])
            refine tg 30 hS ?_
            (try simp only [pS])
            refine tg 31 hS ?_
            (try simp only [pS])
            refine wpAnyH_done (by kernel_rfl) ?_ _
            go_wp2
            go_roundw
            case rel=>exact ⟨k+1,by omega,by go_num,hTt.out,bd⟩
            case measure=>simp [intOf];omega
  · obtain rfl:k=n:=by omega
    have hBt:B=true:=by rw [HB.out];exact hal
    go_wp2
    go_ret
    exact ⟨by rw [hBt];rfl,below_next bV hb⟩
set_option maxRecDepth 20000 in
set_option maxHeartbeats 4000000 in
theorem rRP_d (x0 x1 x:Option Addr) (n0 n1 n c0 c1 c:Nat) (l:List Int) (hn:n=l.length) (hl:n<140737488355000) (_h0:(n0:Int)=32) (_h1:¬(n1:Int)=0) (_h2:(n1:Int)=32) (w:World) (hz:∀ i z,l[i]? = some z→∃ g o,x=some ⟨g,o,none⟩∧g<w.heap.size∧w.cell? ⟨g,o+i,none⟩=some (.int .i64 z)):Calls Try.prog 45 #[.agg #[.slice x0 n0 c0,.slice x1 n1 c1,.slice x n c]] w fun e w'=>e = .returned (.bool (risU l l.length))∧Below w.heap.size w w':=by
 have Hn:=Hid.mk' hn
 have HZ:=Hid.mk' hz
 obtain ⟨B,hB⟩:∃ B,B=risU l n:=⟨_,rfl⟩
 have HB:=Hid.mk' hB
 rw [←hn,←hB]
 have k1:=RW.fresh w [.slice x0 n0 c0,.slice x1 n1 c1,.slice x n c] 44
 have bV:Below w.heap.size w (w.alloc (.cells #[.slice x0 n0 c0,.slice x1 n1 c1,.slice x n c] 44)):=(Below.refl _ _).alloc (Nat.le_refl _) _
 obtain ⟨W,hW⟩:∃ W,W=w.alloc (.cells #[.slice x0 n0 c0,.slice x1 n1 c1,.slice x n c] 44):=⟨_,rfl⟩
 rw [show w.alloc (.cells ([.slice x0 n0 c0,.slice x1 n1 c1,.slice x n c]).toArray 44)=W from hW.symm] at k1
 rw [←hW] at bV
 have HW:=Hid.mk' hW
 have K1:=Hid.mk' k1
 have q0:=k1.cell (o:=0) rfl
 have q1:=k1.cell (o:=1) rfl
 clear hn hz hB hW k1
 go_enter Try.func45,Try.ntmps45
 go_upto_region 1 with (fail)
 rw [←HW.out]
 go_wp2
 clear q0 q1
 go_loopw [3] (fun i wr=>∃ k:Nat,k≤n∧i = .int .i64 k∧risU l k=true∧Below W.heap.size W wr) (fun i _=>n - (intOf i).toNat)
 case atStart=>exact ⟨0,Nat.zero_le _,rfl,rfl,Below.refl _ _⟩
 case round =>
  obtain ⟨k,hk,rfl,hal,hb⟩:=hrel
  have q2:=(K1.out.still hb).cell (o:=2) rfl
  by_cases hlt:k<n
  · obtain ⟨g,o,rfl,hg,hc⟩:=HZ.out k _ (zat_get (by rw [←Hn.out];exact hlt))
    have hcw:=(hb.cell (p:=⟨g,o+k,none⟩) (Nat.lt_of_lt_of_le hg bV.size)).trans ((bV.cell (p:=⟨g,o+k,none⟩) hg).trans hc)
    have hst:=risU_step hal
    have E2:Hid (∀ b,(decide (lastZ l k<zat l k) && decide (zat l k<64))=b→risU l (k+1)=b):=Hid.mk' (fun b h=>by rw [risU,hal,h];rfl)
    have E3:Hid ((decide (lastZ l k<zat l k) && decide (zat l k<64))=false→B=false):=Hid.mk' (fun h=>by rw [HB.out];exact risU_false h hlt)
    generalize (decide (lastZ l k<zat l k) && decide (zat l k<64))=T at *
    have t1:(0:Int)≤(k:Int)∧(k:Int)<(n:Int):=by omega
    have t2:(k:Int)<(n:Int):=by omega
    have Q2:Hid (w.heap.size<wr.drew.heap.size∧wr.drew.cell? ⟨w.heap.size,2,none⟩=some (.slice (some ⟨g,o,none⟩) n c)):=Hid.mk' ⟨(K1.out.still hb).lt,q2⟩
    have QK:Hid (g<wr.drew.heap.size∧wr.drew.cell? ⟨g,o+k,none⟩=some (.int .i64 (zat l k))):=Hid.mk' ⟨block_lt_of_cell hcw,hcw⟩
    clear hcw
    have bd:Below W.heap.size W wr.drew:=hb.trans ((Below.refl wr.heap.size wr).drew.mono hb.size)
    have hF:¬(¬zat l k<0∧¬64≤zat l k∧(k=0∨¬zat l k≤zat l (k - 1)))→B=false:=fun h=>E3.out (Bool.eq_false_iff.2 fun e=>h (hst.1 e))
    have hT:(¬zat l k<0∧¬64≤zat l k∧(k=0∨¬zat l k≤zat l (k - 1)))→risU l (k+1)=true:=fun h=>E2.out true (hst.2 h)
    have HF:=Hid.mk' hF
    have HT:=Hid.mk' hT
    clear hc hal HB hst E2 E3 hF hT
    by_cases h1:zat l k<0
    · have hBf:=HF.out (fun h=>h.1 h1)
      clear HF HT HZ
      generalize zat l k=z at *
      go_upto_region 6 with (fail)
      refine wp_region_held_drew (S:=fun u=>Below wr.drew.heap.size wr.drew u) (by kernel_rfl) (Below.refl _ _) (fun hS => ?_)
      refine tg 0 hS ?_
      (try simp only [pS])
      refine tc 1 hS (fun u hu=>(hu.cell (p:=⟨w.heap.size,2,none⟩) Q2.out.1).trans Q2.out.2) ?_
      (try simp only [pS])
      refine tg 2 hS ?_
      (try simp only [pS])
      refine tg 3 hS ?_
      (try simp only [pS])
      refine tc 4 hS (fun u hu=>(hu.cell (p:=⟨g,o+k,none⟩) QK.out.1).trans QK.out.2) ?_
      (try simp only [pS])
      refine tg 5 hS (v := .bool true) ?_ (hy:=by intro u hu;go_simp;try (first | with_reducible rfl | omega))
      (try simp only [pS])
      refine tg 6 hS ?_
      (try simp only [pS])
      refine ts 7 hS ?_
      (try simp only [pS])
      refine ts 8 hS ?_
      (try simp only [pS])
      refine ts 9 hS ?_
      (try simp only [pS])
      refine ts 10 hS ?_
      (try simp only [pS])
      refine ts 11 hS ?_
      (try simp only [pS])
      refine ts 12 hS ?_
      (try simp only [pS])
      refine tg 13 hS ?_
      (try simp only [pS])
      refine tg 14 hS ?_
      (try simp only [pS])
      refine ts 15 hS ?_
      (try simp only [pS])
      refine ts 16 hS ?_
      (try simp only [pS])
      refine ts 17 hS ?_
      (try simp only [pS])
      refine ts 18 hS ?_
      (try simp only [pS])
      refine ts 19 hS ?_
      (try simp only [pS])
      refine ts 20 hS ?_
      (try simp only [pS])
      refine ts 21 hS ?_
      (try simp only [pS])
      refine ts 22 hS ?_
      (try simp only [pS])
      refine ts 23 hS ?_
      (try simp only [pS])
      refine ts 24 hS ?_
      (try simp only [pS])
      refine ts 25 hS ?_
      (try simp only [pS])
      refine ts 26 hS ?_
      (try simp only [pS])
      refine ts 27 hS ?_
      (try simp only [pS])
      refine ts 28 hS ?_
      (try simp only [pS])
      refine ts 29 hS ?_
      (try simp only [pS])
      refine ts 30 hS ?_
      (try simp only [pS])
      refine tg 31 hS ?_
      (try simp only [pS])
      refine wpAnyH_done (by kernel_rfl) ?_ _
      go_wp2
      go_ret
      exact ⟨by first | rfl | (rw [hBf];rfl),below_next bV bd⟩
    · by_cases h2:64≤zat l k
      · have hBf:=HF.out (fun h=>h.2.1 h2)
        clear HF HT HZ
        generalize zat l k=z at *
        go_upto_region 6 with (fail)
        refine wp_region_held_drew (S:=fun u=>Below wr.drew.heap.size wr.drew u) (by kernel_rfl) (Below.refl _ _) (fun hS => ?_)
        refine tg 0 hS ?_
        (try simp only [pS])
        refine tc 1 hS (fun u hu=>(hu.cell (p:=⟨w.heap.size,2,none⟩) Q2.out.1).trans Q2.out.2) ?_
        (try simp only [pS])
        refine tg 2 hS ?_
        (try simp only [pS])
        refine tg 3 hS ?_
        (try simp only [pS])
        refine tc 4 hS (fun u hu=>(hu.cell (p:=⟨g,o+k,none⟩) QK.out.1).trans QK.out.2) ?_
        (try simp only [pS])
        refine tg 5 hS (v := .bool false) ?_ (hy:=by intro u hu;go_simp;try (first | with_reducible rfl | omega))
        (try simp only [pS])
        refine tg 6 hS ?_
        (try simp only [pS])
        refine tg 7 hS ?_
        (try simp only [pS])
        refine tc 8 hS (fun u hu=>(hu.cell (p:=⟨w.heap.size,2,none⟩) Q2.out.1).trans Q2.out.2) ?_
        (try simp only [pS])
        refine tg 9 hS ?_
        (try simp only [pS])
        refine tg 10 hS ?_
        (try simp only [pS])
        refine tc 11 hS (fun u hu=>(hu.cell (p:=⟨g,o+k,none⟩) QK.out.1).trans QK.out.2) ?_
        (try simp only [pS])
        refine tg 12 hS (v := .bool true) ?_ (hy:=by intro u hu;go_simp;try (first | with_reducible rfl | omega))
        (try simp only [pS])
        refine tg 13 hS ?_
        (try simp only [pS])
        refine tg 14 hS ?_
        (try simp only [pS])
        refine ts 15 hS ?_
        (try simp only [pS])
        refine ts 16 hS ?_
        (try simp only [pS])
        refine ts 17 hS ?_
        (try simp only [pS])
        refine ts 18 hS ?_
        (try simp only [pS])
        refine ts 19 hS ?_
        (try simp only [pS])
        refine ts 20 hS ?_
        (try simp only [pS])
        refine ts 21 hS ?_
        (try simp only [pS])
        refine ts 22 hS ?_
        (try simp only [pS])
        refine ts 23 hS ?_
        (try simp only [pS])
        refine ts 24 hS ?_
        (try simp only [pS])
        refine ts 25 hS ?_
        (try simp only [pS])
        refine ts 26 hS ?_
        (try simp only [pS])
        refine ts 27 hS ?_
        (try simp only [pS])
        refine ts 28 hS ?_
        (try simp only [pS])
        refine ts 29 hS ?_
        (try simp only [pS])
        refine ts 30 hS ?_
        (try simp only [pS])
        refine tg 31 hS ?_
        (try simp only [pS])
        refine wpAnyH_done (by kernel_rfl) ?_ _
        go_wp2
        go_ret
        exact ⟨by first | rfl | (rw [hBf];rfl),below_next bV bd⟩
      · by_cases h0:k=0
        · have hTt:=Hid.mk' (HT.out ⟨h1,h2,.inl h0⟩)
          have t3:decide ((0:Int)<(k:Int))=false:=decide_eq_false (by omega)
          have t4:¬(0:Int)<(k:Int):=by omega
          clear HF HT HZ h0
          generalize zat l k=z at *
          go_upto_region 6 with (fail)
          refine wp_region_held_drew (S:=fun u=>Below wr.drew.heap.size wr.drew u) (by kernel_rfl) (Below.refl _ _) (fun hS => ?_)
          refine tg 0 hS ?_
          (try simp only [pS])
          refine tc 1 hS (fun u hu=>(hu.cell (p:=⟨w.heap.size,2,none⟩) Q2.out.1).trans Q2.out.2) ?_
          (try simp only [pS])
          refine tg 2 hS ?_
          (try simp only [pS])
          refine tg 3 hS ?_
          (try simp only [pS])
          refine tc 4 hS (fun u hu=>(hu.cell (p:=⟨g,o+k,none⟩) QK.out.1).trans QK.out.2) ?_
          (try simp only [pS])
          refine tg 5 hS (v := .bool false) ?_ (hy:=by intro u hu;go_simp;try (first | with_reducible rfl | omega))
          (try simp only [pS])
          refine tg 6 hS ?_
          (try simp only [pS])
          refine tg 7 hS ?_
          (try simp only [pS])
          refine tc 8 hS (fun u hu=>(hu.cell (p:=⟨w.heap.size,2,none⟩) Q2.out.1).trans Q2.out.2) ?_
          (try simp only [pS])
          refine tg 9 hS ?_
          (try simp only [pS])
          refine tg 10 hS ?_
          (try simp only [pS])
          refine tc 11 hS (fun u hu=>(hu.cell (p:=⟨g,o+k,none⟩) QK.out.1).trans QK.out.2) ?_
          (try simp only [pS])
          refine tg 12 hS (v := .bool false) ?_ (hy:=by intro u hu;go_simp;try (first | with_reducible rfl | omega))
          (try simp only [pS])
          refine tg 13 hS ?_
          (try simp only [pS])
          refine tg 14 hS ?_
          (try simp only [pS])
          refine tg 15 hS ?_
          (try simp only [pS])
          refine tg 16 hS (v := .bool false) ?_ (hy:=by intro u hu;go_simp;try (first | with_reducible rfl | omega))
          (try simp only [pS])
          refine tg 17 hS ?_
          (try simp only [pS])
          refine ts 18 hS ?_
          (try simp only [pS])
          refine ts 19 hS ?_
          (try simp only [pS])
          refine ts 20 hS ?_
          (try simp only [pS])
          refine ts 21 hS ?_
          (try simp only [pS])
          refine ts 22 hS ?_
          (try simp only [pS])
          refine ts 23 hS ?_
          (try simp only [pS])
          refine ts 24 hS ?_
          (try simp only [pS])
          refine ts 25 hS ?_
          (try simp only [pS])
          refine ts 26 hS ?_
          (try simp only [pS])
          refine ts 27 hS ?_
          (try simp only [pS])
          refine ts 28 hS ?_
          (try simp only [pS])
          refine ts 29 hS ?_
          (try simp only [pS])
          refine tg 30 hS ?_
          (try simp only [pS])
          refine tg 31 hS ?_
          (try simp only [pS])
          refine wpAnyH_done (by kernel_rfl) ?_ _
          go_wp2
          go_roundw
          case rel=>exact ⟨k+1,by omega,by go_num,hTt.out,bd⟩
          case measure=>simp [intOf];omega
        · have t3:(0:Int)<(k:Int):=by omega
          obtain ⟨g',o',e',hg',hc'⟩:=HZ.out (k - 1) _ (zat_get (by rw [←Hn.out];omega))
          cases e'
          have hcp:=(hb.cell (p:=⟨g,o+(k - 1),none⟩) (Nat.lt_of_lt_of_le hg bV.size)).trans ((bV.cell (p:=⟨g,o+(k - 1),none⟩) hg).trans hc')
          obtain ⟨m,hm⟩:∃ m,m=k - 1:=⟨_,rfl⟩
          have t4:IntKind.i64.wrap ((k:Int) - 1)=(m:Int):=by simp only [IntKind.wrap_i64];omega
          have t5:(0:Int)≤(m:Int)∧(m:Int)<(n:Int):=by omega
          rw [←hm] at hcp HF HT
          have QM:Hid (g<wr.drew.heap.size∧wr.drew.cell? ⟨g,o+m,none⟩=some (.int .i64 (zat l m))):=Hid.mk' ⟨block_lt_of_cell hcp,hcp⟩
          clear hcp
          clear hc' hg' HZ hm
          by_cases h3:zat l k≤zat l m
          · have hBf:=HF.out (fun h=>by rcases h.2.2 with h | h;exact h0 h;exact h h3)
            clear HF HT
            generalize zat l k=z at *
            generalize zat l m=z' at *
            go_upto_region 6 with (fail)
            refine wp_region_held_drew (S:=fun u=>Below wr.drew.heap.size wr.drew u) (by kernel_rfl) (Below.refl _ _) (fun hS => ?_)
            refine tg 0 hS ?_
            (try simp only [pS])
            refine tc 1 hS (fun u hu=>(hu.cell (p:=⟨w.heap.size,2,none⟩) Q2.out.1).trans Q2.out.2) ?_
            (try simp only [pS])
            refine tg 2 hS ?_
            (try simp only [pS])
            refine tg 3 hS ?_
            (try simp only [pS])
            refine tc 4 hS (fun u hu=>(hu.cell (p:=⟨g,o+k,none⟩) QK.out.1).trans QK.out.2) ?_
            (try simp only [pS])
            refine tg 5 hS (v := .bool false) ?_ (hy:=by intro u hu;go_simp;try (first | with_reducible rfl | omega))
            (try simp only [pS])
            refine tg 6 hS ?_
            (try simp only [pS])
            refine tg 7 hS ?_
            (try simp only [pS])
            refine tc 8 hS (fun u hu=>(hu.cell (p:=⟨w.heap.size,2,none⟩) Q2.out.1).trans Q2.out.2) ?_
            (try simp only [pS])
            refine tg 9 hS ?_
            (try simp only [pS])
            refine tg 10 hS ?_
            (try simp only [pS])
            refine tc 11 hS (fun u hu=>(hu.cell (p:=⟨g,o+k,none⟩) QK.out.1).trans QK.out.2) ?_
            (try simp only [pS])
            refine tg 12 hS (v := .bool false) ?_ (hy:=by intro u hu;go_simp;try (first | with_reducible rfl | omega))
            (try simp only [pS])
            refine tg 13 hS ?_
            (try simp only [pS])
            refine tg 14 hS ?_
            (try simp only [pS])
            refine tg 15 hS ?_
            (try simp only [pS])
            refine tg 16 hS (v := .bool true) ?_ (hy:=by intro u hu;go_simp;try (first | with_reducible rfl | omega))
            (try simp only [pS])
            refine tg 17 hS ?_
            (try simp only [pS])
            refine tg 18 hS ?_
            (try simp only [pS])
            refine tc 19 hS (fun u hu=>(hu.cell (p:=⟨w.heap.size,2,none⟩) Q2.out.1).trans Q2.out.2) ?_
            (try simp only [pS])
            refine tg 20 hS ?_
            (try simp only [pS])
            refine tg 21 hS ?_
            (try simp only [pS])
            refine tc 22 hS (fun u hu=>(hu.cell (p:=⟨g,o+k,none⟩) QK.out.1).trans QK.out.2) ?_
            (try simp only [pS])
            refine tg 23 hS ?_
            (try simp only [pS])
            refine tc 24 hS (fun u hu=>(hu.cell (p:=⟨w.heap.size,2,none⟩) Q2.out.1).trans Q2.out.2) ?_
            (try simp only [pS])
            refine tg 25 hS ?_
            (try simp only [pS])
            refine tg 26 hS ?_
            (try simp only [pS])
            refine tg 27 hS ?_
            (try simp only [pS])
            refine tc 28 hS (fun u hu=>(hu.cell (p:=⟨g,o+m,none⟩) QM.out.1).trans QM.out.2) ?_
            (try simp only [pS])
            refine tg 29 hS (v := .bool true) ?_ (hy:=by intro u hu;go_simp;try (first | with_reducible rfl | omega))
            (try simp only [pS])
            refine tg 30 hS ?_
            (try simp only [pS])
            refine tg 31 hS ?_
            (try simp only [pS])
            refine wpAnyH_done (by kernel_rfl) ?_ _
            go_wp2
            go_ret
            exact ⟨by first | rfl | (rw [hBf];rfl),below_next bV bd⟩
          · have hTt:=Hid.mk' (HT.out ⟨h1,h2,.inr h3⟩)
            clear HF HT
            generalize zat l k=z at *
            generalize zat l m=z' at *
            have h3d:decide (z≤z')=false:=by simp [h3]
            go_upto_region 6 with (fail)
            refine wp_region_held_drew (S:=fun u=>Below wr.drew.heap.size wr.drew u) (by kernel_rfl) (Below.refl _ _) (fun hS => ?_)
            refine tg 0 hS ?_
            (try simp only [pS])
            refine tc 1 hS (fun u hu=>(hu.cell (p:=⟨w.heap.size,2,none⟩) Q2.out.1).trans Q2.out.2) ?_
            (try simp only [pS])
            refine tg 2 hS ?_
            (try simp only [pS])
            refine tg 3 hS ?_
            (try simp only [pS])
            refine tc 4 hS (fun u hu=>(hu.cell (p:=⟨g,o+k,none⟩) QK.out.1).trans QK.out.2) ?_
            (try simp only [pS])
            refine tg 5 hS (v := .bool false) ?_ (hy:=by intro u hu;go_simp;try (first | with_reducible rfl | omega))
            (try simp only [pS])
            refine tg 6 hS ?_
            (try simp only [pS])
            refine tg 7 hS ?_
            (try simp only [pS])
            refine tc 8 hS (fun u hu=>(hu.cell (p:=⟨w.heap.size,2,none⟩) Q2.out.1).trans Q2.out.2) ?_
            (try simp only [pS])
            refine tg 9 hS ?_
            (try simp only [pS])
            refine tg 10 hS ?_
            (try simp only [pS])
            refine tc 11 hS (fun u hu=>(hu.cell (p:=⟨g,o+k,none⟩) QK.out.1).trans QK.out.2) ?_
            (try simp only [pS])
            refine tg 12 hS (v := .bool false) ?_ (hy:=by intro u hu;go_simp;try (first | with_reducible rfl | omega))
            (try simp only [pS])
            refine tg 13 hS ?_
            (try simp only [pS])
            refine tg 14 hS ?_
            (try simp only [pS])
            refine tg 15 hS ?_
            (try simp only [pS])
            refine tg 16 hS (v := .bool true) ?_ (hy:=by intro u hu;go_simp;try (first | with_reducible rfl | omega))
            (try simp only [pS])
            refine tg 17 hS ?_
            (try simp only [pS])
            refine tg 18 hS ?_
            (try simp only [pS])
            refine tc 19 hS (fun u hu=>(hu.cell (p:=⟨w.heap.size,2,none⟩) Q2.out.1).trans Q2.out.2) ?_
            (try simp only [pS])
            refine tg 20 hS ?_
            (try simp only [pS])
            refine tg 21 hS ?_
            (try simp only [pS])
            refine tc 22 hS (fun u hu=>(hu.cell (p:=⟨g,o+k,none⟩) QK.out.1).trans QK.out.2) ?_
            (try simp only [pS])
            refine tg 23 hS ?_
            (try simp only [pS])
            refine tc 24 hS (fun u hu=>(hu.cell (p:=⟨w.heap.size,2,none⟩) Q2.out.1).trans Q2.out.2) ?_
            (try simp only [pS])
            refine tg 25 hS ?_
            (try simp only [pS])
            refine tg 26 hS ?_
            (try simp only [pS])
            refine tg 27 hS ?_
            (try simp only [pS])
            refine tc 28 hS (fun u hu=>(hu.cell (p:=⟨g,o+m,none⟩) QM.out.1).trans QM.out.2) ?_
            (try simp only [pS])
            refine tg 29 hS (v := .bool false) ?_ (hy:=by intro u hu;go_simp;try (first | with_reducible rfl | omega))
            (try simp only [pS])
            refine tg 30 hS ?_
            (try simp only [pS])
            refine tg 31 hS ?_
            (try simp only [pS])
            refine wpAnyH_done (by kernel_rfl) ?_ _
            go_wp2
            go_roundw
            case rel=>exact ⟨k+1,by omega,by go_num,hTt.out,bd⟩
            case measure=>simp [intOf];omega
  · obtain rfl:k=n:=by omega
    have hBt:B=true:=by rw [HB.out];exact hal
    go_wp2
    go_ret
    exact ⟨by rw [hBt];rfl,below_next bV hb⟩
theorem rRightParent_any (cs:List Value) (d:PrD) (hl:d.um.length<140737488355000) (w:World) (hd:PrIn w cs d):Calls Try.prog 45 #[.agg cs.toArray] w fun e w'=>e = .returned (.bool (allU (prA d) 3))∧Below w.heap.size w w':=by
 obtain ⟨v0,v1,v2,rfl,h0,h1,h2⟩:=hd
 obtain ⟨x0,c0,rfl,-⟩:=h0.src
 obtain ⟨x1,c1,rfl,-⟩:=h1.src
 obtain ⟨x,c,rfl,hz⟩:=h2
 have hF:¬prR d→allU (prA d) 3=false:=fun h=>Bool.eq_false_iff.2 (fun e=>h ((pr_all d).1 e))
 by_cases g0:(d.enc.n:Int)=32
 rotate_left
 · rw [hF (fun h=>by have:=h.1;omega)]
   exact rRP_a x0 x1 x _ _ _ c0 c1 c g0 w
 have hrs:d.hash.n=0∨d.hash.n=32→allU (prA d) 3=risU d.um d.um.length:=fun h=>by
  have e:(prR d↔risU d.um d.um.length=true):=⟨fun e=>e.2.2,fun e=>⟨by omega,h,e⟩⟩
  rw [Bool.eq_iff_iff,pr_all,e]
 by_cases g1:(d.hash.n:Int)=0
 · rw [hrs (.inl (by omega))]
   exact rRP_c x0 x1 x _ _ _ c0 c1 c d.um rfl hl g0 g1 w hz
 by_cases g2:(d.hash.n:Int)=32
 · rw [hrs (.inr (by omega))]
   exact rRP_d x0 x1 x _ _ _ c0 c1 c d.um rfl hl g0 g1 g2 w hz
 · rw [hF (fun h=>by have:=h.2.1;omega)]
   exact rRP_b x0 x1 x _ _ _ c0 c1 c g0 g1 g2 w
end Go.Proofs.Ytgdcmibdjiaofaa
namespace Go.Proofs.Ytgdcmibdjiaofaa
open Go.RowKit
theorem infoRP:(Try.prog.info? 44).map (·.size)=some 3:=by kernel_rfl
section
variable {ops:Array Oper} {rest:List Oper} {op:Oper} {a:Act} {w:World} {Q:Exit→Act→World→Prop}
theorem ldP (x:Operand) (ho:op.op = .load 44 x) {g o:Nat} {A B C:Value} (hx:a.eval x = .pointer (some ⟨g,o,none⟩)) (hc:w.rangeAt g o [A,B,C])
 (h:wpList Try.prog ops Q rest (a.put op.dst (.agg #[A,B,C])) w) (hgd:op.guard=none):wpList Try.prog ops Q (op :: rest) a w :=
 wpList_load_mid hgd 44 x ho g o hx [A,B,C] _ hc Try.underlying44 rfl infoRP h
theorem ldPg (x:Operand) (ho:op.op = .load 44 x) {g o:Nat} {A B C:Value} (hx:a.eval x = .pointer (some ⟨g,o,none⟩)) (hc:w.rangeAt g o [A,B,C])
 (h:wpList Try.prog ops Q rest (a.put op.dst (.agg #[A,B,C])) w) (hw:Region.wanted op (yielded ops a.tmps)=true):wpList Try.prog ops Q (op :: rest) a w :=
 wpList_load_on hw 44 x ho g o hx [A,B,C] _ hc Try.underlying44 rfl infoRP h
theorem stP (x y:Operand) (ho:op.op = .store 44 x y) {g o:Nat} {A B C:Value} (hx:a.eval x = .pointer (some ⟨g,o,none⟩)) (hy:a.eval y = .agg #[A,B,C])
 (h1:[A,B,C].all (·.oneCell')=true) (ht:w.there g o 3) (h:wpList Try.prog ops Q rest (a.put op.dst undef) (w.setCells g o [A,B,C])) (hgd:op.guard=none):wpList Try.prog ops Q (op :: rest) a w :=
 wpList_store_mid hgd 44 x y ho g o #[A,B,C] hx hy ht infoRP (by simpa using h1) h
end
def prK (d:PrD):Prop:=(∀ j,d.enc.b j<256)∧∀ j,d.hash.b j<256
theorem rJoinP (g:Nat) (v0 v1 v2:Value) (d:PrD) (ha:d.enc.n≤65536) (hb:d.hash.n≤65536) (hc:4*d.um.length≤65536) (la:∀ j,d.enc.b j<256) (lb:∀ j,d.hash.b j<256) (w:World) (r:RW w g 0 [v0,v1,v2]) (h0:BytesIn w v0 d.enc.n d.enc.b) (h1:BytesIn w v1 d.hash.n d.hash.b) (h2:BytesIn w v2 (4*d.um.length) (umB d.um d.um.length)):Calls Try.prog 61 #[.slice (some ⟨g,0,none⟩) 3 3] w fun e w'=>∃ s,e = .returned s∧Own w.heap.size w' s (prLen d) (prByt d)∧Below w.heap.size w w' :=
 rJoin3 g v0 v1 v2 d.enc d.hash ⟨4*d.um.length,umB d.um d.um.length⟩ ha hb hc la lb (fun j=>allB_lt (fun _ j=>beN_lt _ _ j) _ j) w r h0 h1 h2
set_option maxRecDepth 20000 in
set_option maxHeartbeats 1000000 in
theorem rParentBytes_any (cs:List Value) (d:PrD) (hR:prR d) (hk:prK d) (w:World) (hd:PrIn w cs d):Calls Try.prog 46 #[.agg cs.toArray] w fun e w'=>∃ s,e = .returned s∧Own w.heap.size w' s (prLen d) (prByt d)∧Below w.heap.size w w':=by
 obtain ⟨v0,v1,v2,rfl,h0,h1,h2⟩:=hd
 obtain ⟨x0,c0,rfl,-⟩:=h0.src
 obtain ⟨x1,c1,rfl,-⟩:=h1.src
 have hlen:=risU_len hR.2.2
 have HR:=Hid.mk' hR
 obtain ⟨x,c,rfl,hz⟩:=h2
 have HZ:=Hid.mk' hz
 have k1:=RW.fresh w [.slice x0 d.enc.n c0,.slice x1 d.hash.n c1,.slice x d.um.length c] 44
 have bV:Below w.heap.size w (w.alloc (.cells #[.slice x0 d.enc.n c0,.slice x1 d.hash.n c1,.slice x d.um.length c] 44)):=(Below.refl _ _).alloc (Nat.le_refl _) _
 obtain ⟨W,hW⟩:∃ W,W=w.alloc (.cells #[.slice x0 d.enc.n c0,.slice x1 d.hash.n c1,.slice x d.um.length c] 44):=⟨_,rfl⟩
 rw [show w.alloc (.cells ([.slice x0 d.enc.n c0,.slice x1 d.hash.n c1,.slice x d.um.length c]).toArray 44)=W from hW.symm] at k1
 rw [←hW] at bV
 have HW:=Hid.mk' hW
 have K1:=Hid.mk' k1
 have H0:=Hid.mk' (h0.keep bV)
 have H1:=Hid.mk' (h1.keep bV)
 obtain ⟨n,hn⟩:∃ n,n=d.um.length:=⟨_,rfl⟩
 have Hn:=Hid.mk' hn
 rw [←hn] at hlen HW K1 ⊢
 clear hz hW k1 hn h0 h1 hR
 go_enter Try.func46,Try.ntmps46
 go_upto_region 1 with (fail)
 rw [←HW.out]
 go_wp2
 go_loopw [3,4] (fun t i wr=>∃ k:Nat,k≤n∧i = .int .i64 k∧(∃ xa ca,t = .slice xa (4*k) ca∧Own W.heap.size wr (.slice xa (4*k) ca) (4*k) (umB d.um k))∧Below W.heap.size W wr) (fun _ i _=>n - (intOf i).toNat)
 case atStart=>exact ⟨0,Nat.zero_le _,rfl,⟨none,0,rfl,Own.nil _ _ _⟩,Below.refl _ _⟩
 case round =>
  obtain ⟨k,hk',rfl,⟨xa,ca,rfl,own⟩,hb⟩:=hrel
  have q2:=(K1.out.still hb).cell (o:=2) rfl
  by_cases hlt:k<n
  · obtain ⟨g,ob,rfl,hg,hc⟩:=HZ.out k _ (zat_get (by rw [←Hn.out];exact hlt))
    have hza:=risU_at HR.out.2.2 (show k<d.um.length by rw [←Hn.out];exact hlt)
    have hcw:=(hb.cell (p:=⟨g,ob+k,none⟩) (Nat.lt_of_lt_of_le hg bV.size)).trans ((bV.cell (p:=⟨g,ob+k,none⟩) hg).trans hc)
    obtain ⟨z,hzz⟩:∃ z:Nat,z=(zat d.um k).toNat:=⟨_,rfl⟩
    have ez:zat d.um k=(z:Int):=by omega
    rw [ez] at hcw
    have c1:=rbytes_any z 4 (by decide) wr
    have HN:Hid (umB d.um (k+1)=cat (4*k) (umB d.um k) (beN z 4)):=Hid.mk' (by rw [hzz];show cat (sumN (fun _=>4) k) _ _=_;rw [umL];rfl)
    have h4:4*k+4≤140737488355328:=by omega
    have t1:(0:Int)≤(k:Int)∧(k:Int)<(n:Int):=by omega
    have t2:(k:Int)<(n:Int):=by omega
    obtain ⟨Zi,hZi⟩:∃ Zi:Int,Zi=(z:Int):=⟨_,rfl⟩
    rw [←hZi] at c1 hcw
    obtain ⟨T,hT⟩:∃ T,T=4*k:=⟨_,rfl⟩
    have HT:=Hid.mk' hT
    rw [←hT] at own h4 HN ⊢
    clear hza ez hzz hc hZi hT
    generalize umB d.um k=F at *
    go_wp2_with (first
     | (go_at_call 62;refine c1.mono ?_;clear c1;rintro e w1 ⟨s1,rfl,hs1,b1⟩;(obtain ⟨x1',c1',hs1',hxn1,hc1,hsrc1⟩:=(BytesIn.of_own hs1).src);subst hs1';have hsrc:=hsrc1 w1 (Below.refl _ _);have ownW:=own.below b1;have hbw1:=below_next hb b1)
     | (at_builtin;refine wpList_append_bytes rfl (.tmp 12) (.tmp 18) rfl W.heap.size _ T F rfl ownW x1' 4 c1' (beN z 4) rfl hsrc hxn1 h4 hbw1.size ?_;intro v2 w3 own2 grow2;have hbw2:=Own.grown hbw1 grow2 ownW (Nat.le_refl _) hbw1.size;(obtain ⟨x2,c3,hv2⟩:=own2.slice);subst hv2))
    go_roundw
    case rel=>exact ⟨k+1,by omega,by go_num,⟨x2,c3,by rw [HT.out];rfl,by rw [HN.out];rw [show 4*(k+1)=T+4 by rw [HT.out];omega];exact own2⟩,hbw2⟩
    case measure=>simp [intOf];omega
  · obtain rfl:k=n:=by omega
    have q0:=(K1.out.still hb).cell (o:=0) rfl
    have q1:=(K1.out.still hb).cell (o:=1) rfl
    have bj:Below wr.heap.size wr (wr.alloc (.cells #[.slice x0 d.enc.n c0,.slice x1 d.hash.n c1,.slice xa (4*k) ca] 22)):=(Below.refl _ _).alloc (Nat.le_refl _) _
    have cj:=rJoinP wr.heap.size _ _ _ d (by have:=HR.out.1;omega) (by have:=HR.out.2.1;omega) (by rw [←Hn.out];omega) hk.1 hk.2 _ (RW.fresh wr [.slice x0 d.enc.n c0,.slice x1 d.hash.n c1,.slice xa (4*k) ca] 22) ((H0.out.keep hb).keep bj) ((H1.out.keep hb).keep bj) (by rw [←Hn.out];exact (BytesIn.of_own own).keep bj)
    generalize d.enc.n=n0 at *
    generalize d.hash.n=n1 at *
    obtain ⟨T,hT⟩:∃ T,T=4*k:=⟨_,rfl⟩
    rw [←hT] at bj cj ⊢
    clear hT own
    go_wp2_with (go_at_call 61;refine cj.mono ?_;clear cj;rintro e w5 ⟨s5,rfl,o5,b5⟩)
    go_ret
    exact ⟨_,rfl,o5.base (Nat.le_trans (below_next bV hb).size bj.size),below_next (below_next (below_next bV hb) bj) b5⟩
set_option maxRecDepth 20000 in
set_option maxHeartbeats 1000000 in
theorem rPutParent_any (cs:List Value) (d:PrD) (hk:prK d) (hl:d.um.length<140737488355000) (w:World) (hd:PrIn w cs d):Calls Try.prog 21 #[.agg cs.toArray] w fun e w'=>Below w.heap.size w w'∧PutA (prR d) (prLen d) (prByt d) e w':=by
 have hd':=hd
 obtain ⟨v0,v1,v2,rfl,-⟩:=hd
 have k1:=RW.fresh w [v0,v1,v2] 44
 have bV:Below w.heap.size w (w.alloc (.cells #[v0,v1,v2] 44)):=(Below.refl _ _).alloc (Nat.le_refl _) _
 obtain ⟨W,hW⟩:∃ W,W=w.alloc (.cells #[v0,v1,v2] 44):=⟨_,rfl⟩
 rw [show w.alloc (.cells [v0,v1,v2].toArray 44)=W from hW.symm] at k1
 rw [←hW] at bV
 have HW:=Hid.mk' hW
 have cr:=rRightParent_any _ d hl W (hd'.keep bV)
 have cb:=fun hR W' hb=>rParentBytes_any _ d hR hk W' ((hd'.keep bV).keep hb)
 have rr:=k1.range
 have K1:=Hid.mk' k1
 clear hW hd' k1
 by_cases hR:prR d
 · rw [(pr_all d).2 hR] at cr
   have HR:=Hid.mk' hR
   replace cb:=Hid.mk' (cb hR)
   clear hR
   go_enter Try.func21,Try.ntmps21
   go_upto_region 1 with (fail)
   rw [←HW.out]
   go_wp2_with (first
    | (with_reducible (refine id (?_:wpList _ _ _ _ _ _));refine ldP _ rfl rfl rr ?_ rfl)
    | (go_at_call 45;refine cr.mono ?_;clear cr;rintro e w2 ⟨rfl,b2⟩;(replace rr:=(K1.out.still b2).range);(have cb2:=cb.out w2 b2))
    | (go_at_call 46;refine cb2.mono ?_;clear cb2;rintro e w3 ⟨s3,rfl,o3,b3⟩))
   go_ret2
   exact ⟨below_next (below_next bV b2) b3,by unfold PutA;rw [if_pos HR.out];exact ⟨_,rfl,BytesIn.of_own o3⟩⟩
 · rw [Bool.eq_false_iff.2 (fun e=>hR ((pr_all d).1 e))] at cr
   have HR:=Hid.mk' hR
   clear cb hR
   go_enter Try.func21,Try.ntmps21
   go_upto_region 1 with (fail)
   rw [←HW.out]
   go_wp2_with (first
    | (with_reducible (refine id (?_:wpList _ _ _ _ _ _));refine ldP _ rfl rfl rr ?_ rfl)
    | (go_at_call 45;refine cr.mono ?_;clear cr;rintro e w2 ⟨rfl,b2⟩))
   go_ret2
   exact ⟨below_next bV b2,by unfold PutA;rw [if_neg HR.out];rfl⟩
end Go.Proofs.Ytgdcmibdjiaofaa
namespace Go.Proofs.Ytgdcmibdjiaofaa
open Go.RowKit
def celN (w:World) (g o:Nat):Nat:=match w.cell? ⟨g,o,none⟩ with
 | some (.int _ z)=>z.toNat
 | _=>0
theorem celN_of {w:World} {g o:Nat} {z:Int} (h:w.cell? ⟨g,o,none⟩=some (.int .i64 z)):celN w g o=z.toNat:=by unfold celN;rw [h]
theorem OwnZ.rest {X:List Nat} {base:Nat} {w w':World} {v:Value} {l:List Int} (h:OwnZ base w v l) (hb:Rest X w w') (hX:∀ x,x∈X→x<base):OwnZ base w' v l:=own_rest h hb hX
theorem RdB.cells {lo hi:Nat} {w:World} {g L:Nat} {B:Nat→Nat} {r:Rd} (h:RdB lo hi w g L B r):w.cell? ⟨g,1,none⟩=some (.int .i64 (r.at_:Int))∧w.cell? ⟨g,2,none⟩=some (.int .i64 r.e):=by
 obtain ⟨v,rr,-⟩:=h
 exact ⟨rr.cell (o:=1) rfl,rr.cell (o:=2) rfl⟩
theorem run_append_zz (w:World) (base:Nat) (v:Value) (l:List Int) (y:Int) (hown:OwnZ base w v l) (hl:l.length+1≤1000000) (hbase:base≤w.heap.size) :
 ∃ v' w',(Builtin.append_ #[42,42] 42 #[v,.slice (some ⟨w.heap.size,0,none⟩) 1 1]).run Try.prog (w.alloc (.cells #[.int .i64 y] 3)) = .ok v' w'∧OwnZ base w' v' (l ++ [y])∧Below base w w':=by
 obtain ⟨i0,hi,hz0,hz1,hz2⟩:=info_parts info_int
 have hb:Below base w (w.alloc (.cells #[.int .i64 y] 3)):=(Below.refl _ _).alloc hbase _
 have hz:base≤(w.alloc (.cells #[.int .i64 y] 3)).heap.size:=by simp only [World.size_alloc];omega
 obtain ⟨v',w',h1,h2,h3,-,-⟩:=run_append_own_at (P:=Try.prog) (w.alloc (.cells #[.int .i64 y] 3)) base 42 42 3 i0 (.int .i64 0) 1 8 und_ints hi hz0 hz1 hz2 rfl (by decide) v l.length _ (World.ownsRow.alloc hown _) ⟨w.heap.size,0,none⟩ 1 1 [.int .i64 y] rfl (one_new w _ _) (one_cell _ _) (by unfold maxLen;omega) (by omega) hz
 refine ⟨v',w',h1,?_,below_grown hb h3 (World.ownsRow.alloc hown _) (Nat.le_refl _) hz⟩
 unfold OwnZ
 rw [List.length_append,List.map_append]
 exact h2
theorem exec_appZ {o:Oper} {a:Act} {w w':World} {v':Value} (s x:Operand) (ho:o.op = .call { callee := .builtin .append,args:=#[s,x],argTypes:=#[42,42] }) (hty:o.type=42) {sv xv:Value} (hs:a.eval s=sv) (hx:a.eval x=xv) (hrun:(Builtin.append_ #[42,42] 42 #[sv,xv]).run Try.prog w = .ok v' w'):(execOp a.eval o).run Try.prog w = .ok (.value v') w':=by
 simp [execOp,ho,hty,resolve,invoke,builtin,hs,hx,hrun,Result.andThen]
theorem onlyT {P:Program} {md:Region.Mode} {ops:Array Oper} {Q:Exit→Act→World→Prop} {S:World→Prop} {fuel:Nat} {listed:Array Bool} {a:Act} {w:World} (i:Nat) {oi:Oper} (ty x y:Nat) {g off:Nat} {cs:List Value} (ds:List Value) (r:RW w g off cs) (hl:ds.length=cs.length) (hk:S (w.setCells g off ds)) (hin:(P.info? ty).map (·.size)=some ds.toArray.size) (h1:ds.toArray.all (·.oneCell')=true) (h:wpAnyH P md ops Q S fuel (listed.setIfInBounds i true) (a.put oi.dst undef) (w.setCells g off ds))
 (hi:ops.toList[i]? = some oi:=by rfl) (hr:Region.ready md ops listed=[i]:=by kernel_rfl) (ho:oi.op = .store ty (.tmp x) (.tmp y):=by rfl) (hx:a.eval (.tmp x) = .pointer (some ⟨g,off,none⟩):=by rfl) (hy:a.eval (.tmp y) = .agg ds.toArray:=by rfl) (hw:Region.wanted oi (yielded ops a.tmps)=true:=by rfl):wpAnyH P md ops Q S (fuel+1) listed a w :=
 wpAnyH_ready hr (by simp) (aT oi ty x y ds r hl hk hin h1 (fun _=>h) AllReadyH.nil ho hx hy (at_list hi) hw)
structure RB (B:Nat) (X:List Nat) (w w':World):Prop where
 os:w'.os=w.os
 tape:w'.tape=w.tape
 output:w'.output=w.output
 size:w.heap.size≤w'.heap.size
 block:∀ k,k<B→k ∉ X→w'.heap[k]? = w.heap[k]?
theorem RB.refl (B:Nat) (X:List Nat) (w:World):RB B X w w:=⟨rfl,rfl,rfl,Nat.le_refl _,fun _ _ _=>rfl⟩
theorem RB.trans {B:Nat} {X:List Nat} {u v w:World} (h:RB B X u v) (k:RB B X v w):RB B X u w :=
 ⟨k.os.trans h.os,k.tape.trans h.tape,k.output.trans h.output,Nat.le_trans h.size k.size,fun i hi hb=>(k.block i hi hb).trans (h.block i hi hb)⟩
theorem RB.of_below {B C:Nat} {X:List Nat} {w w':World} (h:Below C w w') (hB:B≤C):RB B X w w':=⟨h.os,h.tape,h.output,h.size,fun k hk _=>h.block k (by omega)⟩
theorem RB.of_out {B b o n:Nat} {X:List Nat} {w w':World} (h:Out b o n w w') (hb:b∈X) (hB:B≤w.heap.size):RB B X w w':=⟨h.os,h.tape,h.output,h.size,fun k hk hn=>h.block k (by omega) (fun e=>hn (e ▸ hb))⟩
theorem RB.mono {B:Nat} {X Y:List Nat} {w w':World} (h:RB B X w w') (hs:∀ x,x∈X→x∈Y):RB B Y w w':=⟨h.os,h.tape,h.output,h.size,fun k hk hn=>h.block k hk (fun e=>hn (hs k e))⟩
theorem RB.cell {B:Nat} {X:List Nat} {w w':World} (h:RB B X w w') {c q:Nat} (hc:c<B) (hn:c ∉ X):w'.cell? ⟨c,q,none⟩=w.cell? ⟨c,q,none⟩:=World.cell?_of_block (w:=w) (h.block c hc hn)
theorem RB.frozen {B:Nat} {X:List Nat} {w w':World} (h:RB B X w w') {c q:Nat} (hc:c<B) (hn:c ∉ X):w'.frozen? ⟨c,q,none⟩=w.frozen? ⟨c,q,none⟩:=World.frozen?_of_block (w:=w) (h.block c hc hn)
theorem RW.rb {B:Nat} {X:List Nat} {w w':World} {g o:Nat} {cs:List Value} (h:RW w g o cs) (hb:RB B X w w') (hg:g<B) (hn:g ∉ X):RW w' g o cs :=
 ⟨fun j v hv=>(hb.cell hg hn).trans (h.range j v hv),fun j hj=>by
   rw [hb.cell hg hn,hb.frozen hg hn];exact h.there j hj,Nat.lt_of_lt_of_le h.lt hb.size⟩
theorem Rest.rb {X:List Nat} {u v w:World} (h:Rest X u v) (k:RB u.heap.size X v w):Rest X u w :=
 ⟨k.os.trans h.os,k.tape.trans h.tape,k.output.trans h.output,Nat.le_trans h.size k.size,fun i hi hb=>(k.block i hi hb).trans (h.block i hi hb)⟩
def RPs (p gu m:Nat) (C:Nat→Nat) (va vb:Value) (w3 w4 wr:World):Prop:=∃ vz lst rd,RW wr p 0 [va,vb,vz]∧OwnZ w4.heap.size wr vz lst∧RdB w3.heap.size w4.heap.size wr gu m C rd∧Rest [p,gu] w4 wr∧((∃ k,4*k≤m∧rd=⟨4*k,0⟩∧lst=l4 C k)∨(∃ k,4*k<m∧m<4*k+4∧rd=⟨4*k,20⟩∧lst=l4 C k ++ [0]))
def RPa (w:World) (lo hi g L:Nat) (B:Nat→Nat) (r:Rd) (e:Ending) (w':World):Prop :=
 ∃ x0 n0 c0 x1 n1 c1 x2 n2 c2,e = .returned (.tuple #[.agg #[.slice x0 n0 c0,.slice x1 n1 c1,.slice x2 n2 c2],.bool (decide ((vx L B (rp L B r 2).2).n%4=0))])∧((vx L B (rp L B r 2).2).n%4=0→PrAt w.heap.size w' [.slice x0 n0 c0,.slice x1 n1 c1,.slice x2 n2 c2] (rp L B r 3).1 (.slice x0 n0 c0) (.slice x1 n1 c1) (.slice x2 n2 c2))∧RdB lo hi w' g L B (rp L B r 3).2∧Rest [g] w w'
set_option maxRecDepth 20000 in
set_option maxHeartbeats 1000000 in
theorem rReadParent_any (lo hi g L:Nat) (B:Nat→Nat) (lB:∀ j,B j<256) (r:Rd) (hL:L<140737488355000) (w:World) (hR:RdB lo hi w g L B r):Calls Try.prog 48 #[pA g 0] w (RPa w lo hi g L B r):=by
 have hgl:=hR.ge
 have hgh:=hR.lt
 have hhs:=hR.size
 have bV:Below w.heap.size w (w.alloc (.cells #[.slice none 0 0,.slice none 0 0,.slice none 0 0] 44)):=(Below.refl _ _).alloc (Nat.le_refl _) _
 have k2:=RW.fresh w [.slice none 0 0,.slice none 0 0,.slice none 0 0] 44
 have s2:(w.alloc (.cells #[.slice none 0 0,.slice none 0 0,.slice none 0 0] 44)).heap.size=w.heap.size+1:=by simp
 obtain ⟨V,hV⟩:∃ V,V=w.alloc (.cells #[.slice none 0 0,.slice none 0 0,.slice none 0 0] 44):=⟨_,rfl⟩
 rw [show w.alloc (.cells [.slice none 0 0,.slice none 0 0,.slice none 0 0].toArray 44)=V from hV.symm] at k2
 rw [←hV] at bV s2
 have HV:=Hid.mk' hV
 have R0:=hR.keep bV
 have cv:=rVecB_any lo hi g L B lB r hL V R0
 have S2:=Hid.mk' s2
 have K2:=Hid.mk' k2
 obtain ⟨Pst,hP⟩:∃ Pst:Ending→World→Prop,Pst=RPa w lo hi g L B r:=⟨_,rfl⟩
 have HP0:=Hid.mk' hP
 rw [←hP]
 clear hV R0 s2 k2 hP
 go_enter Try.func48,Try.ntmps48
 go_upto_region 1 with (fail)
 rw [←HV.out]
 go_upto_region 2 with (go_at_call 55;refine cv.mono ?_;clear cv;rintro e w1 ⟨s1,rfl,o1,R1,x1⟩;obtain ⟨y0,c0,rfl⟩:=o1.slice)
 have X1:Rest [g] w w1:=(Rest.of_below bV).trans (Rest.of_out x1 (by simp))
 have hw1:V.heap.size≤w1.heap.size:=x1.size
 obtain ⟨p,hp⟩:∃ p,p=w1.heap.size:=⟨_,rfl⟩
 have k3:=RW.fresh w1 [.slice y0 (vecD L B r).1 c0,.slice none 0 0,.slice none 0 0] 44
 have b3:Below w1.heap.size w1 (w1.alloc (.cells #[.slice y0 (vecD L B r).1 c0,.slice none 0 0,.slice none 0 0] 44)):=(Below.refl _ _).alloc (Nat.le_refl _) _
 have r2:=(K2.out.rest (Rest.of_out (X:=[g]) x1 (by simp)) (by simp;omega)).still b3
 have R1':=R1.keep b3
 have s3:(w1.alloc (.cells #[.slice y0 (vecD L B r).1 c0,.slice none 0 0,.slice none 0 0] 44)).heap.size=w1.heap.size+1:=by simp
 obtain ⟨W,hW⟩:∃ W,W=w1.alloc (.cells #[.slice y0 (vecD L B r).1 c0,.slice none 0 0,.slice none 0 0] 44):=⟨_,rfl⟩
 rw [show w1.alloc (.cells [.slice y0 (vecD L B r).1 c0,.slice none 0 0,.slice none 0 0].toArray 44)=W from hW.symm] at k3
 rw [←hW] at b3 r2 R1' s3 ⊢
 rw [←hp] at k3 s3 ⊢
 have x0:Rest [g] w1 W:=Rest.of_below b3
 have O0:=Hid.mk' o1
 have S3:=Hid.mk' s3
 have HP:=Hid.mk' hp
 have X0:=Hid.mk' x0
 have r3:=k3
 have hpw:w.heap.size<p:=by have:=S2.out;omega
 have hph:hi≤p:=by omega
 have hpg:¬p=g:=by omega
 have hgW:g<W.heap.size:=by have:=S3.out;omega
 have hpW:p<W.heap.size:=by have:=S3.out;omega
 clear hW x1 o1 R1 b3 k3 s3 x0 hp
 have R:=R1'
 clear R1'
 have cv:=rVecB_any lo hi g L B lB (rp L B r 1).2 hL W R
 go_upto_region 3 with (go_at_call 55;refine cv.mono ?_;clear cv;rintro e w2 ⟨s2,rfl,o2,R2,x2⟩;(obtain ⟨y1,d1,rfl⟩:=o2.slice);(have Y2:Rest [p,g] W w2:=Rest.of_out x2 (by simp));(have t2:=r3.rest (Rest.of_out (X:=[g]) x2 (by simp)) (by simpa using hpg));(have q2:=t2.cell (o:=1) rfl);(have z2:=t2.live (o:=1) (by simp));clear r3)
 have Z2:Rest [p] w2 (w2.setCell ⟨p,1,none⟩ (.slice y1 (vecD L B (rp L B r 1).2).1 d1)):=Rest.setCell w2 _ (by simp)
 have r3:RW (w2.setCell ⟨p,1,none⟩ (.slice y1 (vecD L B (rp L B r 1).2).1 d1)) p 0 [.slice y0 (vecD L B r).1 c0,.slice y1 (vecD L B (rp L B r 1).2).1 d1,.slice none 0 0]:=t2.set1 (o:=1) (by simp) _
 have R:=R2.rest Z2 (fun x hx=>by rw [List.mem_singleton] at hx;subst hx;exact .inr hph)
 have A:=Y2.trans (Z2.mono (fun x hx=>by simp at hx;simp [hx]))
 have r2:=r2.rest A (by simp;omega)
 have o2:=o2.rest Z2 (fun x hx=>by rw [List.mem_singleton] at hx;omega)
 clear Y2 Z2 q2 z2 t2 x2 R2
 generalize w2.setCell ⟨p,1,none⟩ (.slice y1 (vecD L B (rp L B r 1).2).1 d1)=u2 at *
 have cv:=rVecB_any lo hi g L B lB (rp L B r 2).2 hL u2 R
 have hm:=vecD_le L B (rp L B r 2).2
 obtain ⟨m,hmm⟩:∃ m,m=(vecD L B (rp L B r 2).2).1:=⟨_,rfl⟩
 obtain ⟨C,hC⟩:∃ C,C=fun j=>B ((lenD L B (rp L B r 2).2).2.at_+j):=⟨_,rfl⟩
 have lC:∀ j,C j<256:=fun j=>by rw [hC];exact lB _
 rw [←hmm,←hC] at cv
 rw [←hmm] at hm
 have HM:=Hid.mk' hmm
 have HC:=Hid.mk' hC
 clear hmm hC
 generalize hn0:(vecD L B r).1=n0 at *
 generalize hn1:(vecD L B (rp L B r 1).2).1=n1 at *
 have HN0:=Hid.mk' hn0
 have HN1:=Hid.mk' hn1
 clear hn0 hn1
 go_upto_region 4 with (first
  | (go_at_call 55;refine cv.mono ?_;clear cv;rintro e w3 ⟨s3,rfl,o3,R3,x3⟩;(have cn:=rNewB_any s3 m C (by omega) w3 (BytesIn.of_own o3));(have r3':=r3.rest (Rest.of_out (X:=[g]) x3 (by simp)) (by simpa using hpg));(have A3:Rest [p,g] W w3:=A.trans (Rest.of_out x3 (by simp)));(obtain ⟨y3,d3,rfl⟩:=o3.slice))
  | (go_at_call 41;refine cn.mono ?_;clear cn;rintro e w4 ⟨gu,rfl,U,b4⟩))
 have SZ:Hid (w1.heap.size≤gu∧u2.heap.size≤gu∧W.heap.size≤u2.heap.size∧hi≤gu∧gu<w4.heap.size∧p<w3.heap.size):=Hid.mk' (by have h1:=U.ge;have h2:=U.lt;have h3:=x3.size;have h4:=A.size;have h5:=S3.out;have h6:=HP.out;omega)
 have AU:=Hid.mk' ((Rest.of_out (X:=[g]) x3 (by simp)).trans (Rest.of_below b4))
 have R4:=Hid.mk' (R3.keep b4)
 have Z2:=Hid.mk' ((r2.rest (Rest.of_out (X:=[g]) x3 (by simp)) (by simp;omega)).still b4)
 have r4:=r3'.still b4
 have O2:=Hid.mk' o2
 have hgu:w3.heap.size≤gu∧gu<w4.heap.size:=⟨U.ge,U.lt⟩
 have hpu:p<w3.heap.size:=SZ.out.2.2.2.2.2
 clear r2 r3 r3' R R3 x3 o2 o3 K2 b4 A3
 go_wp2
 go_loopw [] (fun wr=>RPs p gu m C (.slice y0 n0 c0) (.slice y1 n1 d1) w3 w4 wr) (fun wr=>2*(m - celN wr gu 1)+(1 - celN wr gu 2))
 case atStart=>exact ⟨_,[],⟨0,0⟩,r4,OwnZ.nil _ _,U,Rest.refl _ _,.inl ⟨0,by omega,rfl,rfl⟩⟩
 case round =>
  obtain ⟨vz,lst,rd,r4,oz,U4,AA,hcase⟩:=hrel
  have hszw:=AA.size
  obtain ⟨xz,cz,hvz⟩:=oz.slice
  obtain ⟨nz,hnz⟩:∃ nz,nz=lst.length:=⟨_,rfl⟩
  rw [←hnz] at hvz
  have HNZ:=Hid.mk' hnz
  clear hnz
  subst hvz
  have cL:=rLeft11_any gu m C rd (by omega) wr U4.of
  have OZ:=Hid.mk' oz
  clear oz
  rcases hcase with ⟨k,hk,hrd,hlst⟩ | ⟨k,hk,hk2,hrd,hlst⟩
  · by_cases h0:4*k=m
    · have e0:(m:Int) - ((rd.at_:Nat):Int)=0:=by rw [hrd];show (m:Int) - ((4*k:Nat):Int)=0;omega
      rw [e0] at cL
      have h4:m%4=0:=by omega
      have hq:m / 4=k:=by omega
      have hE:endD m rd=0:=by rw [hrd];unfold endD;rw [if_neg (fun h=>by have:4*k<m:=h.2;omega)]
      have HLS:=Hid.mk' hlst
      clear e0 hlst hrd
      go_upto_region 6 with (go_at_call 70;refine cL.mono ?_;clear cL;rintro e wl ⟨rfl,b5⟩)
      refine wp_region_held_drew (S:=fun u=>Rest [w.heap.size] wl.drew u) (by kernel_rfl) (Rest.refl _ _) (fun hS => ?_)
      have bl:=below_next b5 (Below.refl wl.heap.size wl).drew
      have r5:=r4.still bl
      have U5:=(U4.keep bl).of
      have z5:=(Z2.out.rest (AA.mono (Y:=[gu,p]) (fun x hx=>by simp at hx;simp;omega)) (by simp;omega)).still bl
      have zl:=bl.size
      generalize wl.drew=V6 at *
      refine tR 0 hS 44 [.slice y0 n0 c0,.slice y1 n1 d1,.slice xz nz cz] Try.underlying44 infoRP (fun u hu=>(r5.rest hu (by simp;omega)).range) ?_
      (try simp only [pS])
      refine tg 1 hS ?_
      (try simp only [pS])
      refine cl 2 (rEndR_any gu m C _ (by omega) V6 U5) (fun e w6 hr => ?_)
      obtain ⟨rfl,b6⟩:=hr
      have hS6:Rest [w.heap.size] V6 w6:=Rest.of_below b6
      rw [hE]
      refine ⟨_,rfl,hS6,?_⟩
      (try simp only [pS])
      refine tg 3 hS6 (v := .bool true) ?_
      (try simp only [pS])
      have x7:Rest [w.heap.size] w6 (w6.setCells w.heap.size 0 [.slice y0 n0 c0,.slice y1 n1 d1,.slice xz nz cz]):=Rest.of_out (Out.setCells (b:=w.heap.size) (o:=0) (n:=3) w6 _ (Nat.le_refl _) (Nat.le_refl _)) (by simp)
      have hS7:=hS6.trans x7
      refine onlyT 4 44 2 32 [.slice y0 n0 c0,.slice y1 n1 d1,.slice xz nz cz] (z5.still b6) rfl hS7 infoRP (by simp [Value.oneCell']) ?_
      (try dsimp only [Act.put])
      refine tg 5 hS7 ?_
      (try simp only [pS])
      refine wpAnyH_done (by kernel_rfl) ?_ _
      go_wp2
      have r8:=(z5.still b6).stored [.slice y0 n0 c0,.slice y1 n1 d1,.slice xz nz cz] rfl
      refine bodyPost_ret (results_ct Try.results48 _ _ w.heap.size [.slice y0 n0 c0,.slice y1 n1 d1,.slice xz nz cz] _ _ rfl rfl r8.range Try.underlying44 rfl infoRP) rfl ?_
      rw [HP0.out]
      have XW:Rest [gu,p,w.heap.size,g] w4 (w6.setCells w.heap.size 0 [.slice y0 n0 c0,.slice y1 n1 d1,.slice xz nz cz]):=(AA.mono (fun x hx=>by simp at hx;simp;omega)).trans ((Rest.of_below bl).trans (hS7.mono (fun x hx=>by simp at hx;simp [hx])))
      have XU:=(AU.out.mono (Y:=[gu,p,w.heap.size,g]) (fun x hx=>by simp at hx;simp [hx])).trans XW
      have XA:Rest [gu,p,w.heap.size,g] W _:=(A.mono (fun x hx=>by simp at hx;simp;omega)).trans XU
      have XB:=(X0.out.mono (Y:=[gu,p,w.heap.size,g]) (fun x hx=>by simp at hx;simp [hx])).trans XA
      have XC:=((Rest.refl [w.heap.size,g] w1).cut (p:=p) (((Rest.refl (p :: [w.heap.size,g]) w1).cut (p:=gu) XB (by have:=SZ.out;omega))) (by rw [HP.out];exact Nat.le_refl _))
      have XD:=(Rest.refl [p,w.heap.size,g] u2).cut (p:=gu) XU (by have:=SZ.out;omega)
      have XW':Rest [p,gu,w.heap.size] w4 (w6.setCells w.heap.size 0 [.slice y0 n0 c0,.slice y1 n1 d1,.slice xz nz cz]):=(AA.mono (fun x hx=>by simp at hx;simp;omega)).trans ((Rest.of_below bl).trans (hS7.mono (fun x hx=>by simp at hx;simp [hx])))
      have RF:=R4.out.rest XW' (fun x hx=>by simp at hx;have:=SZ.out;omega)
      have o0F:=(O0.out.rest XC (fun x hx=>by simp at hx;have:=S2.out;omega)).base bV.size
      have hWw:w.heap.size≤W.heap.size:=by omega
      have o1F:=(O2.out.rest XD (fun x hx=>by simp at hx;omega)).base hWw
      have ozF:=((OZ.out.rest (Rest.of_below (X:=[]) bl) (fun _ hx=>by cases hx)).rest hS7 (fun x hx=>by simp at hx;have:=SZ.out;omega))
      have hw4:w.heap.size≤w4.heap.size:=by have:=SZ.out;omega
      refine ⟨y0,n0,c0,y1,n1,d1,xz,nz,cz,?_,?_,RF,X1.cut XC (Nat.le_refl _)⟩
      · rw [decide_eq_true (show (vx L B (rp L B r 2).2).n%4=0 by show (vecD L B (rp L B r 2).2).1%4=0;rw [←HM.out];exact h4)];rfl
      refine fun _=>⟨rfl,?_,?_,?_⟩
      · show Own _ _ _ (vecD L B r).1 _
        rw [HN0.out];exact o0F
      · show Own _ _ _ (vecD L B (rp L B r 1).2).1 _
        rw [HN1.out];exact o1F
      · show OwnZ _ _ _ (l4 (fun j=>B ((lenD L B (rp L B r 2).2).2.at_+j)) ((vecD L B (rp L B r 2).2).1 / 4))
        rw [←HM.out,←HC.out,hq,←HLS.out]
        exact own_base ozF hw4
    · have hlt:4*k<m:=by omega
      obtain ⟨zl,hzl⟩:∃ zl:Int,zl=(m:Int) - ((rd.at_:Nat):Int):=⟨_,rfl⟩
      have hz0:0<zl:=by rw [hzl,hrd];show 0<(m:Int) - ((4*k:Nat):Int);omega
      rw [←hzl] at cL
      have hc1:=celN_of U4.cells.1
      have hc2:=celN_of U4.cells.2
      have HRD:=Hid.mk' hrd
      have HLS:=Hid.mk' hlst
      have HC1:=Hid.mk' hc1
      have HC2:=Hid.mk' hc2
      have he:rd.e=0:=by rw [hrd]
      have q2:=fun w' (hb:Below wr.heap.size wr w')=>(hb.cell (p:=⟨gu,2,none⟩) (show gu<_ by omega)).trans U4.cells.2
      rw [he] at q2
      have HE:=Hid.mk' he
      clear hzl hlst hrd hc1 hc2 he
      go_upto_region 5 with (go_at_call 70;refine cL.mono ?_;clear cL;rintro e wl ⟨rfl,b5⟩;(replace q2:=q2 wl b5))
      clear q2
      refine wp_last 7 (S:=fun u=>RB w4.heap.size [gu] wl.drew u) (by kernel_rfl) (by kernel_rfl) (by kernel_rfl) (by kernel_rfl) (RB.refl _ _ _) (fun hS => ?_)
      have bl:=below_next b5 (Below.refl wl.heap.size wl).drew
      have r5:=r4.still bl
      have U5:=U4.keep bl
      have oz5:=OZ.out.rest (Rest.of_below (X:=[]) bl) (fun _ hx=>by cases hx)
      have zl5:=bl.size
      generalize wl.drew=V6 at *
      have cn:=rNumB_any _ _ gu m C lC rd 4 (by omega) V6 U5
      have hn4:numD m C 4 rd=if (m:Int) - (4*k:Nat)<4 then (0,⟨4*k,20⟩) else (nbN C (4*k) 4,⟨4*(k+1),0⟩):=by rw [HRD.out];exact num4
      generalize numD m C 4 rd=nd at *
      obtain ⟨y,rd'⟩:=nd
      replace cn:Calls Try.prog 54 #[.pointer (some ⟨gu,0,none⟩),.int .i64 4] V6 fun e w'=>e = .returned (.int .i64 (y:Int))∧RdB w3.heap.size w4.heap.size w' gu m C rd'∧Out gu 1 2 V6 w':=cn
      refine tg 0 hS (v:=pA p 2) ?_ (hy:=by intro u _;kernel_rfl)
      (try simp only [pS])
      refine tc 1 hS (fun u hu=>(hu.cell (show p<_ by omega) (by simp;omega)).trans (r5.cell (o:=2) rfl)) ?_
      (try simp only [pS])
      refine tg 2 hS ?_
      (try simp only [pS])
      refine cl 3 cn (fun e w6 hr => ?_)
      obtain ⟨rfl,U6,o6⟩:=hr
      have x6:RB w4.heap.size [gu] V6 w6:=RB.of_out o6 (by simp) (by omega)
      refine ⟨_,rfl,x6,?_⟩
      (try simp only [pS])
      have oz6:=oz5.rest (Rest.of_out (X:=[gu]) o6 (by simp)) (fun x hx=>by simp at hx;omega)
      have z6:=x6.size
      have b7:Below w6.heap.size w6 (w6.alloc (.cells #[.int .i64 (y:Int)] 3)):=(Below.refl _ _).alloc (Nat.le_refl _) _
      refine onlyV 4 (v := .slice (some ⟨w6.heap.size,0,none⟩) 1 1) (w':=w6.alloc (.cells #[.int .i64 (y:Int)] 3)) ?_ (x6.trans (RB.of_below b7 (by omega))) ?_
      · kernel_rfl
      (try simp only [pS])
      obtain ⟨v8,w8,hrun8,oz8,b8⟩:=run_append_zz w6 w4.heap.size _ lst (y:Int) oz6 (by rw [HLS.out,l4_len];omega) (by omega)
      have x8:RB w4.heap.size [gu] V6 w8:=x6.trans (RB.of_below b8 (Nat.le_refl _))
      refine onlyV 5 (v:=v8) ?_ x8 ?_
      · exact exec_appZ (.tmp 26) (.tmp 29) rfl rfl rfl rfl hrun8
      (try simp only [pS])
      refine tg 6 x8 (v:=pA p 2) ?_ (hy:=by intro u _;kernel_rfl)
      (try simp only [pS])
      refine wpAnyH_done (by kernel_rfl) ?_ _
      have r8:=r5.rb x8 (by omega) (by simp;omega)
      have c8:=r8.cell (o:=2) rfl
      have z8:=r8.live (o:=2) (by simp)
      obtain ⟨x9,c9,hv8⟩:=oz8.slice
      obtain ⟨n9,hn9⟩:∃ n9,n9=(lst ++ [(y:Int)]).length:=⟨_,rfl⟩
      rw [←hn9] at hv8
      subst hv8
      clear hn9
      refine lastRun 7 ?_
      refine NoPanic.normal ?_
      have r9:=r8.set1 (o:=2) (by simp) (.slice x9 n9 c9)
      have x9':Rest [p] w8 (w8.setCell ⟨p,2,none⟩ (.slice x9 n9 c9)):=Rest.setCell w8 _ (by simp)
      have z8':=b8.size
      have oz9:=oz8.rest x9' (fun x hx=>by simp at hx;omega)
      have U8:=U6.same (SameIn.of_below b8 (Nat.le_refl _))
      have U9:=U8.rest x9' (fun x hx=>by simp at hx;omega)
      have A9:Rest [p,gu] w4 (w8.setCell ⟨p,2,none⟩ (.slice x9 n9 c9)):=((AA.trans (Rest.of_below bl)).rb (x8.mono (fun x hx=>by simp at hx;simp [hx]))).trans (x9'.mono (fun x hx=>by simp at hx;simp [hx]))
      have hm9:=celN_of U9.cells.1
      have hm9':=celN_of U9.cells.2
      have HC1':=HC1.out
      have HC2':=HC2.out
      rw [HRD.out] at HC1' HC2'
      generalize w8.setCell ⟨p,2,none⟩ (.slice x9 n9 c9)=w9 at *
      clear c8 z8 r8 hS x6 x8 cn
      go_wp2
      go_roundw
      case rel =>
       refine ⟨_,lst ++ [(y:Int)],rd',r9,oz9,U9,A9,?_⟩
       by_cases h4:(m:Int) - (4*k:Nat)<4
       · rw [if_pos h4] at hn4
         cases hn4
         exact .inr ⟨k,hlt,by omega,rfl,by rw [HLS.out];rfl⟩
       · rw [if_neg h4] at hn4
         cases hn4
         exact .inl ⟨k+1,by omega,rfl,by rw [HLS.out];exact (l4_succ C k).symm⟩
      case measure =>
       by_cases h4:(m:Int) - (4*k:Nat)<4
       · rw [if_pos h4] at hn4
         cases hn4
         show 2*(m - (4*k))+(1 - (20:Int).toNat)<_
         omega
       · rw [if_neg h4] at hn4
         cases hn4
         show 2*(m - (4*(k+1)))+(1 - (0:Int).toNat)<_
         omega
  · obtain ⟨zl,hzl⟩:∃ zl:Int,zl=(m:Int) - ((rd.at_:Nat):Int):=⟨_,rfl⟩
    have hz0:0<zl:=by rw [hzl,hrd];show 0<(m:Int) - ((4*k:Nat):Int);omega
    rw [←hzl] at cL
    have h4:¬m%4=0:=by omega
    have hE:endD m rd=20:=by rw [hrd];unfold endD;rw [if_neg (fun h=>by cases h.1)]
    have q2:=fun w' (hb:Below wr.heap.size wr w')=>(hb.cell (p:=⟨gu,2,none⟩) (show gu<_ by omega)).trans U4.cells.2
    rw [show rd.e=20 by rw [hrd]] at q2
    clear hzl hlst hrd
    go_upto_region 6 with (go_at_call 70;refine cL.mono ?_;clear cL;rintro e wl ⟨rfl,b5⟩;(replace q2:=q2 wl b5))
    refine wp_region_held_drew (S:=fun u=>Rest [w.heap.size] wl.drew u) (by kernel_rfl) (Rest.refl _ _) (fun hS => ?_)
    have bl:=below_next b5 (Below.refl wl.heap.size wl).drew
    have r5:=r4.still bl
    have U5:=(U4.keep bl).of
    have z5:=(Z2.out.rest (AA.mono (Y:=[gu,p]) (fun x hx=>by simp at hx;simp;omega)) (by simp;omega)).still bl
    have zl:=bl.size
    generalize wl.drew=V6 at *
    refine tR 0 hS 44 [.slice y0 n0 c0,.slice y1 n1 d1,.slice xz nz cz] Try.underlying44 infoRP (fun u hu=>(r5.rest hu (by simp;omega)).range) ?_
    (try simp only [pS])
    refine tg 1 hS ?_
    (try simp only [pS])
    refine cl 2 (rEndR_any gu m C _ (by omega) V6 U5) (fun e w6 hr => ?_)
    obtain ⟨rfl,b6⟩:=hr
    have hS6:Rest [w.heap.size] V6 w6:=Rest.of_below b6
    rw [hE]
    refine ⟨_,rfl,hS6,?_⟩
    (try simp only [pS])
    refine tg 3 hS6 (v := .bool false) ?_
    (try simp only [pS])
    have x7:Rest [w.heap.size] w6 (w6.setCells w.heap.size 0 [.slice y0 n0 c0,.slice y1 n1 d1,.slice xz nz cz]):=Rest.of_out (Out.setCells (b:=w.heap.size) (o:=0) (n:=3) w6 _ (Nat.le_refl _) (Nat.le_refl _)) (by simp)
    have hS7:=hS6.trans x7
    refine onlyT 4 44 2 32 [.slice y0 n0 c0,.slice y1 n1 d1,.slice xz nz cz] (z5.still b6) rfl hS7 infoRP (by simp [Value.oneCell']) ?_
    (try dsimp only [Act.put])
    refine tg 5 hS7 ?_
    (try simp only [pS])
    refine wpAnyH_done (by kernel_rfl) ?_ _
    go_wp2
    have r8:=(z5.still b6).stored [.slice y0 n0 c0,.slice y1 n1 d1,.slice xz nz cz] rfl
    refine bodyPost_ret (results_ct Try.results48 _ _ w.heap.size [.slice y0 n0 c0,.slice y1 n1 d1,.slice xz nz cz] _ _ rfl rfl r8.range Try.underlying44 rfl infoRP) rfl ?_
    rw [HP0.out]
    have XW:Rest [gu,p,w.heap.size,g] w4 (w6.setCells w.heap.size 0 [.slice y0 n0 c0,.slice y1 n1 d1,.slice xz nz cz]):=(AA.mono (fun x hx=>by simp at hx;simp;omega)).trans ((Rest.of_below bl).trans (hS7.mono (fun x hx=>by simp at hx;simp [hx])))
    have XU:=(AU.out.mono (Y:=[gu,p,w.heap.size,g]) (fun x hx=>by simp at hx;simp [hx])).trans XW
    have XA:Rest [gu,p,w.heap.size,g] W _:=(A.mono (fun x hx=>by simp at hx;simp;omega)).trans XU
    have XB:=(X0.out.mono (Y:=[gu,p,w.heap.size,g]) (fun x hx=>by simp at hx;simp [hx])).trans XA
    have XC:=((Rest.refl [w.heap.size,g] w1).cut (p:=p) (((Rest.refl (p :: [w.heap.size,g]) w1).cut (p:=gu) XB (by have:=SZ.out;omega))) (by rw [HP.out];exact Nat.le_refl _))
    have XD:=(Rest.refl [p,w.heap.size,g] u2).cut (p:=gu) XU (by have:=SZ.out;omega)
    have XW':Rest [p,gu,w.heap.size] w4 (w6.setCells w.heap.size 0 [.slice y0 n0 c0,.slice y1 n1 d1,.slice xz nz cz]):=(AA.mono (fun x hx=>by simp at hx;simp;omega)).trans ((Rest.of_below bl).trans (hS7.mono (fun x hx=>by simp at hx;simp [hx])))
    have RF:=R4.out.rest XW' (fun x hx=>by simp at hx;have:=SZ.out;omega)
    have o0F:=(O0.out.rest XC (fun x hx=>by simp at hx;have:=S2.out;omega)).base bV.size
    have hWw:w.heap.size≤W.heap.size:=by omega
    have o1F:=(O2.out.rest XD (fun x hx=>by simp at hx;omega)).base hWw
    have ozF:=((OZ.out.rest (Rest.of_below (X:=[]) bl) (fun _ hx=>by cases hx)).rest hS7 (fun x hx=>by simp at hx;have:=SZ.out;omega))
    have hw4:w.heap.size≤w4.heap.size:=by have:=SZ.out;omega
    refine ⟨y0,n0,c0,y1,n1,d1,xz,nz,cz,?_,?_,RF,X1.cut XC (Nat.le_refl _)⟩
    · rw [decide_eq_false (show ¬(vx L B (rp L B r 2).2).n%4=0 by show ¬(vecD L B (rp L B r 2).2).1%4=0;rw [←HM.out];exact h4)];rfl
    exact fun h=>absurd (show (vecD L B (rp L B r 2).2).1%4=0 from h) (by rw [←HM.out];exact h4)
end Go.Proofs.Ytgdcmibdjiaofaa
namespace Go.Proofs.Ytgdcmibdjiaofaa
open Go.RowKit
set_option maxRecDepth 20000 in
set_option maxHeartbeats 1000000 in
theorem rGetParent_o (v:Value) (L:Nat) (B:Nat→Nat) (d:PrD) (rn:Rd) (mq:Nat) (hL:L<140737488355000) (_hl:d.um.length<140737488355000) (cR:∀ lo hi g w,RdB lo hi w g L B ⟨0,0⟩→Calls Try.prog 48 #[pA g 0] w fun e w'=>∃ x0 n0 c0 x1 n1 c1 x2 n2 c2,e = .returned (.tuple #[.agg #[.slice x0 n0 c0,.slice x1 n1 c1,.slice x2 n2 c2],.bool (decide (mq%4=0))])∧(mq%4=0→PrAt w.heap.size w' [.slice x0 n0 c0,.slice x1 n1 c1,.slice x2 n2 c2] d (.slice x0 n0 c0) (.slice x1 n1 c1) (.slice x2 n2 c2))∧RdB lo hi w' g L B rn∧Rest [g] w w') (hq:¬mq%4=0) (w:World) (hv:BytesIn w v L B):Calls Try.prog 23 #[v] w fun e w'=>Below w.heap.size w w'∧e = .returned (.tuple #[.agg zeroP.toArray,.int .i64 21]):=by
 have bV:Below w.heap.size w (w.alloc (.cells #[.slice none 0 0,.slice none 0 0,.slice none 0 0] 44)):=(Below.refl _ _).alloc (Nat.le_refl _) _
 have k2:=RW.fresh w [.slice none 0 0,.slice none 0 0,.slice none 0 0] 44
 have s2:(w.alloc (.cells #[.slice none 0 0,.slice none 0 0,.slice none 0 0] 44)).heap.size=w.heap.size+1:=by simp
 obtain ⟨V,hV⟩:∃ V,V=w.alloc (.cells #[.slice none 0 0,.slice none 0 0,.slice none 0 0] 44):=⟨_,rfl⟩
 rw [show w.alloc (.cells [.slice none 0 0,.slice none 0 0,.slice none 0 0].toArray 44)=V from hV.symm] at k2
 rw [←hV] at bV s2
 have HV:=Hid.mk' hV
 have cN:=rNewB_any v L B hL V (hv.keep bV)
 have S2:=Hid.mk' s2
 have K2:=Hid.mk' k2
 rw [decide_eq_false hq] at cR
 have CR:=Hid.mk' cR
 have HQ:=Hid.mk' hq
 clear hV s2 k2 cR hv hq
 go_enter Try.func23,Try.ntmps23
 go_upto_region 1 with (fail)
 rw [←HV.out]
 go_upto_region 3 with (first
  | (go_at_call 41;refine cN.mono ?_;clear cN;rintro e w1 ⟨g,rfl,R1,b1⟩;(have cr:=CR.out _ _ g w1 R1);(have hg1:=R1.ge);(have hg2:=R1.lt);clear R1)
  | (go_at_call 48;refine cr.mono ?_;clear cr;rintro e w2 ⟨x0,n0,c0,x1,n1,c1,y2,n2,c2,rfl,hA,R2,x2⟩))
 have k3:=RW.fresh w2 [.slice x0 n0 c0,.slice x1 n1 c1,.slice y2 n2 c2] 44
 have b3:Below w2.heap.size w2 (w2.alloc (.cells #[.slice x0 n0 c0,.slice x1 n1 c1,.slice y2 n2 c2] 44)):=(Below.refl _ _).alloc (Nat.le_refl _) _
 obtain ⟨W,hW⟩:∃ W,W=w2.alloc (.cells #[.slice x0 n0 c0,.slice x1 n1 c1,.slice y2 n2 c2] 44):=⟨_,rfl⟩
 rw [show w2.alloc (.cells [.slice x0 n0 c0,.slice x1 n1 c1,.slice y2 n2 c2].toArray 44)=W from hW.symm] at k3
 rw [←hW] at b3 ⊢
 clear hW
 have X2:Rest [g] V W:=(Rest.of_below b1).trans (x2.trans (Rest.of_below b3))
 have r2:=K2.out.rest X2 (by simp;have:=S2.out;omega)
 have bW:Below w.heap.size w W:=bV.trans (X2.below (fun x hx=>by simp at hx;have:=S2.out;omega) bV.size)
 have R3:=R2.keep b3
 have ce:=rEndR_any g L B rn hL W R3.of
 have tt:=r2.there
 clear hA k3 R3 R2 CR ce
 go_wp2_with (with_reducible (refine id (?_:wpList _ _ _ _ _ _));refine stP _ _ rfl rfl rfl rfl tt ?_ rfl)
 have r4:=r2.stored [.slice none 0 0,.slice none 0 0,.slice none 0 0] rfl
 refine bodyPost_ret (results_ct Try.results23 _ _ w.heap.size [.slice none 0 0,.slice none 0 0,.slice none 0 0] _ _ rfl rfl r4.range Try.underlying44 rfl infoRP) rfl ?_
 exact ⟨below_setCells (Nat.le_refl _) _ _ _ bW,rfl⟩
set_option maxRecDepth 20000 in
set_option maxHeartbeats 1000000 in
theorem rGetParent_e (v:Value) (L:Nat) (B:Nat→Nat) (d:PrD) (rn:Rd) (mq:Nat) (hL:L<140737488355000) (_hl:d.um.length<140737488355000) (cR:∀ lo hi g w,RdB lo hi w g L B ⟨0,0⟩→Calls Try.prog 48 #[pA g 0] w fun e w'=>∃ x0 n0 c0 x1 n1 c1 x2 n2 c2,e = .returned (.tuple #[.agg #[.slice x0 n0 c0,.slice x1 n1 c1,.slice x2 n2 c2],.bool (decide (mq%4=0))])∧(mq%4=0→PrAt w.heap.size w' [.slice x0 n0 c0,.slice x1 n1 c1,.slice x2 n2 c2] d (.slice x0 n0 c0) (.slice x1 n1 c1) (.slice x2 n2 c2))∧RdB lo hi w' g L B rn∧Rest [g] w w') (hq:mq%4=0) (he:¬endD L rn=0) (w:World) (hv:BytesIn w v L B):Calls Try.prog 23 #[v] w fun e w'=>Below w.heap.size w w'∧e = .returned (.tuple #[.agg zeroP.toArray,.int .i64 21]):=by
 have bV:Below w.heap.size w (w.alloc (.cells #[.slice none 0 0,.slice none 0 0,.slice none 0 0] 44)):=(Below.refl _ _).alloc (Nat.le_refl _) _
 have k2:=RW.fresh w [.slice none 0 0,.slice none 0 0,.slice none 0 0] 44
 have s2:(w.alloc (.cells #[.slice none 0 0,.slice none 0 0,.slice none 0 0] 44)).heap.size=w.heap.size+1:=by simp
 obtain ⟨V,hV⟩:∃ V,V=w.alloc (.cells #[.slice none 0 0,.slice none 0 0,.slice none 0 0] 44):=⟨_,rfl⟩
 rw [show w.alloc (.cells [.slice none 0 0,.slice none 0 0,.slice none 0 0].toArray 44)=V from hV.symm] at k2
 rw [←hV] at bV s2
 have HV:=Hid.mk' hV
 have cN:=rNewB_any v L B hL V (hv.keep bV)
 have S2:=Hid.mk' s2
 have K2:=Hid.mk' k2
 rw [decide_eq_true hq] at cR
 have CR:=Hid.mk' cR
 have HQ:=Hid.mk' hq
 clear hV s2 k2 cR hv hq
 go_enter Try.func23,Try.ntmps23
 go_upto_region 1 with (fail)
 rw [←HV.out]
 go_upto_region 3 with (first
  | (go_at_call 41;refine cN.mono ?_;clear cN;rintro e w1 ⟨g,rfl,R1,b1⟩;(have cr:=CR.out _ _ g w1 R1);(have hg1:=R1.ge);(have hg2:=R1.lt);clear R1)
  | (go_at_call 48;refine cr.mono ?_;clear cr;rintro e w2 ⟨x0,n0,c0,x1,n1,c1,y2,n2,c2,rfl,hA,R2,x2⟩))
 have k3:=RW.fresh w2 [.slice x0 n0 c0,.slice x1 n1 c1,.slice y2 n2 c2] 44
 have b3:Below w2.heap.size w2 (w2.alloc (.cells #[.slice x0 n0 c0,.slice x1 n1 c1,.slice y2 n2 c2] 44)):=(Below.refl _ _).alloc (Nat.le_refl _) _
 obtain ⟨W,hW⟩:∃ W,W=w2.alloc (.cells #[.slice x0 n0 c0,.slice x1 n1 c1,.slice y2 n2 c2] 44):=⟨_,rfl⟩
 rw [show w2.alloc (.cells [.slice x0 n0 c0,.slice x1 n1 c1,.slice y2 n2 c2].toArray 44)=W from hW.symm] at k3
 rw [←hW] at b3 ⊢
 clear hW
 have X2:Rest [g] V W:=(Rest.of_below b1).trans (x2.trans (Rest.of_below b3))
 have r2:=K2.out.rest X2 (by simp;have:=S2.out;omega)
 have bW:Below w.heap.size w W:=bV.trans (X2.below (fun x hx=>by simp at hx;have:=S2.out;omega) bV.size)
 have R3:=R2.keep b3
 have ce:=rEndR_any g L B rn hL W R3.of
 generalize endD L rn=en at *
 have tt:=fun w' (hb:Below W.heap.size W w')=>(r2.still hb).there
 have R2':=Hid.mk' r2
 clear hA k3 r2 R3 R2 CR
 go_wp2_with (first
  | (go_at_call 43;refine ce.mono ?_;clear ce;rintro e w4 ⟨rfl,b4⟩;(replace tt:=tt w4 b4))
  | (with_reducible (refine id (?_:wpList _ _ _ _ _ _));refine stP _ _ rfl rfl rfl rfl tt ?_ rfl))
 have r4:=(R2'.out.still b4).stored [.slice none 0 0,.slice none 0 0,.slice none 0 0] rfl
 refine bodyPost_ret (results_ct Try.results23 _ _ w.heap.size [.slice none 0 0,.slice none 0 0,.slice none 0 0] _ _ rfl rfl r4.range Try.underlying44 rfl infoRP) rfl ?_
 exact ⟨below_setCells (Nat.le_refl _) _ _ _ (below_next bW b4),rfl⟩
set_option maxRecDepth 20000 in
set_option maxHeartbeats 1000000 in
theorem rGetParent_r (v:Value) (L:Nat) (B:Nat→Nat) (d:PrD) (rn:Rd) (mq:Nat) (hL:L<140737488355000) (_hl:d.um.length<140737488355000) (cR:∀ lo hi g w,RdB lo hi w g L B ⟨0,0⟩→Calls Try.prog 48 #[pA g 0] w fun e w'=>∃ x0 n0 c0 x1 n1 c1 x2 n2 c2,e = .returned (.tuple #[.agg #[.slice x0 n0 c0,.slice x1 n1 c1,.slice x2 n2 c2],.bool (decide (mq%4=0))])∧(mq%4=0→PrAt w.heap.size w' [.slice x0 n0 c0,.slice x1 n1 c1,.slice x2 n2 c2] d (.slice x0 n0 c0) (.slice x1 n1 c1) (.slice x2 n2 c2))∧RdB lo hi w' g L B rn∧Rest [g] w w') (hq:mq%4=0) (he:endD L rn=0) (hr:allU (prA d) 3=false) (w:World) (hv:BytesIn w v L B):Calls Try.prog 23 #[v] w fun e w'=>Below w.heap.size w w'∧e = .returned (.tuple #[.agg zeroP.toArray,.int .i64 21]):=by
 have bV:Below w.heap.size w (w.alloc (.cells #[.slice none 0 0,.slice none 0 0,.slice none 0 0] 44)):=(Below.refl _ _).alloc (Nat.le_refl _) _
 have k2:=RW.fresh w [.slice none 0 0,.slice none 0 0,.slice none 0 0] 44
 have s2:(w.alloc (.cells #[.slice none 0 0,.slice none 0 0,.slice none 0 0] 44)).heap.size=w.heap.size+1:=by simp
 obtain ⟨V,hV⟩:∃ V,V=w.alloc (.cells #[.slice none 0 0,.slice none 0 0,.slice none 0 0] 44):=⟨_,rfl⟩
 rw [show w.alloc (.cells [.slice none 0 0,.slice none 0 0,.slice none 0 0].toArray 44)=V from hV.symm] at k2
 rw [←hV] at bV s2
 have HV:=Hid.mk' hV
 have cN:=rNewB_any v L B hL V (hv.keep bV)
 have S2:=Hid.mk' s2
 have K2:=Hid.mk' k2
 rw [decide_eq_true hq] at cR
 have CR:=Hid.mk' cR
 have HQ:=Hid.mk' hq
 clear hV s2 k2 cR hv hq
 go_enter Try.func23,Try.ntmps23
 go_upto_region 1 with (fail)
 rw [←HV.out]
 go_upto_region 3 with (first
  | (go_at_call 41;refine cN.mono ?_;clear cN;rintro e w1 ⟨g,rfl,R1,b1⟩;(have cr:=CR.out _ _ g w1 R1);(have hg1:=R1.ge);(have hg2:=R1.lt);clear R1)
  | (go_at_call 48;refine cr.mono ?_;clear cr;rintro e w2 ⟨x0,n0,c0,x1,n1,c1,y2,n2,c2,rfl,hA,R2,x2⟩))
 have k3:=RW.fresh w2 [.slice x0 n0 c0,.slice x1 n1 c1,.slice y2 n2 c2] 44
 have b3:Below w2.heap.size w2 (w2.alloc (.cells #[.slice x0 n0 c0,.slice x1 n1 c1,.slice y2 n2 c2] 44)):=(Below.refl _ _).alloc (Nat.le_refl _) _
 obtain ⟨W,hW⟩:∃ W,W=w2.alloc (.cells #[.slice x0 n0 c0,.slice x1 n1 c1,.slice y2 n2 c2] 44):=⟨_,rfl⟩
 rw [show w2.alloc (.cells [.slice x0 n0 c0,.slice x1 n1 c1,.slice y2 n2 c2].toArray 44)=W from hW.symm] at k3
 rw [←hW] at b3 ⊢
 clear hW
 have X2:Rest [g] V W:=(Rest.of_below b1).trans (x2.trans (Rest.of_below b3))
 have r2:=K2.out.rest X2 (by simp;have:=S2.out;omega)
 have bW:Below w.heap.size w W:=bV.trans (X2.below (fun x hx=>by simp at hx;have:=S2.out;omega) bV.size)
 have R3:=R2.keep b3
 have ce:=rEndR_any g L B rn hL W R3.of
 replace hA:=hA HQ.out
 have hI:=hA.prin.keep b3
 have HA:=Hid.mk' hA
 have cr:=fun W' hb=>rRightParent_any _ d _hl W' (hI.keep hb)
 rw [he] at ce
 have tt:=fun w' (hb:Below W.heap.size W w')=>(r2.still hb).there
 have rr:=fun w' (hb:Below W.heap.size W w')=>(k3.still hb).range
 have R2':=Hid.mk' r2
 rw [hr] at cr
 clear hA k3 r2 R3 R2 hI CR
 go_wp2_with (first
  | (go_at_call 43;refine ce.mono ?_;clear ce;rintro e w4 ⟨rfl,b4⟩;(have rr4:=rr w4 b4);(replace cr:=cr w4 b4))
  | (with_reducible (refine id (?_:wpList _ _ _ _ _ _));refine ldP _ rfl rfl rr4 ?_ rfl)
  | (with_reducible (refine id (?_:wpList _ _ _ _ _ _));refine ldPg _ rfl rfl rr4 ?_ rfl)
  | (go_at_call 45;refine cr.mono ?_;clear cr;rintro e w5 ⟨rfl,b5⟩;(have bb:=below_next b4 b5);(have rr4:=rr w5 bb);(have tt5:=tt w5 bb))
  | (with_reducible (refine id (?_:wpList _ _ _ _ _ _));refine stP _ _ rfl rfl rfl rfl tt5 ?_ rfl))
 have r4:=(R2'.out.still bb).stored [.slice none 0 0,.slice none 0 0,.slice none 0 0] rfl
 refine bodyPost_ret (results_ct Try.results23 _ _ w.heap.size [.slice none 0 0,.slice none 0 0,.slice none 0 0] _ _ rfl rfl r4.range Try.underlying44 rfl infoRP) rfl ?_
 exact ⟨below_setCells (Nat.le_refl _) _ _ _ (below_next bW bb),rfl⟩
set_option maxRecDepth 20000 in
set_option maxHeartbeats 1000000 in
theorem rGetParent_g (v:Value) (L:Nat) (B:Nat→Nat) (d:PrD) (rn:Rd) (mq:Nat) (hL:L<140737488355000) (_hl:d.um.length<140737488355000) (cR:∀ lo hi g w,RdB lo hi w g L B ⟨0,0⟩→Calls Try.prog 48 #[pA g 0] w fun e w'=>∃ x0 n0 c0 x1 n1 c1 x2 n2 c2,e = .returned (.tuple #[.agg #[.slice x0 n0 c0,.slice x1 n1 c1,.slice x2 n2 c2],.bool (decide (mq%4=0))])∧(mq%4=0→PrAt w.heap.size w' [.slice x0 n0 c0,.slice x1 n1 c1,.slice x2 n2 c2] d (.slice x0 n0 c0) (.slice x1 n1 c1) (.slice x2 n2 c2))∧RdB lo hi w' g L B rn∧Rest [g] w w') (hq:mq%4=0) (he:endD L rn=0) (hr:allU (prA d) 3=true) (w:World) (hv:BytesIn w v L B):Calls Try.prog 23 #[v] w fun e w'=>Below w.heap.size w w'∧∃ cs,e = .returned (.tuple #[.agg cs.toArray,.int .i64 0])∧PrIn w' cs d:=by
 have bV:Below w.heap.size w (w.alloc (.cells #[.slice none 0 0,.slice none 0 0,.slice none 0 0] 44)):=(Below.refl _ _).alloc (Nat.le_refl _) _
 have k2:=RW.fresh w [.slice none 0 0,.slice none 0 0,.slice none 0 0] 44
 have s2:(w.alloc (.cells #[.slice none 0 0,.slice none 0 0,.slice none 0 0] 44)).heap.size=w.heap.size+1:=by simp
 obtain ⟨V,hV⟩:∃ V,V=w.alloc (.cells #[.slice none 0 0,.slice none 0 0,.slice none 0 0] 44):=⟨_,rfl⟩
 rw [show w.alloc (.cells [.slice none 0 0,.slice none 0 0,.slice none 0 0].toArray 44)=V from hV.symm] at k2
 rw [←hV] at bV s2
 have HV:=Hid.mk' hV
 have cN:=rNewB_any v L B hL V (hv.keep bV)
 have S2:=Hid.mk' s2
 have K2:=Hid.mk' k2
 rw [decide_eq_true hq] at cR
 have CR:=Hid.mk' cR
 have HQ:=Hid.mk' hq
 clear hV s2 k2 cR hv hq
 go_enter Try.func23,Try.ntmps23
 go_upto_region 1 with (fail)
 rw [←HV.out]
 go_upto_region 3 with (first
  | (go_at_call 41;refine cN.mono ?_;clear cN;rintro e w1 ⟨g,rfl,R1,b1⟩;(have cr:=CR.out _ _ g w1 R1);(have hg1:=R1.ge);(have hg2:=R1.lt);clear R1)
  | (go_at_call 48;refine cr.mono ?_;clear cr;rintro e w2 ⟨x0,n0,c0,x1,n1,c1,y2,n2,c2,rfl,hA,R2,x2⟩))
 have k3:=RW.fresh w2 [.slice x0 n0 c0,.slice x1 n1 c1,.slice y2 n2 c2] 44
 have b3:Below w2.heap.size w2 (w2.alloc (.cells #[.slice x0 n0 c0,.slice x1 n1 c1,.slice y2 n2 c2] 44)):=(Below.refl _ _).alloc (Nat.le_refl _) _
 obtain ⟨W,hW⟩:∃ W,W=w2.alloc (.cells #[.slice x0 n0 c0,.slice x1 n1 c1,.slice y2 n2 c2] 44):=⟨_,rfl⟩
 rw [show w2.alloc (.cells [.slice x0 n0 c0,.slice x1 n1 c1,.slice y2 n2 c2].toArray 44)=W from hW.symm] at k3
 rw [←hW] at b3 ⊢
 clear hW
 have X2:Rest [g] V W:=(Rest.of_below b1).trans (x2.trans (Rest.of_below b3))
 have r2:=K2.out.rest X2 (by simp;have:=S2.out;omega)
 have bW:Below w.heap.size w W:=bV.trans (X2.below (fun x hx=>by simp at hx;have:=S2.out;omega) bV.size)
 have R3:=R2.keep b3
 have ce:=rEndR_any g L B rn hL W R3.of
 replace hA:=hA HQ.out
 have hI:=hA.prin.keep b3
 have HA:=Hid.mk' hA
 have cr:=fun W' hb=>rRightParent_any _ d _hl W' (hI.keep hb)
 rw [he] at ce
 have tt:=fun w' (hb:Below W.heap.size W w')=>(r2.still hb).there
 have rr:=fun w' (hb:Below W.heap.size W w')=>(k3.still hb).range
 have R2':=Hid.mk' r2
 rw [hr] at cr
 clear hA k3 r2 R3 R2 hI CR
 go_wp2_with (first
  | (go_at_call 43;refine ce.mono ?_;clear ce;rintro e w4 ⟨rfl,b4⟩;(have rr4:=rr w4 b4);(replace cr:=cr w4 b4))
  | (with_reducible (refine id (?_:wpList _ _ _ _ _ _));refine ldP _ rfl rfl rr4 ?_ rfl)
  | (with_reducible (refine id (?_:wpList _ _ _ _ _ _));refine ldPg _ rfl rfl rr4 ?_ rfl)
  | (go_at_call 45;refine cr.mono ?_;clear cr;rintro e w5 ⟨rfl,b5⟩;(have bb:=below_next b4 b5);(have rr4:=rr w5 bb);(have tt5:=tt w5 bb))
  | (with_reducible (refine id (?_:wpList _ _ _ _ _ _));refine stP _ _ rfl rfl rfl rfl tt5 ?_ rfl))
 have r4:=(R2'.out.still bb).stored [.slice x0 n0 c0,.slice x1 n1 c1,.slice y2 n2 c2] rfl
 refine bodyPost_ret (results_ct Try.results23 _ _ w.heap.size [.slice x0 n0 c0,.slice x1 n1 c1,.slice y2 n2 c2] _ _ rfl rfl r4.range Try.underlying44 rfl infoRP) rfl ?_
 refine ⟨below_setCells (Nat.le_refl _) _ _ _ (below_next bW bb),_,rfl,?_⟩
 have x6:Rest [w.heap.size] w5 (w5.setCells w.heap.size 0 [.slice x0 n0 c0,.slice x1 n1 c1,.slice y2 n2 c2]):=Rest.of_out (Out.setCells (b:=w.heap.size) (o:=0) (n:=3) w5 _ (Nat.le_refl _) (Nat.le_refl _)) (by simp)
 have h6:=(HA.out.rest (Rest.of_below (X:=[]) (below_next b3 bb)) (fun _ hx=>by cases hx)).rest x6 (fun x hx=>by simp at hx;have:=S2.out;omega)
 exact h6.prin
theorem rGetParent_any (v:Value) (L:Nat) (B:Nat→Nat) (lB:∀ j,B j<256) (hL:L<140737488355000) (w:World) (hv:BytesIn w v L B):Calls Try.prog 23 #[v] w fun e w'=>Below w.heap.size w w'∧GetA (prR (getP13 L B)∧getQ13 L B) (fun W cs=>PrIn W cs (getP13 L B)) zeroP e w':=by
 have cR:=fun lo hi g w=>rReadParent_any lo hi g L B lB ⟨0,0⟩ hL w
 have hp:=pr_all (getP13 L B)
 have hl:=rp_len L B ⟨0,0⟩ 3 (by decide)
 by_cases hq:(vx L B (rp L B ⟨0,0⟩ 2).2).n%4=0
 · by_cases he:endD L (rp L B ⟨0,0⟩ 3).2=0
   · by_cases hr:prR (getP13 L B)
     · exact (rGetParent_g v L B (getP13 L B) _ _ hL hl cR hq he (hp.2 hr) w hv).mono fun e w' ⟨h1,h2⟩=>⟨h1,by unfold GetA;rw [if_pos ⟨hr,hq,he⟩];exact h2⟩
     · exact (rGetParent_r v L B (getP13 L B) _ _ hL hl cR hq he (Bool.eq_false_iff.2 fun e=>hr (hp.1 e)) w hv).mono fun e w' ⟨h1,h2⟩=>⟨h1,by unfold GetA;rw [if_neg (fun e=>hr e.1)];exact h2⟩
   · exact (rGetParent_e v L B (getP13 L B) _ _ hL hl cR hq he w hv).mono fun e w' ⟨h1,h2⟩=>⟨h1,by unfold GetA;rw [if_neg (fun e=>he e.2.2)];exact h2⟩
 · exact (rGetParent_o v L B (getP13 L B) _ _ hL hl cR hq w hv).mono fun e w' ⟨h1,h2⟩=>⟨h1,by unfold GetA;rw [if_neg (fun e=>hq e.2.1)];exact h2⟩
end Go.Proofs.Ytgdcmibdjiaofaa
