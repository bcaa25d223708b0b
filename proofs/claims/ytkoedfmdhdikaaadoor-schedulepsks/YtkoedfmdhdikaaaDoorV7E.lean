/- SchedulePsks: keys that are shared beforehand, on both sides. -/
import Derived.Test.YtkoedfmdhdikaaaDoorV7CM
import Derived.Test.YtkoedfmdhdikaaaDoorV7OM
namespace Go.Proofs.YtkoedfmdhdikaaaDoor
open Go.RowKit
def pskM (D:Nat→PkD) (cnt:Nat):Nat:=if cnt≤100∧pkAll D cnt=true then 32 else 0
def pskE (D:Nat→PkD) (cnt:Nat):Int:=if cnt≤100∧pkAll D cnt=true then 0 else 1
theorem psk_any (xo:Option Addr) (cnt cap:Nat) (D:Nat→PkD) (hB:∀ i,i<cnt→pkB (D i)) (w:World) (hT:TabAt w) (h:PksIn w xo cnt D):Calls Tryd.prog 6 #[.slice xo cnt cap] w fun e w'=>∃ x c,e = .returned (.tuple #[.slice x (pskM D cnt) c,.int .i64 (pskE D cnt)])∧BytesIn w' (.slice x (pskM D cnt) c) (pskM D cnt) (pskS D cnt cnt)∧Below w.heap.size w w':=by
 unfold pskM pskE
 by_cases h1:cnt≤100
 · cases e:pkAll D cnt with
   | true =>
    rw [if_pos ⟨h1,rfl⟩,if_pos ⟨h1,rfl⟩]
    exact psk_good xo cnt cap D h1 hB e w hT h
   | false =>
    rw [if_neg (fun h=>Bool.noConfusion h.2),if_neg (fun h=>Bool.noConfusion h.2)]
    exact (psk_bad xo cnt cap D h1 e w h).mono fun e w' ⟨h2,h3⟩=>⟨none,0,h2,.inl ⟨none,rfl,rfl⟩,h3⟩
 · rw [if_neg (fun h=>h1 h.1),if_neg (fun h=>h1 h.1)]
   exact (psk_many xo cnt cap (by omega) w).mono fun e w' ⟨h2,h3⟩=>⟨none,0,h2,.inl ⟨none,rfl,rfl⟩,h3⟩
theorem rpsk_any (xo:Option Addr) (cnt cap:Nat) (D:Nat→PkD) (hB:∀ i,i<cnt→pkB (D i)) (w:World) (h:PksIn w xo cnt D):Calls Tryd.prog 7 #[.slice xo cnt cap] w fun e w'=>∃ x c,e = .returned (.tuple #[.slice x (pskM D cnt) c,.int .i64 (pskE D cnt)])∧BytesIn w' (.slice x (pskM D cnt) c) (pskM D cnt) (pskS D cnt cnt)∧Below w.heap.size w w':=by
 unfold pskM pskE
 by_cases h1:cnt≤100
 · cases e:pkAll D cnt with
   | true =>
    rw [if_pos ⟨h1,rfl⟩,if_pos ⟨h1,rfl⟩]
    exact rpsk_good xo cnt cap D h1 hB e w h
   | false =>
    rw [if_neg (fun h=>Bool.noConfusion h.2),if_neg (fun h=>Bool.noConfusion h.2)]
    exact (rpsk_bad xo cnt cap D h1 e w h).mono fun e w' ⟨h2,h3⟩=>⟨none,0,h2,.inl ⟨none,rfl,rfl⟩,h3 ▸ Below.refl _ _⟩
 · rw [if_neg (fun h=>h1 h.1),if_neg (fun h=>h1 h.1)]
   exact (rpsk_many xo cnt cap (by omega) w).mono fun e w' ⟨h2,h3⟩=>⟨none,0,h2,.inl ⟨none,rfl,rfl⟩,h3 ▸ Below.refl _ _⟩
set_option maxRecDepth 20000 in
set_option maxHeartbeats 8000000 in
theorem schedPsks_any (xo:Option Addr) (cnt cap:Nat) (D:Nat→PkD) (hcnt:cnt*72≤140737488351232) (hB:∀ i,i<cnt→pkB (D i)) (hL:∀ i,i<cnt→pkLn (D i)) (w:World) (hT:TabAt w) (h:PksIn w xo cnt D) :
 Calls Tryd.prog 3 #[.slice xo cnt cap] w fun e w'=>e = .returned (.bool true)∧Below w.heap.size w w':=by
 have cP:=fun (W:World) (x:Option Addr) (c:Nat) (hW:Below w.heap.size w W) (hp:PksIn W x cnt D)=>psk_any x cnt c D hB W (hT.still hW) hp
 have cR:=fun (W:World) (hW:Below w.heap.size w W)=>rpsk_any xo cnt cap D hB W (h.keep hW)
 have hK:=fun (W:World) (hW:Below w.heap.size w W)=>knows16 W (hT.still hW)
 have lt:=pskS_lt D cnt cnt
 have HH:=Hid.mk' h
 have HL:=Hid.mk' hL
 have HC:=Hid.mk' hcnt
 generalize pskM D cnt=M at *
 generalize pskE D cnt=E at *
 generalize pskS D cnt cnt=F at *
 have hE:(E == E)=true:=beq_self_eq_true E
 clear h hL hT hB hcnt
 go_enter Tryd.func3,Tryd.ntmps3
 go_wp2
 go_loopw [3,4] (fun xv i wr=>∃ (q:Nat) (L:List Value),q≤cnt∧i = .int .i64 (q:Int)∧PsOwn w.heap.size wr xv q L D∧Below w.heap.size w wr) (fun _ i _=>cnt - (intOf i).toNat)
 case atStart=>exact ⟨0,[],Nat.zero_le _,rfl,PsOwn.nil _ _ _,Below.refl _ _⟩
 case round =>
  obtain ⟨q,L,hq,rfl,ho,hb⟩:=hrel
  obtain ⟨xl,cl',el⟩:=ho.list.slice
  subst el
  by_cases hlt:q<cnt
  · obtain ⟨b,off,cs,rfl,hl,hr,hp⟩:=HH.out q hlt
    obtain ⟨v0,v1,v2,rfl,h0,h1,h2⟩:=hp
    obtain ⟨x0,c0,rfl,-⟩:=h0.src
    obtain ⟨x1,c1,rfl,-⟩:=h1.src
    obtain ⟨x2,c2,rfl,-⟩:=h2.src
    have hlt':(q:Int)<(cnt:Int):=by omega
    have hk0:(0:Int)≤(q:Int):=by omega
    obtain ⟨l0,l1,l2⟩:=HL.out q hlt
    have hq72:(q+1)*72≤140737488355328:=by have:=HC.out;omega
    have bd:Below wr.heap.size wr wr.drew:=(Below.refl _ _).drew
    have b2:=below_next hb bd
    have e0:w.cell? ⟨b,off+q*3,none⟩=some (.slice x0 (D q).an c0):=by simpa using hr 0 _ rfl
    have e1:w.cell? ⟨b,off+q*3+1,none⟩=some (.slice x1 (D q).bn c1):=hr 1 _ rfl
    have e2:w.cell? ⟨b,off+q*3+2,none⟩=some (.slice x2 (D q).kn c2):=hr 2 _ rfl
    replace ho:=ho.below bd
    have hz0:=b2.size
    have y0:=copied16_own (.slice x0 (D q).an c0) (D q).an (D q).a (by have:=l0;omega)
    have y1:=copied16_own (.slice x1 (D q).bn c1) (D q).bn (D q).b (by have:=l1;omega)
    have y2:=copied16_own (.slice x2 (D q).kn c2) (D q).kn (D q).k (by have:=l2;omega)
    clear hr cP cR hK l0 l1 l2 bd
    go_upto_region 5 with (fail)
    refine wp_region_noPanic ?_
    refine wp_region_held_drew (S:=fun u=>Below w.heap.size w u) (by kernel_rfl) b2 (fun hS => ?_)
    generalize wr.drew=V at *
    refine tg 0 hS ?_
    (try simp only [pS])
    refine tg 1 hS ?_
    (try simp only [pS])
    refine tg 2 hS ?_
    (try simp only [pS])
    refine tg 3 hS (v:=pA b (off+q*3)) ?_
    (try simp only [pS])
    refine tg 4 hS (v:=pA b (off+q*3)) ?_
    (try simp only [pS])
    refine tc 5 hS (fun u hu=>(hu.cell (p:=⟨b,off+q*3,none⟩) hl).trans e0) ?_
    (try simp only [pS])
    refine tg 7 hS ?_
    (try simp only [pS])
    refine tg 8 hS ?_
    (try simp only [pS])
    refine tg 9 hS (v:=pA b (off+q*3)) ?_
    (try simp only [pS])
    refine tg 10 hS (v:=pA b (off+q*3+1)) ?_
    (try simp only [pS])
    refine tc 11 hS (fun u hu=>(hu.cell (p:=⟨b,off+q*3+1,none⟩) hl).trans e1) ?_
    (try simp only [pS])
    refine tg 13 hS ?_
    (try simp only [pS])
    refine tg 14 hS ?_
    (try simp only [pS])
    refine tg 15 hS (v:=pA b (off+q*3)) ?_
    (try simp only [pS])
    refine tg 16 hS (v:=pA b (off+q*3+2)) ?_
    (try simp only [pS])
    refine tc 17 hS (fun u hu=>(hu.cell (p:=⟨b,off+q*3+2,none⟩) hl).trans e2) ?_
    (try simp only [pS])
    refine cl 6 (y0 V (h0.keep hS)) ?_
    rintro e u1 ⟨s0,rfl,o0,hb1⟩
    (obtain ⟨z0,m0,f0⟩:=o0.slice);subst f0
    replace o0:=o0.lower hz0
    replace ho:=ho.below hb1
    have hS1:=below_next hS hb1
    refine ⟨_,rfl,hS1,?_⟩
    (try simp only [pS])
    refine cl 12 (y1 u1 (h1.keep hS1)) ?_
    rintro e u2 ⟨s1,rfl,o1,hb2⟩
    (obtain ⟨z1,m1,f1⟩:=o1.slice);subst f1
    replace o1:=o1.lower hS1.size
    replace o0:=o0.below hb2
    replace ho:=ho.below hb2
    have hS2:=below_next hS1 hb2
    refine ⟨_,rfl,hS2,?_⟩
    (try simp only [pS])
    refine cl 18 (y2 u2 (h2.keep hS2)) ?_
    rintro e u3 ⟨s2,rfl,o2,hb3⟩
    (obtain ⟨z2,m2,f2⟩:=o2.slice);subst f2
    replace o2:=o2.lower hS2.size
    replace o0:=o0.below hb3
    replace o1:=o1.below hb3
    replace ho:=ho.below hb3
    have hS3:=below_next hS2 hb3
    refine ⟨_,rfl,hS3,?_⟩
    clear hb1 hb2 hb3 y0 y1 y2 h0 h1 h2 e0 e1 e2 hS hS1 hS2
    (try simp only [pS])
    refine tg 19 hS3 ?_
    (try simp only [pS])
    obtain ⟨vN,wN,hrun,hlN,hgN⟩:=run_append_pk 23 u3 w.heap.size _ q L ho.list (.slice z0 (D q).an m0) (.slice z1 (D q).bn m1) (.slice z2 (D q).kn m2) (rows3 ⟨_,_,_,rfl⟩ ⟨_,_,_,rfl⟩ ⟨_,_,_,rfl⟩) hq72 hS3.size
    have hba:Below u3.heap.size u3 (u3.alloc (.cells #[.slice z0 (D q).an m0,.slice z1 (D q).bn m1,.slice z2 (D q).kn m2] 28)):=(Below.refl _ _).alloc (Nat.le_refl _) _
    have hoN:=ho.next hba o0 o1 o2 hlN hgN
    have hS4:=below_next hS3 hba
    have hwN:=below_grown hS4 hgN (World.ownsRow.alloc ho.list _) (Nat.le_refl _) hS4.size
    refine wpAnyH_ready (rs:=[20]) (by kernel_rfl) (by simp) ?_
    refine zA 20 (v := .slice (some ⟨u3.heap.size,0,none⟩) 1 1) #[.slice z0 (D q).an m0,.slice z1 (D q).bn m1,.slice z2 (D q).kn m2] 28 hS4 ?_ AllReadyH.nil
    (try simp only [pS])
    refine wpAnyH_ready (rs:=[21]) (by kernel_rfl) (by simp) ?_
    refine zX 21 rfl rfl rfl hrun hwN ?_ AllReadyH.nil
    (try simp only [pS])
    clear hrun hgN hlN hba hS3 hS4 o0 o1 o2 ho
    refine tg 22 hwN ?_
    (try simp only [pS])
    refine wpAnyH_done (by kernel_rfl) ?_ _
    refine NoPanic.normal ?_
    go_wp2
    go_roundw
    case rel=>exact ⟨q+1,_,hlt,by go_num,hoN,hwN⟩
    case measure=>simp [intOf];omega
  · obtain rfl:q=cnt:=by omega
    have hlt':¬((q:Nat):Int)<(q:Int):=by omega
    have p1:=cP wr xl cl' hb ho.pks
    have C0:=fun (W:World) (v:Value) (h:BytesIn W v M F)=>h.cs lt
    generalize strB M F=SS at *
    have eS:(SS.toList == SS.toList)=true:=beq_self_eq_true _
    clear cP ho
    go_wp2_with (first
     | (go_at_call 6;refine p1.mono ?_;clear p1;rintro e w1 ⟨x1,c1,rfl,B1,hb1⟩;have b1:=below_next hb hb1;have p2:=cR w1 b1;clear cR hb1)
     | (go_at_call 7;refine p2.mono ?_;clear p2;rintro e w2 ⟨x2,c2,rfl,B2,hb2⟩;have qa:=(C0 _ _ (B1.keep hb2)).conv w2 (Below.refl _ _);have qb:=(C0 _ _ B2).conv w2 (Below.refl _ _);have b2:=below_next b1 hb2;clear B1 B2 hb2 C0)
     | rw [qa]
     | rw [qb]
     | (go_at_call 8;refine (num16_any _ _).mono ?_;rintro e wn ⟨rfl,hwn⟩;obtain rfl:=hwn.symm)
     | (go_at_call 9;refine (hK _ b2).mono ?_;clear hK;rintro e w3 ⟨rfl,hb3⟩;have b3:=below_next b2 hb3))
    go_ret
    exact ⟨rfl,b3⟩
end Go.Proofs.YtkoedfmdhdikaaaDoor
