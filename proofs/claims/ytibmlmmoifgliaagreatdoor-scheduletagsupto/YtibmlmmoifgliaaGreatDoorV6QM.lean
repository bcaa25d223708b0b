/- What the proof stands on: V6Q, V6V. -/
import Derived.Test.YtibmlmmoifgliaaGreatDoorV6PM
import Derived.Test.YtibmlmmoifgliaaGreatDoorV6TM
namespace Go.Proofs.YtibmlmmoifgliaaGreatDoor
open Go.RowKit
set_option maxRecDepth 20000 in
set_option maxHeartbeats 8000000 in
theorem lawSec_any (cs:List Value) (N:Nat→Nat) (B:Nat→Nat→Nat) (hl:∀ i,N i<140737488355000) (w:World) (h:TxRow w cs 11 N B) :
 Calls Tryz.prog 24 #[.agg cs.toArray] w fun e w'=>∃ ds:List Value,e = .returned (.agg ds.toArray)∧TxRow w' ds 11 N B∧Below w.heap.size w w':=by
 obtain ⟨hlen,hcs⟩:=h
 obtain ⟨v0,v1,v2,v3,v4,v5,v6,v7,v8,v9,v10,rfl⟩:∃ v0 v1 v2 v3 v4 v5 v6 v7 v8 v9 v10,cs=[v0,v1,v2,v3,v4,v5,v6,v7,v8,v9,v10]:=by
  match cs,hlen with
  | [v0,v1,v2,v3,v4,v5,v6,v7,v8,v9,v10],_=>exact ⟨_,_,_,_,_,_,_,_,_,_,_,rfl⟩
 have h0:=hcs 0 _ rfl
 have cp0:=fun (W:World) (h:BytesIn W v0 (N 0) (B 0))=>copied16_any v0 (N 0) (B 0) (hl 0) W h
 obtain ⟨n0,hn0⟩:∃ n,n=N 0:=⟨_,rfl⟩
 obtain ⟨b0,hb0⟩:∃ n,n=B 0:=⟨_,rfl⟩
 rw [←hn0,←hb0] at h0 cp0
 have hN0:=Hid.mk' hn0
 have hB0:=Hid.mk' hb0
 clear hn0 hb0
 obtain ⟨x0,c0,rfl,-⟩:=h0.src
 have h1:=hcs 1 _ rfl
 have cp1:=fun (W:World) (h:BytesIn W v1 (N 1) (B 1))=>copied16_any v1 (N 1) (B 1) (hl 1) W h
 obtain ⟨n1,hn1⟩:∃ n,n=N 1:=⟨_,rfl⟩
 obtain ⟨b1,hb1⟩:∃ n,n=B 1:=⟨_,rfl⟩
 rw [←hn1,←hb1] at h1 cp1
 have hN1:=Hid.mk' hn1
 have hB1:=Hid.mk' hb1
 clear hn1 hb1
 obtain ⟨x1,c1,rfl,-⟩:=h1.src
 have h2:=hcs 2 _ rfl
 have cp2:=fun (W:World) (h:BytesIn W v2 (N 2) (B 2))=>copied16_any v2 (N 2) (B 2) (hl 2) W h
 obtain ⟨n2,hn2⟩:∃ n,n=N 2:=⟨_,rfl⟩
 obtain ⟨b2,hb2⟩:∃ n,n=B 2:=⟨_,rfl⟩
 rw [←hn2,←hb2] at h2 cp2
 have hN2:=Hid.mk' hn2
 have hB2:=Hid.mk' hb2
 clear hn2 hb2
 obtain ⟨x2,c2,rfl,-⟩:=h2.src
 have h3:=hcs 3 _ rfl
 have cp3:=fun (W:World) (h:BytesIn W v3 (N 3) (B 3))=>copied16_any v3 (N 3) (B 3) (hl 3) W h
 obtain ⟨n3,hn3⟩:∃ n,n=N 3:=⟨_,rfl⟩
 obtain ⟨b3,hb3⟩:∃ n,n=B 3:=⟨_,rfl⟩
 rw [←hn3,←hb3] at h3 cp3
 have hN3:=Hid.mk' hn3
 have hB3:=Hid.mk' hb3
 clear hn3 hb3
 obtain ⟨x3,c3,rfl,-⟩:=h3.src
 have h4:=hcs 4 _ rfl
 have cp4:=fun (W:World) (h:BytesIn W v4 (N 4) (B 4))=>copied16_any v4 (N 4) (B 4) (hl 4) W h
 obtain ⟨n4,hn4⟩:∃ n,n=N 4:=⟨_,rfl⟩
 obtain ⟨b4,hb4⟩:∃ n,n=B 4:=⟨_,rfl⟩
 rw [←hn4,←hb4] at h4 cp4
 have hN4:=Hid.mk' hn4
 have hB4:=Hid.mk' hb4
 clear hn4 hb4
 obtain ⟨x4,c4,rfl,-⟩:=h4.src
 have h5:=hcs 5 _ rfl
 have cp5:=fun (W:World) (h:BytesIn W v5 (N 5) (B 5))=>copied16_any v5 (N 5) (B 5) (hl 5) W h
 obtain ⟨n5,hn5⟩:∃ n,n=N 5:=⟨_,rfl⟩
 obtain ⟨b5,hb5⟩:∃ n,n=B 5:=⟨_,rfl⟩
 rw [←hn5,←hb5] at h5 cp5
 have hN5:=Hid.mk' hn5
 have hB5:=Hid.mk' hb5
 clear hn5 hb5
 obtain ⟨x5,c5,rfl,-⟩:=h5.src
 have h6:=hcs 6 _ rfl
 have cp6:=fun (W:World) (h:BytesIn W v6 (N 6) (B 6))=>copied16_any v6 (N 6) (B 6) (hl 6) W h
 obtain ⟨n6,hn6⟩:∃ n,n=N 6:=⟨_,rfl⟩
 obtain ⟨b6,hb6⟩:∃ n,n=B 6:=⟨_,rfl⟩
 rw [←hn6,←hb6] at h6 cp6
 have hN6:=Hid.mk' hn6
 have hB6:=Hid.mk' hb6
 clear hn6 hb6
 obtain ⟨x6,c6,rfl,-⟩:=h6.src
 have h7:=hcs 7 _ rfl
 have cp7:=fun (W:World) (h:BytesIn W v7 (N 7) (B 7))=>copied16_any v7 (N 7) (B 7) (hl 7) W h
 obtain ⟨n7,hn7⟩:∃ n,n=N 7:=⟨_,rfl⟩
 obtain ⟨b7,hb7⟩:∃ n,n=B 7:=⟨_,rfl⟩
 rw [←hn7,←hb7] at h7 cp7
 have hN7:=Hid.mk' hn7
 have hB7:=Hid.mk' hb7
 clear hn7 hb7
 obtain ⟨x7,c7,rfl,-⟩:=h7.src
 have h8:=hcs 8 _ rfl
 have cp8:=fun (W:World) (h:BytesIn W v8 (N 8) (B 8))=>copied16_any v8 (N 8) (B 8) (hl 8) W h
 obtain ⟨n8,hn8⟩:∃ n,n=N 8:=⟨_,rfl⟩
 obtain ⟨b8,hb8⟩:∃ n,n=B 8:=⟨_,rfl⟩
 rw [←hn8,←hb8] at h8 cp8
 have hN8:=Hid.mk' hn8
 have hB8:=Hid.mk' hb8
 clear hn8 hb8
 obtain ⟨x8,c8,rfl,-⟩:=h8.src
 have h9:=hcs 9 _ rfl
 have cp9:=fun (W:World) (h:BytesIn W v9 (N 9) (B 9))=>copied16_any v9 (N 9) (B 9) (hl 9) W h
 obtain ⟨n9,hn9⟩:∃ n,n=N 9:=⟨_,rfl⟩
 obtain ⟨b9,hb9⟩:∃ n,n=B 9:=⟨_,rfl⟩
 rw [←hn9,←hb9] at h9 cp9
 have hN9:=Hid.mk' hn9
 have hB9:=Hid.mk' hb9
 clear hn9 hb9
 obtain ⟨x9,c9,rfl,-⟩:=h9.src
 have h10:=hcs 10 _ rfl
 have cp10:=fun (W:World) (h:BytesIn W v10 (N 10) (B 10))=>copied16_any v10 (N 10) (B 10) (hl 10) W h
 obtain ⟨n10,hn10⟩:∃ n,n=N 10:=⟨_,rfl⟩
 obtain ⟨b10,hb10⟩:∃ n,n=B 10:=⟨_,rfl⟩
 rw [←hn10,←hb10] at h10 cp10
 have hN10:=Hid.mk' hn10
 have hB10:=Hid.mk' hb10
 clear hn10 hb10
 obtain ⟨x10,c10,rfl,-⟩:=h10.src
 clear hcs hlen hl
 have b1:Below w.heap.size w (w.alloc (.cells #[.slice x0 n0 c0,.slice x1 n1 c1,.slice x2 n2 c2,.slice x3 n3 c3,.slice x4 n4 c4,.slice x5 n5 c5,.slice x6 n6 c6,.slice x7 n7 c7,.slice x8 n8 c8,.slice x9 n9 c9,.slice x10 n10 c10] 48)):=(Below.refl _ _).alloc (Nat.le_refl _) _
 have k1:=RW.fresh w [.slice x0 n0 c0,.slice x1 n1 c1,.slice x2 n2 c2,.slice x3 n3 c3,.slice x4 n4 c4,.slice x5 n5 c5,.slice x6 n6 c6,.slice x7 n7 c7,.slice x8 n8 c8,.slice x9 n9 c9,.slice x10 n10 c10] 48
 have b2:Below (w.alloc (.cells #[.slice x0 n0 c0,.slice x1 n1 c1,.slice x2 n2 c2,.slice x3 n3 c3,.slice x4 n4 c4,.slice x5 n5 c5,.slice x6 n6 c6,.slice x7 n7 c7,.slice x8 n8 c8,.slice x9 n9 c9,.slice x10 n10 c10] 48)).heap.size _ ((w.alloc (.cells #[.slice x0 n0 c0,.slice x1 n1 c1,.slice x2 n2 c2,.slice x3 n3 c3,.slice x4 n4 c4,.slice x5 n5 c5,.slice x6 n6 c6,.slice x7 n7 c7,.slice x8 n8 c8,.slice x9 n9 c9,.slice x10 n10 c10] 48)).alloc (.cells #[.slice none 0 0,.slice none 0 0,.slice none 0 0,.slice none 0 0,.slice none 0 0,.slice none 0 0,.slice none 0 0,.slice none 0 0,.slice none 0 0,.slice none 0 0,.slice none 0 0] 45)):=(Below.refl _ _).alloc (Nat.le_refl _) _
 have kz:RW ((w.alloc (.cells #[.slice x0 n0 c0,.slice x1 n1 c1,.slice x2 n2 c2,.slice x3 n3 c3,.slice x4 n4 c4,.slice x5 n5 c5,.slice x6 n6 c6,.slice x7 n7 c7,.slice x8 n8 c8,.slice x9 n9 c9,.slice x10 n10 c10] 48)).alloc (.cells #[.slice none 0 0,.slice none 0 0,.slice none 0 0,.slice none 0 0,.slice none 0 0,.slice none 0 0,.slice none 0 0,.slice none 0 0,.slice none 0 0,.slice none 0 0,.slice none 0 0] 45)) _ 0 z11:=RW.fresh (w.alloc (.cells #[.slice x0 n0 c0,.slice x1 n1 c1,.slice x2 n2 c2,.slice x3 n3 c3,.slice x4 n4 c4,.slice x5 n5 c5,.slice x6 n6 c6,.slice x7 n7 c7,.slice x8 n8 c8,.slice x9 n9 c9,.slice x10 n10 c10] 48)) z11 45
 rw [World.size_alloc] at kz
 have k:=k1.still b2
 have hw:=below_next b1 b2
 replace h0:=h0.keep hw
 replace h1:=h1.keep hw
 replace h2:=h2.keep hw
 replace h3:=h3.keep hw
 replace h4:=h4.keep hw
 replace h5:=h5.keep hw
 replace h6:=h6.keep hw
 replace h7:=h7.keep hw
 replace h8:=h8.keep hw
 replace h9:=h9.keep hw
 replace h10:=h10.keep hw
 clear b1 b2 k1
 go_enter Tryz.func24,Tryz.ntmps24
 go_upto_region 1 with (rw [zSec])
 generalize (w.alloc (.cells #[.slice x0 n0 c0,.slice x1 n1 c1,.slice x2 n2 c2,.slice x3 n3 c3,.slice x4 n4 c4,.slice x5 n5 c5,.slice x6 n6 c6,.slice x7 n7 c7,.slice x8 n8 c8,.slice x9 n9 c9,.slice x10 n10 c10] 48)).alloc (.cells #[.slice none 0 0,.slice none 0 0,.slice none 0 0,.slice none 0 0,.slice none 0 0,.slice none 0 0,.slice none 0 0,.slice none 0 0,.slice none 0 0,.slice none 0 0,.slice none 0 0] 45)=W0 at *
 have hdr:Below W0.heap.size W0 W0.drew:=(Below.refl _ _).drew
 replace k:=k.still hdr
 replace kz:=kz.still hdr
 replace h0:=h0.keep hdr
 replace h1:=h1.keep hdr
 replace h2:=h2.keep hdr
 replace h3:=h3.keep hdr
 replace h4:=h4.keep hdr
 replace h5:=h5.keep hdr
 replace h6:=h6.keep hdr
 replace h7:=h7.keep hdr
 replace h8:=h8.keep hdr
 replace h9:=h9.keep hdr
 replace h10:=h10.keep hdr
 replace hw:=below_next hw hdr
 clear hdr
 refine wp_last 34 (S:=fun u=>Below W0.drew.heap.size W0.drew u) (by kernel_rfl) (by kernel_rfl) (by kernel_rfl) (by kernel_rfl) (Below.refl _ _) (fun hS => ?_)
 generalize W0.drew=V at *
 refine tg 0 hS ?_
 (try simp only [pS])
 refine tc 1 hS (fun u hu=>by simpa using (k.still hu).range 0 _ rfl) ?_
 (try simp only [pS])
 refine tg 3 hS ?_
 (try simp only [pS])
 refine tc 4 hS (fun u hu=>by simpa using (k.still hu).range 1 _ rfl) ?_
 (try simp only [pS])
 refine tg 6 hS ?_
 (try simp only [pS])
 refine tc 7 hS (fun u hu=>by simpa using (k.still hu).range 2 _ rfl) ?_
 (try simp only [pS])
 refine tg 9 hS ?_
 (try simp only [pS])
 refine tc 10 hS (fun u hu=>by simpa using (k.still hu).range 3 _ rfl) ?_
 (try simp only [pS])
 refine tg 12 hS ?_
 (try simp only [pS])
 refine tc 13 hS (fun u hu=>by simpa using (k.still hu).range 4 _ rfl) ?_
 (try simp only [pS])
 refine tg 15 hS ?_
 (try simp only [pS])
 refine tc 16 hS (fun u hu=>by simpa using (k.still hu).range 5 _ rfl) ?_
 (try simp only [pS])
 refine tg 18 hS ?_
 (try simp only [pS])
 refine tc 19 hS (fun u hu=>by simpa using (k.still hu).range 6 _ rfl) ?_
 (try simp only [pS])
 refine tg 21 hS ?_
 (try simp only [pS])
 refine tc 22 hS (fun u hu=>by simpa using (k.still hu).range 7 _ rfl) ?_
 (try simp only [pS])
 refine tg 24 hS ?_
 (try simp only [pS])
 refine tc 25 hS (fun u hu=>by simpa using (k.still hu).range 8 _ rfl) ?_
 (try simp only [pS])
 refine tg 27 hS ?_
 (try simp only [pS])
 refine tc 28 hS (fun u hu=>by simpa using (k.still hu).range 9 _ rfl) ?_
 (try simp only [pS])
 refine tg 30 hS ?_
 (try simp only [pS])
 refine tc 31 hS (fun u hu=>by simpa using (k.still hu).range 10 _ rfl) ?_
 (try simp only [pS])
 refine cn 2 (cp0 V h0) ?_
 rintro e u1 ⟨y0,m0,rfl,Y0,hb⟩
 refine ⟨_,rfl,hb,?_⟩
 replace k:=k.still hb
 replace kz:=kz.still hb
 replace h0:=h0.keep hb
 replace h1:=h1.keep hb
 replace h2:=h2.keep hb
 replace h3:=h3.keep hb
 replace h4:=h4.keep hb
 replace h5:=h5.keep hb
 replace h6:=h6.keep hb
 replace h7:=h7.keep hb
 replace h8:=h8.keep hb
 replace h9:=h9.keep hb
 replace h10:=h10.keep hb
 replace hw:=below_next hw hb
 clear hS hb
 have hS:=Below.refl u1.heap.size u1
 (try simp only [pS])
 refine cn 5 (cp1 u1 h1) ?_
 rintro e u2 ⟨y1,m1,rfl,Y1,hb⟩
 refine ⟨_,rfl,hb,?_⟩
 replace k:=k.still hb
 replace kz:=kz.still hb
 replace h0:=h0.keep hb
 replace h1:=h1.keep hb
 replace h2:=h2.keep hb
 replace h3:=h3.keep hb
 replace h4:=h4.keep hb
 replace h5:=h5.keep hb
 replace h6:=h6.keep hb
 replace h7:=h7.keep hb
 replace h8:=h8.keep hb
 replace h9:=h9.keep hb
 replace h10:=h10.keep hb
 replace Y0:=Y0.keep hb
 replace hw:=below_next hw hb
 clear hS hb
 have hS:=Below.refl u2.heap.size u2
 (try simp only [pS])
 refine cn 8 (cp2 u2 h2) ?_
 rintro e u3 ⟨y2,m2,rfl,Y2,hb⟩
 refine ⟨_,rfl,hb,?_⟩
 replace k:=k.still hb
 replace kz:=kz.still hb
 replace h0:=h0.keep hb
 replace h1:=h1.keep hb
 replace h2:=h2.keep hb
 replace h3:=h3.keep hb
 replace h4:=h4.keep hb
 replace h5:=h5.keep hb
 replace h6:=h6.keep hb
 replace h7:=h7.keep hb
 replace h8:=h8.keep hb
 replace h9:=h9.keep hb
 replace h10:=h10.keep hb
 replace Y0:=Y0.keep hb
 replace Y1:=Y1.keep hb
 replace hw:=below_next hw hb
 clear hS hb
 have hS:=Below.refl u3.heap.size u3
 (try simp only [pS])
 refine cn 11 (cp3 u3 h3) ?_
 rintro e u4 ⟨y3,m3,rfl,Y3,hb⟩
 refine ⟨_,rfl,hb,?_⟩
 replace k:=k.still hb
 replace kz:=kz.still hb
 replace h0:=h0.keep hb
 replace h1:=h1.keep hb
 replace h2:=h2.keep hb
 replace h3:=h3.keep hb
 replace h4:=h4.keep hb
 replace h5:=h5.keep hb
 replace h6:=h6.keep hb
 replace h7:=h7.keep hb
 replace h8:=h8.keep hb
 replace h9:=h9.keep hb
 replace h10:=h10.keep hb
 replace Y0:=Y0.keep hb
 replace Y1:=Y1.keep hb
 replace Y2:=Y2.keep hb
 replace hw:=below_next hw hb
 clear hS hb
 have hS:=Below.refl u4.heap.size u4
 (try simp only [pS])
 refine cn 14 (cp4 u4 h4) ?_
 rintro e u5 ⟨y4,m4,rfl,Y4,hb⟩
 refine ⟨_,rfl,hb,?_⟩
 replace k:=k.still hb
 replace kz:=kz.still hb
 replace h0:=h0.keep hb
 replace h1:=h1.keep hb
 replace h2:=h2.keep hb
 replace h3:=h3.keep hb
 replace h4:=h4.keep hb
 replace h5:=h5.keep hb
 replace h6:=h6.keep hb
 replace h7:=h7.keep hb
 replace h8:=h8.keep hb
 replace h9:=h9.keep hb
 replace h10:=h10.keep hb
 replace Y0:=Y0.keep hb
 replace Y1:=Y1.keep hb
 replace Y2:=Y2.keep hb
 replace Y3:=Y3.keep hb
 replace hw:=below_next hw hb
 clear hS hb
 have hS:=Below.refl u5.heap.size u5
 (try simp only [pS])
 refine cn 17 (cp5 u5 h5) ?_
 rintro e u6 ⟨y5,m5,rfl,Y5,hb⟩
 refine ⟨_,rfl,hb,?_⟩
 replace k:=k.still hb
 replace kz:=kz.still hb
 replace h0:=h0.keep hb
 replace h1:=h1.keep hb
 replace h2:=h2.keep hb
 replace h3:=h3.keep hb
 replace h4:=h4.keep hb
 replace h5:=h5.keep hb
 replace h6:=h6.keep hb
 replace h7:=h7.keep hb
 replace h8:=h8.keep hb
 replace h9:=h9.keep hb
 replace h10:=h10.keep hb
 replace Y0:=Y0.keep hb
 replace Y1:=Y1.keep hb
 replace Y2:=Y2.keep hb
 replace Y3:=Y3.keep hb
 replace Y4:=Y4.keep hb
 replace hw:=below_next hw hb
 clear hS hb
 have hS:=Below.refl u6.heap.size u6
 (try simp only [pS])
 refine cn 20 (cp6 u6 h6) ?_
 rintro e u7 ⟨y6,m6,rfl,Y6,hb⟩
 refine ⟨_,rfl,hb,?_⟩
 replace k:=k.still hb
 replace kz:=kz.still hb
 replace h0:=h0.keep hb
 replace h1:=h1.keep hb
 replace h2:=h2.keep hb
 replace h3:=h3.keep hb
 replace h4:=h4.keep hb
 replace h5:=h5.keep hb
 replace h6:=h6.keep hb
 replace h7:=h7.keep hb
 replace h8:=h8.keep hb
 replace h9:=h9.keep hb
 replace h10:=h10.keep hb
 replace Y0:=Y0.keep hb
 replace Y1:=Y1.keep hb
 replace Y2:=Y2.keep hb
 replace Y3:=Y3.keep hb
 replace Y4:=Y4.keep hb
 replace Y5:=Y5.keep hb
 replace hw:=below_next hw hb
 clear hS hb
 have hS:=Below.refl u7.heap.size u7
 (try simp only [pS])
 refine cn 23 (cp7 u7 h7) ?_
 rintro e u8 ⟨y7,m7,rfl,Y7,hb⟩
 refine ⟨_,rfl,hb,?_⟩
 replace k:=k.still hb
 replace kz:=kz.still hb
 replace h0:=h0.keep hb
 replace h1:=h1.keep hb
 replace h2:=h2.keep hb
 replace h3:=h3.keep hb
 replace h4:=h4.keep hb
 replace h5:=h5.keep hb
 replace h6:=h6.keep hb
 replace h7:=h7.keep hb
 replace h8:=h8.keep hb
 replace h9:=h9.keep hb
 replace h10:=h10.keep hb
 replace Y0:=Y0.keep hb
 replace Y1:=Y1.keep hb
 replace Y2:=Y2.keep hb
 replace Y3:=Y3.keep hb
 replace Y4:=Y4.keep hb
 replace Y5:=Y5.keep hb
 replace Y6:=Y6.keep hb
 replace hw:=below_next hw hb
 clear hS hb
 have hS:=Below.refl u8.heap.size u8
 (try simp only [pS])
 refine cn 26 (cp8 u8 h8) ?_
 rintro e u9 ⟨y8,m8,rfl,Y8,hb⟩
 refine ⟨_,rfl,hb,?_⟩
 replace k:=k.still hb
 replace kz:=kz.still hb
 replace h0:=h0.keep hb
 replace h1:=h1.keep hb
 replace h2:=h2.keep hb
 replace h3:=h3.keep hb
 replace h4:=h4.keep hb
 replace h5:=h5.keep hb
 replace h6:=h6.keep hb
 replace h7:=h7.keep hb
 replace h8:=h8.keep hb
 replace h9:=h9.keep hb
 replace h10:=h10.keep hb
 replace Y0:=Y0.keep hb
 replace Y1:=Y1.keep hb
 replace Y2:=Y2.keep hb
 replace Y3:=Y3.keep hb
 replace Y4:=Y4.keep hb
 replace Y5:=Y5.keep hb
 replace Y6:=Y6.keep hb
 replace Y7:=Y7.keep hb
 replace hw:=below_next hw hb
 clear hS hb
 have hS:=Below.refl u9.heap.size u9
 (try simp only [pS])
 refine cn 29 (cp9 u9 h9) ?_
 rintro e u10 ⟨y9,m9,rfl,Y9,hb⟩
 refine ⟨_,rfl,hb,?_⟩
 replace k:=k.still hb
 replace kz:=kz.still hb
 replace h0:=h0.keep hb
 replace h1:=h1.keep hb
 replace h2:=h2.keep hb
 replace h3:=h3.keep hb
 replace h4:=h4.keep hb
 replace h5:=h5.keep hb
 replace h6:=h6.keep hb
 replace h7:=h7.keep hb
 replace h8:=h8.keep hb
 replace h9:=h9.keep hb
 replace h10:=h10.keep hb
 replace Y0:=Y0.keep hb
 replace Y1:=Y1.keep hb
 replace Y2:=Y2.keep hb
 replace Y3:=Y3.keep hb
 replace Y4:=Y4.keep hb
 replace Y5:=Y5.keep hb
 replace Y6:=Y6.keep hb
 replace Y7:=Y7.keep hb
 replace Y8:=Y8.keep hb
 replace hw:=below_next hw hb
 clear hS hb
 have hS:=Below.refl u10.heap.size u10
 (try simp only [pS])
 refine cn 32 (cp10 u10 h10) ?_
 rintro e u11 ⟨y10,m10,rfl,Y10,hb⟩
 refine ⟨_,rfl,hb,?_⟩
 replace k:=k.still hb
 replace kz:=kz.still hb
 replace h0:=h0.keep hb
 replace h1:=h1.keep hb
 replace h2:=h2.keep hb
 replace h3:=h3.keep hb
 replace h4:=h4.keep hb
 replace h5:=h5.keep hb
 replace h6:=h6.keep hb
 replace h7:=h7.keep hb
 replace h8:=h8.keep hb
 replace h9:=h9.keep hb
 replace h10:=h10.keep hb
 replace Y0:=Y0.keep hb
 replace Y1:=Y1.keep hb
 replace Y2:=Y2.keep hb
 replace Y3:=Y3.keep hb
 replace Y4:=Y4.keep hb
 replace Y5:=Y5.keep hb
 replace Y6:=Y6.keep hb
 replace Y7:=Y7.keep hb
 replace Y8:=Y8.keep hb
 replace Y9:=Y9.keep hb
 replace hw:=below_next hw hb
 clear hS hb
 have hS:=Below.refl u11.heap.size u11
 (try simp only [pS])
 refine tg 33 hS ?_
 (try simp only [pS])
 refine wpAnyH_done (by kernel_rfl) ?_ _
 refine lastRow 34 45 2 36 [.slice y0 n0 m0,.slice y1 n1 m1,.slice y2 n2 m2,.slice y3 n3 m3,.slice y4 n4 m4,.slice y5 n5 m5,.slice y6 n6 m6,.slice y7 n7 m7,.slice y8 n8 m8,.slice y9 n9 m9,.slice y10 n10 m10] kz rfl (infoSec rfl) (by kernel_rfl) (fun rz => ?_)
 refine NoPanic.normal ?_
 go_wp2
 have ho:Out (w.heap.size+1) 0 11 u11 (u11.setCells (w.heap.size+1) 0 [.slice y0 n0 m0,.slice y1 n1 m1,.slice y2 n2 m2,.slice y3 n3 m3,.slice y4 n4 m4,.slice y5 n5 m5,.slice y6 n6 m6,.slice y7 n7 m7,.slice y8 n8 m8,.slice y9 n9 m9,.slice y10 n10 m10]):=Out.setCells u11 _ (Nat.le_refl _) (Nat.le_refl _)
 have hno:∀ i,i<11→∃ u,u11.cell? ⟨w.heap.size+1,i,none⟩=some u∧∀ z,u ≠ .int .u8 z:=fun i hi=>by
  have hl:i<z11.length:=hi
  have hc:=kz.range i _ (List.getElem?_eq_getElem hl)
  rw [Nat.zero_add] at hc
  refine ⟨_,hc,fun z e => ?_⟩
  have hm:=List.getElem_mem hl
  rw [e] at hm
  simp [z11] at hm
 refine bodyPost_ret (results_cell_mid Tryz.results24 _ _ (w.heap.size+1) 0 [.slice y0 n0 m0,.slice y1 n1 m1,.slice y2 n2 m2,.slice y3 n3 m3,.slice y4 n4 m4,.slice y5 n5 m5,.slice y6 n6 m6,.slice y7 n7 m7,.slice y8 n8 m8,.slice y9 n9 m9,.slice y10 n10 m10] _ rfl rz.range Tryz.underlying45 rfl (infoSec rfl)) rfl ⟨_,rfl,⟨rfl,fun i v hv => ?_⟩,below_setCells (Nat.le_succ _) _ 0 _ hw⟩
 match i,hv with
 | 0,hv=>cases hv;rw [←hN0.out,←hB0.out];exact Y0.outV ho hno
 | 1,hv=>cases hv;rw [←hN1.out,←hB1.out];exact Y1.outV ho hno
 | 2,hv=>cases hv;rw [←hN2.out,←hB2.out];exact Y2.outV ho hno
 | 3,hv=>cases hv;rw [←hN3.out,←hB3.out];exact Y3.outV ho hno
 | 4,hv=>cases hv;rw [←hN4.out,←hB4.out];exact Y4.outV ho hno
 | 5,hv=>cases hv;rw [←hN5.out,←hB5.out];exact Y5.outV ho hno
 | 6,hv=>cases hv;rw [←hN6.out,←hB6.out];exact Y6.outV ho hno
 | 7,hv=>cases hv;rw [←hN7.out,←hB7.out];exact Y7.outV ho hno
 | 8,hv=>cases hv;rw [←hN8.out,←hB8.out];exact Y8.outV ho hno
 | 9,hv=>cases hv;rw [←hN9.out,←hB9.out];exact Y9.outV ho hno
 | 10,hv=>cases hv;rw [←hN10.out,←hB10.out];exact Y10.outV ho hno
 | i+11,hv=>simp at hv
set_option maxRecDepth 20000 in
set_option maxHeartbeats 8000000 in
theorem sameSec_any (cs ds:List Value) (N:Nat→Nat) (B:Nat→Nat→Nat) (lB:∀ i j,B i j<256) (w:World) (h:TxRow w cs 11 N B) (h':TxRow w ds 11 N B) :
 Calls Tryz.prog 22 #[.agg cs.toArray,.agg ds.toArray] w fun e w'=>e = .returned (.bool true)∧Below w.heap.size w w':=by
 have b1:Below w.heap.size w (w.alloc (.cells cs.toArray 45)):=(Below.refl _ _).alloc (Nat.le_refl _) _
 have b2:=b1.alloc b1.size (.cells ds.toArray 48)
 have HB:=Hid.mk' b2
 have hh:=h.still b2
 have hk:=h'.still b2
 obtain ⟨hlen,hcs⟩:=hh
 obtain ⟨hken,hds⟩:=hk
 clear h h' b1 b2
 obtain ⟨v0,v1,v2,v3,v4,v5,v6,v7,v8,v9,v10,rfl⟩:∃ v0 v1 v2 v3 v4 v5 v6 v7 v8 v9 v10,cs=[v0,v1,v2,v3,v4,v5,v6,v7,v8,v9,v10]:=by
  match cs,hlen with
  | [v0,v1,v2,v3,v4,v5,v6,v7,v8,v9,v10],_=>exact ⟨_,_,_,_,_,_,_,_,_,_,_,rfl⟩
 obtain ⟨u0,u1,u2,u3,u4,u5,u6,u7,u8,u9,u10,rfl⟩:∃ u0 u1 u2 u3 u4 u5 u6 u7 u8 u9 u10,ds=[u0,u1,u2,u3,u4,u5,u6,u7,u8,u9,u10]:=by
  match ds,hken with
  | [u0,u1,u2,u3,u4,u5,u6,u7,u8,u9,u10],_=>exact ⟨_,_,_,_,_,_,_,_,_,_,_,rfl⟩
 have s0:=((hcs 0 _ rfl).cs (lB 0)).conv _ (Below.refl _ _)
 have t0:=((hds 0 _ rfl).cs (lB 0)).conv _ (Below.refl _ _)
 obtain ⟨x0,n0,c0,rfl⟩:=(hcs 0 _ rfl).isSl
 obtain ⟨p0,q0,r0,rfl⟩:=(hds 0 _ rfl).isSl
 generalize strB (N 0) (B 0)=S0 at s0 t0
 have e0:(S0.toList == S0.toList)=true:=beq_self_eq_true _
 have s1:=((hcs 1 _ rfl).cs (lB 1)).conv _ (Below.refl _ _)
 have t1:=((hds 1 _ rfl).cs (lB 1)).conv _ (Below.refl _ _)
 obtain ⟨x1,n1,c1,rfl⟩:=(hcs 1 _ rfl).isSl
 obtain ⟨p1,q1,r1,rfl⟩:=(hds 1 _ rfl).isSl
 generalize strB (N 1) (B 1)=S1 at s1 t1
 have e1:(S1.toList == S1.toList)=true:=beq_self_eq_true _
 have s2:=((hcs 2 _ rfl).cs (lB 2)).conv _ (Below.refl _ _)
 have t2:=((hds 2 _ rfl).cs (lB 2)).conv _ (Below.refl _ _)
 obtain ⟨x2,n2,c2,rfl⟩:=(hcs 2 _ rfl).isSl
 obtain ⟨p2,q2,r2,rfl⟩:=(hds 2 _ rfl).isSl
 generalize strB (N 2) (B 2)=S2 at s2 t2
 have e2:(S2.toList == S2.toList)=true:=beq_self_eq_true _
 have s3:=((hcs 3 _ rfl).cs (lB 3)).conv _ (Below.refl _ _)
 have t3:=((hds 3 _ rfl).cs (lB 3)).conv _ (Below.refl _ _)
 obtain ⟨x3,n3,c3,rfl⟩:=(hcs 3 _ rfl).isSl
 obtain ⟨p3,q3,r3,rfl⟩:=(hds 3 _ rfl).isSl
 generalize strB (N 3) (B 3)=S3 at s3 t3
 have e3:(S3.toList == S3.toList)=true:=beq_self_eq_true _
 have s4:=((hcs 4 _ rfl).cs (lB 4)).conv _ (Below.refl _ _)
 have t4:=((hds 4 _ rfl).cs (lB 4)).conv _ (Below.refl _ _)
 obtain ⟨x4,n4,c4,rfl⟩:=(hcs 4 _ rfl).isSl
 obtain ⟨p4,q4,r4,rfl⟩:=(hds 4 _ rfl).isSl
 generalize strB (N 4) (B 4)=S4 at s4 t4
 have e4:(S4.toList == S4.toList)=true:=beq_self_eq_true _
 have s5:=((hcs 5 _ rfl).cs (lB 5)).conv _ (Below.refl _ _)
 have t5:=((hds 5 _ rfl).cs (lB 5)).conv _ (Below.refl _ _)
 obtain ⟨x5,n5,c5,rfl⟩:=(hcs 5 _ rfl).isSl
 obtain ⟨p5,q5,r5,rfl⟩:=(hds 5 _ rfl).isSl
 generalize strB (N 5) (B 5)=S5 at s5 t5
 have e5:(S5.toList == S5.toList)=true:=beq_self_eq_true _
 have s6:=((hcs 6 _ rfl).cs (lB 6)).conv _ (Below.refl _ _)
 have t6:=((hds 6 _ rfl).cs (lB 6)).conv _ (Below.refl _ _)
 obtain ⟨x6,n6,c6,rfl⟩:=(hcs 6 _ rfl).isSl
 obtain ⟨p6,q6,r6,rfl⟩:=(hds 6 _ rfl).isSl
 generalize strB (N 6) (B 6)=S6 at s6 t6
 have e6:(S6.toList == S6.toList)=true:=beq_self_eq_true _
 have s7:=((hcs 7 _ rfl).cs (lB 7)).conv _ (Below.refl _ _)
 have t7:=((hds 7 _ rfl).cs (lB 7)).conv _ (Below.refl _ _)
 obtain ⟨x7,n7,c7,rfl⟩:=(hcs 7 _ rfl).isSl
 obtain ⟨p7,q7,r7,rfl⟩:=(hds 7 _ rfl).isSl
 generalize strB (N 7) (B 7)=S7 at s7 t7
 have e7:(S7.toList == S7.toList)=true:=beq_self_eq_true _
 have s8:=((hcs 8 _ rfl).cs (lB 8)).conv _ (Below.refl _ _)
 have t8:=((hds 8 _ rfl).cs (lB 8)).conv _ (Below.refl _ _)
 obtain ⟨x8,n8,c8,rfl⟩:=(hcs 8 _ rfl).isSl
 obtain ⟨p8,q8,r8,rfl⟩:=(hds 8 _ rfl).isSl
 generalize strB (N 8) (B 8)=S8 at s8 t8
 have e8:(S8.toList == S8.toList)=true:=beq_self_eq_true _
 have s9:=((hcs 9 _ rfl).cs (lB 9)).conv _ (Below.refl _ _)
 have t9:=((hds 9 _ rfl).cs (lB 9)).conv _ (Below.refl _ _)
 obtain ⟨x9,n9,c9,rfl⟩:=(hcs 9 _ rfl).isSl
 obtain ⟨p9,q9,r9,rfl⟩:=(hds 9 _ rfl).isSl
 generalize strB (N 9) (B 9)=S9 at s9 t9
 have e9:(S9.toList == S9.toList)=true:=beq_self_eq_true _
 have s10:=((hcs 10 _ rfl).cs (lB 10)).conv _ (Below.refl _ _)
 have t10:=((hds 10 _ rfl).cs (lB 10)).conv _ (Below.refl _ _)
 obtain ⟨x10,n10,c10,rfl⟩:=(hcs 10 _ rfl).isSl
 obtain ⟨p10,q10,r10,rfl⟩:=(hds 10 _ rfl).isSl
 generalize strB (N 10) (B 10)=S10 at s10 t10
 have e10:(S10.toList == S10.toList)=true:=beq_self_eq_true _
 clear hcs hds hlen hken lB
 go_enter Tryz.func22,Tryz.ntmps22
 go_wp2_with (first
  | rw [s0]
  | rw [t0]
  | rw [s1]
  | rw [t1]
  | rw [s2]
  | rw [t2]
  | rw [s3]
  | rw [t3]
  | rw [s4]
  | rw [t4]
  | rw [s5]
  | rw [t5]
  | rw [s6]
  | rw [t6]
  | rw [s7]
  | rw [t7]
  | rw [s8]
  | rw [t8]
  | rw [s9]
  | rw [t9]
  | rw [s10]
  | rw [t10])
 go_ret
 exact ⟨rfl,HB.out⟩
end Go.Proofs.YtibmlmmoifgliaaGreatDoor
namespace Go.Proofs.YtibmlmmoifgliaaGreatDoor
open Go.RowKit
theorem joiner_both (n m:Nat) (a b:Nat→Nat) (la:∀ j,a j<256) (lb:∀ j,b j<256) (hn:n<140737488354000) (hm:m<140737488354000) (d:CxD) (hB:cxB d) :
 ∃ S E,(∀ u v cs W,TabAt W→BytesIn W u n a→BytesIn W v m b→CxIn W cs d→AnE5 16 #[u,v,.agg cs.toArray] W S E)∧(∀ u v cs W,BytesIn W u n a→BytesIn W v m b→CxIn W cs d→AnE5 17 #[u,v,.agg cs.toArray] W S E):=by
 cases ok:cxOk d
 · exact ⟨_,1,fun u v cs W hT h1 h2 hc=>anE50 (joiner_bad u v n m a b la lb (by omega) (by omega) cs d ok W hT h1 h2 hc),fun u v cs W h1 h2 hc=>anE50 (rJoiner_bad u v n m a b cs d ok W h1 h2 hc)⟩
 · exact ⟨_,0,fun u v cs W hT h1 h2 hc=>anE5 (exN_lt _ _ _ _ _ _) ((joiner_good u v n m a b la lb (by omega) (by omega) cs d hB ok W hT h1 h2 hc).mono fun _ _ ⟨x,c,p1,p2,p3⟩=>⟨_,p1,p2,p3⟩),fun u v cs W h1 h2 hc=>anE5 (exN_lt _ _ _ _ _ _) ((rJoiner_good u v n m a b la lb hn hm cs d hB ok W h1 h2 hc).mono fun _ _ ⟨x,c,p1,p2,p3⟩=>⟨_,p1,p2,p3⟩)⟩
abbrev AnR6 (f:FuncId) (args:Array Value) (W:World) (N:Nat→Nat) (B:Nat→Nat→Nat) (E:Int):Prop:=Calls Tryz.prog f args W fun e w'=>∃ L:List Value,e = .returned (.tuple #[.agg L.toArray,.int .i64 E])∧TxRow w' L 11 N B∧Below W.heap.size W w'
theorem z11_row (W:World):TxRow W z11 11 (fun _=>0) (fun _=>lZ):=⟨z11_len,fun i v hv=>by
 have hm:=List.mem_of_getElem? hv
 simp only [z11,List.mem_cons,List.not_mem_nil,or_false,or_self] at hm
 subst hm
 exact nil_bytes W lZ⟩
theorem epoch_both (n m:Nat) (a b:Nat→Nat) (la:∀ j,a j<256) (lb:∀ j,b j<256) (hn:n<140737488354000) (hm:m<140737488354000) (d:CxD) (hB:cxB d) :
 ∃ N B E,(∀ i j,B i j<256)∧(∀ u v cs W,TabAt W→BytesIn W u n a→BytesIn W v m b→CxIn W cs d→AnR6 18 #[u,v,.agg cs.toArray] W N B E)∧(∀ u v cs W,BytesIn W u n a→BytesIn W v m b→CxIn W cs d→AnR6 19 #[u,v,.agg cs.toArray] W N B E):=by
 cases ok:cxOk d
 · exact ⟨fun _=>0,fun _=>lZ,1,fun _=>lZ_lt5,fun u v cs W hT h1 h2 hc=>(epoch_bad u v n m a b la lb (by omega) (by omega) cs d ok W hT h1 h2 hc).mono fun _ _ ⟨p1,p2⟩=>⟨_,p1,z11_row _,p2⟩,fun u v cs W h1 h2 hc=>(rEpoch_bad u v cs d ok W hc).mono fun _ _ ⟨p1,p2⟩=>⟨_,p1,z11_row _,p2⟩⟩
 · exact ⟨_,_,0,seB_lt la,fun u v cs W hT h1 h2 hc=>epoch_good u v n m a b la lb (by omega) (by omega) cs d hB ok W hT h1 h2 hc,fun u v cs W h1 h2 hc=>rEpoch_good u v n m a b la lb hn hm cs d hB ok W h1 h2 hc⟩
abbrev AnW6 (f:FuncId) (args:Array Value) (W:World) (S T:ByteArray):Prop:=Calls Tryz.prog f args W fun e w'=>∃ x n c y m d,e = .returned (.tuple #[.slice x n c,.slice y m d])∧Cs w' (.slice x n c) S∧Cs w' (.slice y m d) T∧Below W.heap.size W w'
theorem welcome_both (n m:Nat) (a b:Nat→Nat) (la:∀ j,a j<256) (lb:∀ j,b j<256) (hn:n<140737488354000) (hm:m<140737488354000) :
 ∃ S T,(∀ u v W,TabAt W→BytesIn W u n a→BytesIn W v m b→AnW6 20 #[u,v] W S T)∧(∀ u v W,BytesIn W u n a→BytesIn W v m b→AnW6 21 #[u,v] W S T) :=
 ⟨_,_,fun u v W hT h1 h2=>(welcome_any u v n m a b la lb (by omega) (by omega) W hT h1 h2).mono fun _ _ ⟨x,c,y,d,p1,p2,p3,p4⟩=>⟨x,16,c,y,12,d,p1,p2.cs (exN_lt _ _ _ _ _ _),p3.cs (exN_lt _ _ _ _ _ _),p4⟩,
   fun u v W h1 h2=>(rWelcome_any u v n m a b la lb hn hm W h1 h2).mono fun _ _ ⟨x,c,y,d,p1,p2,p3,p4⟩=>⟨x,16,c,y,12,d,p1,p2.cs (exN_lt _ _ _ _ _ _),p3.cs (exN_lt _ _ _ _ _ _),p4⟩⟩
set_option maxRecDepth 40000 in
set_option maxHeartbeats 16000000 in
theorem schedEpochs_any (v0 v1 v2:Value) (cs:List Value) (n0 n1 n2:Nat) (b0 b1 b2:Nat→Nat) (lb0:∀ j,b0 j<256) (lb1:∀ j,b1 j<256) (lb2:∀ j,b2 j<256) (k0:n0<140737488354000) (k1:n1<140737488354000) (k2:n2<140737488354000) (d:CxD) (hB:cxB d) (hld:d.gn<140737488355000∧d.tn<140737488355000∧d.rn<140737488355000) (w:World) (hT:TabAt w) (h0:BytesIn w v0 n0 b0) (h1:BytesIn w v1 n1 b1) (h2:BytesIn w v2 n2 b2) (hc:CxIn w cs d) :
 Calls Tryz.prog 4 #[v0,v1,v2,.agg cs.toArray] w fun e w'=>e = .returned (.bool true)∧Below w.heap.size w w':=by
 obtain ⟨SJ,EJ,cJ0,rJ0⟩:=joiner_both n0 n1 b0 b1 lb0 lb1 k0 k1 d hB
 obtain ⟨EN,EB,EE,lE,cE0,rE0⟩:=epoch_both n0 n2 b0 b2 lb0 lb2 k0 k2 d hB
 obtain ⟨SK,SN,cW0,rW0⟩:=welcome_both n0 n2 b0 b2 lb0 lb2 k0 k2
 obtain ⟨P,hPd⟩:∃ P:World→Prop,P=fun W=>TabAt W∧BytesIn W v0 n0 b0∧BytesIn W v1 n1 b1∧BytesIn W v2 n2 b2∧CxIn W cs d:=⟨_,rfl⟩
 have kp:∀ W W',P W→Below W.heap.size W W'→P W':=by
  rw [hPd]
  exact fun W W' h hb=>⟨h.1.still hb,h.2.1.keep hb,h.2.2.1.keep hb,h.2.2.2.1.keep hb,h.2.2.2.2.keep hb⟩
 have hP0:P w:=by rw [hPd];exact ⟨hT,h0,h1,h2,hc⟩
 have cL0:=fun (W:World) (h:P W)=>lent_any v0 n0 b0 W (by rw [hPd] at h;exact h.2.1) (by omega)
 have cL2:=fun (W:World) (h:P W)=>lent_any v2 n2 b2 W (by rw [hPd] at h;exact h.2.2.2.1) (by omega)
 have cL:=fun (W:World) (h:P W)=>lent_any v1 n1 b1 W (by rw [hPd] at h;exact h.2.2.1) (by omega)
 have cC:=fun (W:World) (h:P W)=>lawCx_any cs d hld W (by rw [hPd] at h;exact h.2.2.2.2)
 have cJ:=fun (x y:Value) (ds:List Value) (W:World) (h:P W) (q1:BytesIn W x n0 b0) (q2:BytesIn W y n1 b1) (q3:CxIn W ds d)=>cJ0 x y ds W (by rw [hPd] at h;exact h.1) q1 q2 q3
 have cE:=fun (x y:Value) (ds:List Value) (W:World) (h:P W) (q1:BytesIn W x n0 b0) (q2:BytesIn W y n2 b2) (q3:CxIn W ds d)=>cE0 x y ds W (by rw [hPd] at h;exact h.1) q1 q2 q3
 have cW:=fun (x y:Value) (W:World) (h:P W) (q1:BytesIn W x n0 b0) (q2:BytesIn W y n2 b2)=>cW0 x y W (by rw [hPd] at h;exact h.1) q1 q2
 have rJ:=fun (W:World) (h:P W)=>rJ0 v0 v1 cs W (by rw [hPd] at h;exact h.2.1) (by rw [hPd] at h;exact h.2.2.1) (by rw [hPd] at h;exact h.2.2.2.2)
 have rE:=fun (W:World) (h:P W)=>rE0 v0 v2 cs W (by rw [hPd] at h;exact h.2.1) (by rw [hPd] at h;exact h.2.2.2.1) (by rw [hPd] at h;exact h.2.2.2.2)
 have rW:=fun (W:World) (h:P W)=>rW0 v0 v2 W (by rw [hPd] at h;exact h.2.1) (by rw [hPd] at h;exact h.2.2.2.1)
 have sS:=fun (L M:List Value) (W:World) (q1:TxRow W L 11 EN EB) (q2:TxRow W M 11 EN EB)=>sameSec_any L M EN EB lE W q1 q2
 have st0:=fun (g m:Nat) (W:World) (h:P W) (l:LntAt W g m n0 b0)=>stays_any g m n0 _ b0 lb0 _ (by omega:n0<140737488355000) l.cap l.row (by rw [hPd] at h;exact h.2.1:BytesIn W v0 n0 b0)
 have st2:=fun (g m:Nat) (W:World) (h:P W) (l:LntAt W g m n2 b2)=>stays_any g m n2 _ b2 lb2 _ (by omega:n2<140737488355000) l.cap l.row (by rw [hPd] at h;exact h.2.2.2.1:BytesIn W v2 n2 b2)
 have hKn:=fun (W:World) (h:P W)=>knows16 W (by rw [hPd] at h;exact h.1)
 obtain ⟨x0,d0,rfl,-⟩:=h0.src
 obtain ⟨x1,d1,rfl,-⟩:=h1.src
 obtain ⟨x2,d2,rfl,-⟩:=h2.src
 obtain ⟨w0,w1,w2,rfl,-⟩:=hc
 have eJ:(SJ.toList == SJ.toList)=true:=beq_self_eq_true _
 have eK:(SK.toList == SK.toList)=true:=beq_self_eq_true _
 have eN:(SN.toList == SN.toList)=true:=beq_self_eq_true _
 obtain ⟨N,hN⟩:∃ N,N=d.e:=⟨_,rfl⟩
 rw [←hN] at cC rJ rE ⊢
 have bx:Below w.heap.size w (w.alloc (.cells #[w0,.int .i64 N,w1,w2] 24)):=(Below.refl _ _).alloc (Nat.le_refl _) _
 have kx0:=RW.fresh w [w0,.int .i64 N,w1,w2] 24
 have P0:=kp _ _ hP0 bx
 have HX:=Hid.mk' bx
 have HK:=Hid.mk' kx0
 clear hPd hT h0 h1 h2 cJ0 cE0 cW0 rJ0 rE0 rW0 lE lb0 lb1 lb2 k0 k1 k2 hB hld hN hP0 bx kx0
 go_enter Tryz.func4,Tryz.ntmps4
 go_upto_region 3 with (first
  | (go_at_call 6;refine (cL0 _ P0).mono ?_;clear cL0;rintro e w1_ ⟨g1,m1,rfl,hc1,-,r1,hb1⟩;(have l1:LntAt w1_ g1 m1 n0 b0:=⟨hc1,r1⟩);have P1:=kp _ _ P0 hb1;have hw1:=below_next HX.out hb1;have kx1:=HK.out.still hb1;clear P0 hc1 r1 HX HK hb1)
  | (go_at_call 6;refine (cL2 _ P1).mono ?_;clear cL2;rintro e w2_ ⟨g2,m2,rfl,hc2,-,r2,hb2⟩;(have l2:LntAt w2_ g2 m2 n2 b2:=⟨hc2,r2⟩);(replace l1:=l1.still hb2);have hP:=kp _ _ P1 hb2;have hw:=below_next hw1 hb2;have kx:=kx1.still hb2;clear P1 hc2 r2 hw1 kx1 hb2))
 have hdr:Below w2_.heap.size w2_ w2_.drew:=(Below.refl _ _).drew
 replace hP:=kp _ _ hP hdr
 replace l1:=l1.still hdr
 replace l2:=l2.still hdr
 replace kx:=kx.still hdr
 replace hw:=below_next hw hdr
 clear hdr
 refine wp_region_noPanic ?_
 refine wp_region_held_drew (S:=fun u=>Below w2_.drew.heap.size w2_.drew u) (by kernel_rfl) (Below.refl _ _) (fun hS => ?_)
 generalize w2_.drew=V at *
 refine tg 0 hS ?_
 (try simp only [pS])
 refine tg 1 hS ?_
 (try simp only [pS])
 refine tl 3 kx hS 24 Tryz.underlying24 (infoRx _ _ _ _) ?_
 (try simp only [pS])
 refine cn 2 (cL V hP) ?_
 rintro e u1 ⟨g3,m3,rfl,hc3,-,r3,hb⟩
 have l3:LntAt u1 g3 m3 n1 b1:=⟨hc3,r3⟩
 clear hc3 r3
 refine ⟨_,rfl,hb,?_⟩
 replace hP:=kp _ _ hP hb
 replace l1:=l1.still hb
 replace l2:=l2.still hb
 replace kx:=kx.still hb
 replace hw:=below_next hw hb
 clear hS hb
 have hS:=Below.refl u1.heap.size u1
 (try simp only [pS])
 refine cn 4 (cC u1 hP) ?_
 rintro e u2 ⟨ds,rfl,X3,hb⟩
 refine ⟨_,rfl,hb,?_⟩
 replace hP:=kp _ _ hP hb
 replace l1:=l1.still hb
 replace l2:=l2.still hb
 replace kx:=kx.still hb
 replace l3:=l3.still hb
 replace hw:=below_next hw hb
 clear hS hb
 have hS:=Below.refl u2.heap.size u2
 (try simp only [pS])
 refine cn 5 (cJ _ _ _ u2 hP l1.bytes l3.bytes X3) ?_
 rintro e u3 ⟨x5,n5,c5,rfl,t5,hb⟩
 refine ⟨_,rfl,hb,?_⟩
 clear l3
 clear X3
 replace hP:=kp _ _ hP hb
 replace l1:=l1.still hb
 replace l2:=l2.still hb
 replace kx:=kx.still hb
 replace hw:=below_next hw hb
 clear hS hb
 have hS:=Below.refl u3.heap.size u3
 (try simp only [pS])
 refine tg 6 hS ?_
 (try simp only [pS])
 refine tg 7 hS ?_
 (try simp only [pS])
 refine tg 8 hS ?_
 (try simp only [pS])
 refine tg 9 hS ?_
 (try simp only [pS])
 refine tg 10 hS ?_
 (try simp only [pS])
 refine wpAnyH_done (by kernel_rfl) ?_ _
 refine NoPanic.normal ?_
 go_upto_region 9 with (first
  | (refine wpList_load_mid rfl 24 (.tmp 7) rfl w.heap.size 0 rfl _ _ kx.range Tryz.underlying24 rfl (infoRx _ _ _ _) ?_)
  | (go_at_call 17;refine (rJ _ hP).mono ?_;clear rJ;rintro e w4 ⟨x6,n6,c6,rfl,t6,hb⟩;(replace hP:=kp _ _ hP hb);(replace kx:=kx.still hb);(replace hw:=below_next hw hb);(replace l1:=l1.still hb);(replace l2:=l2.still hb);(replace t5:=t5.still hb);clear hb)
  | (go_at_call 7;refine (cC _ hP).mono ?_;clear cC;rintro e w5 ⟨ds5,rfl,X5,hb⟩;(replace hP:=kp _ _ hP hb);(replace kx:=kx.still hb);(replace hw:=below_next hw hb);(replace l1:=l1.still hb);(replace l2:=l2.still hb);(replace t5:=t5.still hb);(replace t6:=t6.still hb);clear hb)
  | (go_at_call 18;refine (cE _ _ _ _ hP l1.bytes l2.bytes X5).mono ?_;clear cE X5;rintro e w6 ⟨L6,rfl,T6,hb⟩;(replace hP:=kp _ _ hP hb);(replace kx:=kx.still hb);(replace hw:=below_next hw hb);(replace l1:=l1.still hb);(replace l2:=l2.still hb);(replace t5:=t5.still hb);(replace t6:=t6.still hb);clear hb;(obtain ⟨pv0,pv1,pv2,pv3,pv4,pv5,pv6,pv7,pv8,pv9,pv10,rfl⟩:∃ pv0 pv1 pv2 pv3 pv4 pv5 pv6 pv7 pv8 pv9 pv10,L6=[pv0,pv1,pv2,pv3,pv4,pv5,pv6,pv7,pv8,pv9,pv10]:=(by match L6,T6.1 with | [pv0,pv1,pv2,pv3,pv4,pv5,pv6,pv7,pv8,pv9,pv10],_=>exact ⟨_,_,_,_,_,_,_,_,_,_,_,rfl⟩));(obtain ⟨px0,pn0,pc0,pe0⟩:=(T6.2 0 _ rfl).isSl);subst pe0;(obtain ⟨px1,pn1,pc1,pe1⟩:=(T6.2 1 _ rfl).isSl);subst pe1;(obtain ⟨px2,pn2,pc2,pe2⟩:=(T6.2 2 _ rfl).isSl);subst pe2;(obtain ⟨px3,pn3,pc3,pe3⟩:=(T6.2 3 _ rfl).isSl);subst pe3;(obtain ⟨px4,pn4,pc4,pe4⟩:=(T6.2 4 _ rfl).isSl);subst pe4;(obtain ⟨px5,pn5,pc5,pe5⟩:=(T6.2 5 _ rfl).isSl);subst pe5;(obtain ⟨px6,pn6,pc6,pe6⟩:=(T6.2 6 _ rfl).isSl);subst pe6;(obtain ⟨px7,pn7,pc7,pe7⟩:=(T6.2 7 _ rfl).isSl);subst pe7;(obtain ⟨px8,pn8,pc8,pe8⟩:=(T6.2 8 _ rfl).isSl);subst pe8;(obtain ⟨px9,pn9,pc9,pe9⟩:=(T6.2 9 _ rfl).isSl);subst pe9;(obtain ⟨px10,pn10,pc10,pe10⟩:=(T6.2 10 _ rfl).isSl);subst pe10;have hb:Below w6.heap.size w6 (w6.alloc (.cells #[.slice px0 pn0 pc0,.slice px1 pn1 pc1,.slice px2 pn2 pc2,.slice px3 pn3 pc3,.slice px4 pn4 pc4,.slice px5 pn5 pc5,.slice px6 pn6 pc6,.slice px7 pn7 pc7,.slice px8 pn8 pc8,.slice px9 pn9 pc9,.slice px10 pn10 pc10] 45)):=(Below.refl _ _).alloc (Nat.le_refl _) _;have kp6:=RW.fresh w6 [.slice px0 pn0 pc0,.slice px1 pn1 pc1,.slice px2 pn2 pc2,.slice px3 pn3 pc3,.slice px4 pn4 pc4,.slice px5 pn5 pc5,.slice px6 pn6 pc6,.slice px7 pn7 pc7,.slice px8 pn8 pc8,.slice px9 pn9 pc9,.slice px10 pn10 pc10] 45;(replace hP:=kp _ _ hP hb);(replace kx:=kx.still hb);(replace hw:=below_next hw hb);(replace l1:=l1.still hb);(replace l2:=l2.still hb);(replace t5:=t5.still hb);(replace t6:=t6.still hb);(replace T6:=T6.still hb);clear hb)
  | (go_at_call 19;refine (rE _ hP).mono ?_;clear rE;rintro e w7 ⟨L7,rfl,T7,hb⟩;(replace hP:=kp _ _ hP hb);(replace hw:=below_next hw hb);(replace l1:=l1.still hb);(replace l2:=l2.still hb);(replace t5:=t5.still hb);(replace t6:=t6.still hb);(replace T6:=T6.still hb);(replace kp6:=kp6.still hb);clear hb kx;(obtain ⟨qv0,qv1,qv2,qv3,qv4,qv5,qv6,qv7,qv8,qv9,qv10,rfl⟩:∃ qv0 qv1 qv2 qv3 qv4 qv5 qv6 qv7 qv8 qv9 qv10,L7=[qv0,qv1,qv2,qv3,qv4,qv5,qv6,qv7,qv8,qv9,qv10]:=(by match L7,T7.1 with | [qv0,qv1,qv2,qv3,qv4,qv5,qv6,qv7,qv8,qv9,qv10],_=>exact ⟨_,_,_,_,_,_,_,_,_,_,_,rfl⟩));(obtain ⟨qx0,qn0,qc0,qe0⟩:=(T7.2 0 _ rfl).isSl);subst qe0;(obtain ⟨qx1,qn1,qc1,qe1⟩:=(T7.2 1 _ rfl).isSl);subst qe1;(obtain ⟨qx2,qn2,qc2,qe2⟩:=(T7.2 2 _ rfl).isSl);subst qe2;(obtain ⟨qx3,qn3,qc3,qe3⟩:=(T7.2 3 _ rfl).isSl);subst qe3;(obtain ⟨qx4,qn4,qc4,qe4⟩:=(T7.2 4 _ rfl).isSl);subst qe4;(obtain ⟨qx5,qn5,qc5,qe5⟩:=(T7.2 5 _ rfl).isSl);subst qe5;(obtain ⟨qx6,qn6,qc6,qe6⟩:=(T7.2 6 _ rfl).isSl);subst qe6;(obtain ⟨qx7,qn7,qc7,qe7⟩:=(T7.2 7 _ rfl).isSl);subst qe7;(obtain ⟨qx8,qn8,qc8,qe8⟩:=(T7.2 8 _ rfl).isSl);subst qe8;(obtain ⟨qx9,qn9,qc9,qe9⟩:=(T7.2 9 _ rfl).isSl);subst qe9;(obtain ⟨qx10,qn10,qc10,qe10⟩:=(T7.2 10 _ rfl).isSl);subst qe10;have hb:Below w7.heap.size w7 (w7.alloc (.cells #[.slice qx0 qn0 qc0,.slice qx1 qn1 qc1,.slice qx2 qn2 qc2,.slice qx3 qn3 qc3,.slice qx4 qn4 qc4,.slice qx5 qn5 qc5,.slice qx6 qn6 qc6,.slice qx7 qn7 qc7,.slice qx8 qn8 qc8,.slice qx9 qn9 qc9,.slice qx10 qn10 qc10] 48)):=(Below.refl _ _).alloc (Nat.le_refl _) _;have kq6:=RW.fresh w7 [.slice qx0 qn0 qc0,.slice qx1 qn1 qc1,.slice qx2 qn2 qc2,.slice qx3 qn3 qc3,.slice qx4 qn4 qc4,.slice qx5 qn5 qc5,.slice qx6 qn6 qc6,.slice qx7 qn7 qc7,.slice qx8 qn8 qc8,.slice qx9 qn9 qc9,.slice qx10 qn10 qc10] 48;(replace hP:=kp _ _ hP hb);(replace hw:=below_next hw hb);(replace l1:=l1.still hb);(replace l2:=l2.still hb);(replace t5:=t5.still hb);(replace t6:=t6.still hb);(replace T6:=T6.still hb);(replace T7:=T7.still hb);(replace kp6:=kp6.still hb);clear hb)
  | (go_at_call 20;refine (cW _ _ _ hP l1.bytes l2.bytes).mono ?_;clear cW;rintro e w8 ⟨x8,n8,c8,y8,m8,d8,rfl,t8,s8,hb⟩;(replace hP:=kp _ _ hP hb);(replace hw:=below_next hw hb);(replace l1:=l1.still hb);(replace l2:=l2.still hb);(replace t5:=t5.still hb);(replace t6:=t6.still hb);(replace T6:=T6.still hb);(replace T7:=T7.still hb);(replace kp6:=kp6.still hb);(replace kq6:=kq6.still hb);clear hb)
  | (go_at_call 21;refine (rW _ hP).mono ?_;clear rW;rintro e w9 ⟨x9,n9,c9,y9,m9,d9,rfl,t9,s9,hb⟩;(replace hP:=kp _ _ hP hb);(replace hw:=below_next hw hb);(replace l1:=l1.still hb);(replace l2:=l2.still hb);(replace t5:=t5.still hb);(replace t6:=t6.still hb);(replace T6:=T6.still hb);(replace T7:=T7.still hb);(replace kp6:=kp6.still hb);(replace kq6:=kq6.still hb);(replace t8:=t8.still hb);(replace s8:=s8.still hb);clear hb))
 have q5:=t5.conv w9 (Below.refl _ _)
 have q6:=t6.conv w9 (Below.refl _ _)
 clear t5 t6
 go_wp2_with (first
  | rw [q5]
  | rw [q6]
  | (go_at_call 12;refine (num16_any _ _).mono ?_;rintro e wn ⟨rfl,hwn⟩;obtain rfl:=hwn.symm)
  | (refine wpList_load_on (by rfl) 45 (.tmp 15) rfl w6.heap.size 0 rfl [.slice px0 pn0 pc0,.slice px1 pn1 pc1,.slice px2 pn2 pc2,.slice px3 pn3 pc3,.slice px4 pn4 pc4,.slice px5 pn5 pc5,.slice px6 pn6 pc6,.slice px7 pn7 pc7,.slice px8 pn8 pc8,.slice px9 pn9 pc9,.slice px10 pn10 pc10] _ kp6.range Tryz.underlying45 rfl (infoSec T6.1) ?_)
  | (refine wpList_load_on (by rfl) 48 (.tmp 17) rfl w7.heap.size 0 rfl [.slice qx0 qn0 qc0,.slice qx1 qn1 qc1,.slice qx2 qn2 qc2,.slice qx3 qn3 qc3,.slice qx4 qn4 qc4,.slice qx5 qn5 qc5,.slice qx6 qn6 qc6,.slice qx7 qn7 qc7,.slice qx8 qn8 qc8,.slice qx9 qn9 qc9,.slice qx10 qn10 qc10] _ kq6.range Tryz.underlying48 rfl (infoSecR T7.1) ?_)
  | (go_at_call 22;refine (sS _ _ _ T6 T7).mono ?_;clear sS kp6 kq6 T6 T7 q5 q6;rintro e w10 ⟨rfl,hb⟩;(replace hP:=kp _ _ hP hb);(replace hw:=below_next hw hb);(replace l1:=l1.still hb);(replace l2:=l2.still hb);have q8:=(t8.still hb).conv w10 (Below.refl _ _);have q9:=(t9.still hb).conv w10 (Below.refl _ _);have r8:=(s8.still hb).conv w10 (Below.refl _ _);have r9:=(s9.still hb).conv w10 (Below.refl _ _);clear hb t8 t9 s8 s9)
  | rw [q8]
  | rw [q9]
  | rw [r8]
  | rw [r9]
  | (go_at_call 14;refine (st0 g1 m1 _ hP l1).mono ?_;clear st0 l1;rintro e w11 ⟨rfl,hb⟩;(replace hP:=kp _ _ hP hb);(replace hw:=below_next hw hb);(replace l2:=l2.still hb);clear hb)
  | (go_at_call 14;refine (st2 g2 m2 _ hP l2).mono ?_;clear st2 l2;rintro e w12 ⟨rfl,hb⟩;(replace hP:=kp _ _ hP hb);(replace hw:=below_next hw hb);clear hb)
  | (go_at_call 15;refine (hKn _ hP).mono ?_;clear hKn;rintro e w13 ⟨rfl,hb⟩;(replace hw:=below_next hw hb)))
 go_ret
 exact ⟨rfl,hw⟩
end Go.Proofs.YtibmlmmoifgliaaGreatDoor
