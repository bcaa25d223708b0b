/- step of the laws of hpke: a call on a context and on the reference's. -/
import Derived.Test.YtcgkajlehdgpoaaGreatDoorQKmM
import Derived.Test.YtcgkajlehdgpoaaGreatDoorQMv
namespace Go.Proofs.YtcgkajlehdgpoaaGreatDoor
open Go.RowKit
theorem infoRc (a b c d:Value):(Tryz.prog.info? 76).map (·.size)=some [a,b,c,d].length:=by kernel_rfl
theorem infoRcA (a b c d:Value):(Tryz.prog.info? 76).map (·.size)=some [a,b,c,d].toArray.size:=by kernel_rfl
theorem oneRc (x y z:Option Addr) (a b c d e f:Nat) (i:Int):([.slice x a b,.slice y c d,.slice z e f,.int .i64 i]:List Value).toArray.all (·.oneCell')=true:=by simp [Value.oneCell']
theorem zeroRc (w:World):Sem.run Tryz.prog (zeroValue 76) w = .ok (.agg [.slice none 0 0,.slice none 0 0,.slice none 0 0,.int .i64 0].toArray) w:=by kernel_rfl
set_option maxRecDepth 20000 in
set_option maxHeartbeats 16000000 in
theorem qstep_any (gc gr n:Nat) (K N X:Nat→Nat) (lK:∀ j,K j<256) (lN:∀ j,N j<256) (lX:∀ j,X j<256) (hn:n+1<9223372036854775808) (ik ni:Int) (mv tv:Value) (ml tl:Nat) (M T:Nat→Nat) (lM:∀ j,M j<256) (lT:∀ j,T j<256) (km:ml+300<140737488355000) (kt:tl+300<140737488355000) (w:World) (hT:HTab w cubeK squareK) (hc:CCtx w gc K N X n) (hr:RCtx w gr K N X n) (hne:gr≠gc) (hm:BytesIn w mv ml M) (ht:BytesIn w tv tl T) :
 Calls Tryz.prog 20 #[.pointer (some ⟨gc,0,none⟩),.pointer (some ⟨gr,0,none⟩),.agg #[.int .i64 ik,.int .i64 ni,mv,tv]] w fun e w'=>e = .returned (.bool true)∧∃ q,q≤n+1∧CCtx w' gc K N X q∧RCtx w' gr K N X q∧Moves gc gr w w':=by
 have hnum:=num10_any
 obtain ⟨xm,dm,rfl,-,-,-⟩:=hm.src
 obtain ⟨xt,dt,rfl,-,-,-⟩:=ht.src
 obtain ⟨W,hW⟩:∃ W,W=w.alloc (.cells #[.int .i64 ik,.int .i64 ni,.slice xm ml dm,.slice xt tl dt] 41):=⟨_,rfl⟩
 obtain ⟨g,hg⟩:∃ g,g=w.heap.size:=⟨_,rfl⟩
 have bW:Below w.heap.size w W:=by rw [hW];exact (Below.refl _ _).alloc (Nat.le_refl _) _
 have r:RW W g 0 (o4 ik ni (.slice xm ml dm) (.slice xt tl dt)):=by rw [hW,hg];exact RW.fresh w _ _
 have gn:g≠gc:=by rw [hg];exact Nat.ne_of_gt hc.lt
 have gn2:g≠gr:=by rw [hg];exact Nat.ne_of_gt hr.lt
 have HW:=Hid.mk' hW
 have Hg:=Hid.mk' hg
 clear hW hg
 have f3:W.cell? ⟨g,3,none⟩=some (.slice xt tl dt):=r.range 3 _ rfl
 have c1:=lent_any _ tl T W (ht.keep bW) (by omega)
 go_enter Tryz.func20,Tryz.ntmps20
 go_upto_region 1 with (fail)
 rw [←HW.out,←Hg.out]
 clear HW Hg
 go_upto_region 2 with (go_at_call 8;refine c1.mono ?_;clear c1;rintro e w1 ⟨gx,cx,rfl,hcx,-,rx,hb1⟩;(have b1:=below_next bW hb1);(replace r:=r.still hb1);clear f3 bW hb1)
 have f0:w1.cell? ⟨g,0,none⟩=some (.int .i64 ik):=r.range 0 _ rfl
 have f1:w1.cell? ⟨g,1,none⟩=some (.int .i64 ni):=r.range 1 _ rfl
 have f2:w1.cell? ⟨g,2,none⟩=some (.slice xm ml dm):=r.range 2 _ rfl
 have f3:w1.cell? ⟨g,3,none⟩=some (.slice xt tl dt):=r.range 3 _ rfl
 replace hc:=hc.keep b1
 replace hr:=hr.keep b1
 replace hm:=hm.keep b1
 replace ht:=ht.keep b1
 replace hT:=hT.keep b1
 have s0:=fun S:ByteArray=>beq_self_eq_true S.toList
 by_cases k0:ik=0
 · have c2:=lent_any _ ml M w1 hm (by omega)
   obtain ⟨L,Z,E,lZ',sc,sr,hE⟩:=seal_bothE 16 12 ml tl K (ncN N n) M T lK (ncN_lt lN n) lM lT
   have c3:=fun mv' tv' V hc' h1 h2=>cSeal gc n K N X lN mv' tv' L Z E hE hn V hc' (fun kv nv W' hb hk hv=>sc kv nv mv' tv' W' hk hv (BytesIn.keep h1 hb) (BytesIn.keep h2 hb))
   have c4:=fun V hr' h1 h2=>rctxSeal gr n K N X lN (.slice xm ml dm) (.slice xt tl dt) L Z E hn V hr' (fun kv nv W' hb hk hv=>sr kv nv _ _ W' hk hv (BytesIn.keep h1 hb) (BytesIn.keep h2 hb))
   obtain ⟨q,hq⟩:∃ q,q=if E=0 then n+1 else n:=⟨_,rfl⟩
   have hq1:q≤n+1:=by rw [hq];split <;> omega
   rw [←hq] at c3 c4
   have e1:=s0 (strB L Z)
   clear hq sc sr hE s0
   go_upto_region 5 with (first
    | (go_at_call 8;refine c2.mono ?_;clear c2;rintro e w2 ⟨gm,cm,rfl,hcm,-,rm,hb2⟩;(have b2:=below_next b1 hb2);(replace hc:=hc.keep hb2);(replace hr:=hr.keep hb2);(replace hm:=hm.keep hb2);(replace ht:=ht.keep hb2);(replace rx:=rx.stay (by omega) hb2);(replace r:=r.still hb2);clear hb2 b1 f0 f1 f2 f3;(have y2:=c3 _ _ w2 hc (lent_bytes rm hcm) (lent_bytes rx hcx));clear c3)
    | (go_at_call 21;refine y2.mono ?_;clear y2;rintro e w3 ⟨s3,rfl,o3,hc3,u3⟩;(have m3:=(Moves.of_below (gc:=gc) (gr:=gr) b2).trans (Moves.of_c hc.num u3));(replace hr:=hr.outC hc.num hne u3);(replace hm:=hm.outU hc.num u3);(replace ht:=ht.outU hc.num u3);(replace rx:=rx.outU hc.num u3);(replace r:=r.out u3 gn);clear hc u3 b2 rm))
   have f2:w3.cell? ⟨g,2,none⟩=some (.slice xm ml dm):=r.range 2 _ rfl
   have f3:w3.cell? ⟨g,3,none⟩=some (.slice xt tl dt):=r.range 3 _ rfl
   have y3:=c4 w3 hr hm ht
   clear c4
   go_upto_region 6 with (go_at_call 42;refine y3.mono ?_;clear y3;rintro e w4 ⟨s4,rfl,o4',hr4,u4⟩;(have m4:=m3.trans (Moves.of_r hr.num u4));(replace hc3:=hc3.outR hr.num hne.symm u4);(replace o3:=o3.out hr.num u4);(replace ht:=ht.out hr.num u4);(replace rx:=rx.outI hr.num u4);(replace r:=r.out u4 gn2);clear hr u4 m3 f2 f3)
   have f3:w4.cell? ⟨g,3,none⟩=some (.slice xt tl dt):=r.range 3 _ rfl
   have a1:=o3.conv lZ' w4 (Below.refl _ _)
   have a2:=o4'.conv lZ' w4 (Below.refl _ _)
   have cS:=stays_any gx cx tl (.slice xt tl dt) T lT w4 (by omega) hcx rx ht
   clear o3 o4' rx
   generalize strB L Z=SS at *
   go_wp2_with (first
    | (go_at_call 15;refine (hnum _ _).mono ?_;rintro e wn ⟨rfl,hwn⟩;obtain rfl:=hwn.symm)
    | rw [a1]
    | rw [a2]
    | (go_at_call 16;refine cS.mono ?_;clear cS;rintro e w5 ⟨rfl,hb5⟩))
   go_ret
   exact ⟨rfl,q,hq1,hc3.keep hb5,hr4.keep hb5,m4.trans (Moves.of_below hb5)⟩
 · by_cases k1:ik=1
   · have c2:=lent_any _ ml M w1 hm (by omega)
     obtain ⟨L,Z,E,lZ',sc,sr,hE⟩:=open_bothE 16 12 ml tl K (ncN N n) M T lK (ncN_lt lN n) lM lT
     have c3:=fun mv' tv' V hc' h1 h2=>cOpen gc n K N X lN mv' tv' L Z E hE hn V hc' (fun kv nv W' hb hk hv=>sc kv nv mv' tv' W' hk hv (BytesIn.keep h1 hb) (BytesIn.keep h2 hb))
     have c4:=fun V hr' h1 h2=>rctxOpen gr n K N X lN (.slice xm ml dm) (.slice xt tl dt) L Z E hn V hr' (fun kv nv W' hb hk hv=>sr kv nv _ _ W' hk hv (BytesIn.keep h1 hb) (BytesIn.keep h2 hb))
     obtain ⟨q,hq⟩:∃ q,q=if E=0 then n+1 else n:=⟨_,rfl⟩
     have hq1:q≤n+1:=by rw [hq];split <;> omega
     rw [←hq] at c3 c4
     have e1:=s0 (strB L Z)
     clear hq sc sr hE s0
     go_upto_region 9 with (first
      | (go_at_call 8;refine c2.mono ?_;clear c2;rintro e w2 ⟨gm,cm,rfl,hcm,-,rm,hb2⟩;(have b2:=below_next b1 hb2);(replace hc:=hc.keep hb2);(replace hr:=hr.keep hb2);(replace hm:=hm.keep hb2);(replace ht:=ht.keep hb2);(replace rx:=rx.stay (by omega) hb2);(replace r:=r.still hb2);clear hb2 b1 f0 f1 f2 f3;(have y2:=c3 _ _ w2 hc (lent_bytes rm hcm) (lent_bytes rx hcx));clear c3)
      | (go_at_call 22;refine y2.mono ?_;clear y2;rintro e w3 ⟨s3,rfl,o3,hc3,u3⟩;(have m3:=(Moves.of_below (gc:=gc) (gr:=gr) b2).trans (Moves.of_c hc.num u3));(replace hr:=hr.outC hc.num hne u3);(replace hm:=hm.outU hc.num u3);(replace ht:=ht.outU hc.num u3);(replace rx:=rx.outU hc.num u3);(replace r:=r.out u3 gn);clear hc u3 b2 rm))
     have f2:w3.cell? ⟨g,2,none⟩=some (.slice xm ml dm):=r.range 2 _ rfl
     have f3:w3.cell? ⟨g,3,none⟩=some (.slice xt tl dt):=r.range 3 _ rfl
     have y3:=c4 w3 hr hm ht
     clear c4
     go_upto_region 10 with (go_at_call 43;refine y3.mono ?_;clear y3;rintro e w4 ⟨s4,rfl,o4',hr4,u4⟩;(have m4:=m3.trans (Moves.of_r hr.num u4));(replace hc3:=hc3.outR hr.num hne.symm u4);(replace o3:=o3.out hr.num u4);(replace ht:=ht.out hr.num u4);(replace rx:=rx.outI hr.num u4);(replace r:=r.out u4 gn2);clear hr u4 m3 f2 f3)
     have f3:w4.cell? ⟨g,3,none⟩=some (.slice xt tl dt):=r.range 3 _ rfl
     have a1:=o3.conv lZ' w4 (Below.refl _ _)
     have a2:=o4'.conv lZ' w4 (Below.refl _ _)
     have cS:=stays_any gx cx tl (.slice xt tl dt) T lT w4 (by omega) hcx rx ht
     clear o3 o4' rx
     generalize strB L Z=SS at *
     go_wp2_with (first
      | (go_at_call 15;refine (hnum _ _).mono ?_;rintro e wn ⟨rfl,hwn⟩;obtain rfl:=hwn.symm)
      | rw [a1]
      | rw [a2]
      | (go_at_call 16;refine cS.mono ?_;clear cS;rintro e w5 ⟨rfl,hb5⟩))
     go_ret
     exact ⟨rfl,q,hq1,hc3.keep hb5,hr4.keep hb5,m4.trans (Moves.of_below hb5)⟩
   · by_cases k2:ik=2
     · obtain ⟨L,Z,E,lZ',ec,er⟩:=export_both ml M X lM lX ni
       have bd:Below w1.heap.size w1 w1.drew:=(Below.refl _ _).drew
       have bz:=below_next b1 bd
       replace hc:=hc.keep bd
       replace hr:=hr.keep bd
       replace hm:=hm.keep bd
       replace hT:=hT.keep bd
       replace r:=r.still bd
       have gl:=r.lt
       have d1:w1.drew.cell? ⟨g,1,none⟩=some (.int .i64 ni):=r.range 1 _ rfl
       have d2:w1.drew.cell? ⟨g,2,none⟩=some (.slice xm ml dm):=r.range 2 _ rfl
       have c2:=lent_any _ ml M w1.drew hm (by omega)
       have e1:=s0 (strB L Z)
       clear s0 rx
       go_upto_region 12 with (fail)
       go_cut [16,17] from 18 (fun s16 s17 wc=>s17 = .int .i64 E∧BytesIn wc s16 L Z∧Below w1.drew.heap.size w1.drew wc)
       case first =>
        refine wp_region_noPanic ?_
        refine wp_region_held_drew (S:=fun u=>Below w1.drew.heap.size w1.drew u) (by kernel_rfl) (Below.refl _ _) (fun hS => ?_)
        generalize w1.drew=V at *
        refine tg 0 hS ?_
        (try simp only [pS])
        refine tg 1 hS ?_
        (try simp only [pS])
        refine tc 2 hS (fun u hu=>(hu.cell (p:=⟨g,2,none⟩) gl).trans d2) ?_
        (try simp only [pS])
        refine tg 4 hS ?_
        (try simp only [pS])
        refine tc 5 hS (fun u hu=>(hu.cell (p:=⟨g,1,none⟩) gl).trans d1) ?_
        (try simp only [pS])
        refine cl 3 c2 ?_
        rintro e u1 ⟨gm,cm,rfl,hcm,-,rm,hb1⟩
        refine ⟨_,rfl,hb1,?_⟩
        (try simp only [pS])
        refine cl 6 (ec gc n K N _ u1 (hT.keep hb1) (hc.keep hb1) (lent_bytes rm hcm)) ?_
        rintro e u2 ⟨s2,rfl,o2,hb2⟩
        have b2:=below_next hb1 hb2
        refine ⟨_,rfl,b2,?_⟩
        (try simp only [pS])
        refine tg 7 b2 ?_
        (try simp only [pS])
        refine tg 8 b2 ?_
        (try simp only [pS])
        refine tg 9 b2 ?_
        (try simp only [pS])
        refine tg 10 b2 ?_
        (try simp only [pS])
        refine tg 11 b2 ?_
        (try simp only [pS])
        refine wpAnyH_done (by kernel_rfl) ?_ _
        refine NoPanic.normal ?_
        go_wp2
        go_meet
        case rel=>exact ⟨rfl,o2,b2⟩
       case rest =>
       obtain ⟨rfl,o2,hb2⟩:=hcut
       have b2:=below_next bz hb2
       replace hc:=hc.keep hb2
       replace hr:=hr.keep hb2
       replace hm:=hm.keep hb2
       replace r:=r.still hb2
       clear f0 f1 f2 f3 d1 d2
       have f1:wc.cell? ⟨g,1,none⟩=some (.int .i64 ni):=r.range 1 _ rfl
       have f2:wc.cell? ⟨g,2,none⟩=some (.slice xm ml dm):=r.range 2 _ rfl
       have y3:=er gr n K N _ wc hr hm
       clear ec er c2
       go_upto_region 14 with (go_at_call 44;refine y3.mono ?_;clear y3;rintro e w4 ⟨s4,rfl,o4',hb4⟩;(have b4:=below_next b2 hb4);(replace hc:=hc.keep hb4);(replace hr:=hr.keep hb4);(replace o2:=o2.keep hb4);clear hb4 f1 f2)
       have a1:=o2.conv lZ' w4 (Below.refl _ _)
       have a2:=o4'.conv lZ' w4 (Below.refl _ _)
       clear o2 o4'
       generalize strB L Z=SS at *
       go_wp2_with (first
        | (go_at_call 15;refine (hnum _ _).mono ?_;rintro e wn ⟨rfl,hwn⟩;obtain rfl:=hwn.symm)
        | rw [a1]
        | rw [a2])
       go_ret
       exact ⟨rfl,n,Nat.le_succ n,hc,hr,Moves.of_below b4⟩
     · obtain ⟨vk,vu,vx,rr,tk,tu,tx⟩:=id hr
       obtain ⟨yk,ck,rfl,-,-,-⟩:=tk.src
       obtain ⟨yu,cu,rfl,-,-,-⟩:=tu.src
       obtain ⟨yx,cxx,rfl,-,-,-⟩:=tx.src
       have hrange:=rr.range
       have zc:=zeroRc
       have hz:=RW.fresh w1 [.slice none 0 0,.slice none 0 0,.slice none 0 0,.int .i64 0] 76
       have th:(w1.alloc (.cells [.slice none 0 0,.slice none 0 0,.slice none 0 0,.int .i64 0].toArray 76)).there w1.heap.size 0 ([.slice yk 16 ck,.slice yu 12 cu,.slice yx 32 cxx,.int .i64 (n:Int)]:List Value).toArray.size:=hz.there
       obtain ⟨V,hV⟩:∃ V,V=(w1.alloc (.cells [.slice none 0 0,.slice none 0 0,.slice none 0 0,.int .i64 0].toArray 76)).setCells w1.heap.size 0 [.slice yk 16 ck,.slice yu 12 cu,.slice yx 32 cxx,.int .i64 (n:Int)]:=⟨_,rfl⟩
       have rv:RW V w1.heap.size 0 [.slice yk 16 ck,.slice yu 12 cu,.slice yx 32 cxx,.int .i64 (n:Int)]:=by rw [hV];exact hz.stored _ rfl
       have bV:Below w1.heap.size w1 V:=by rw [hV];exact below_setCells (Nat.le_refl _) _ _ _ ((Below.refl _ _).alloc (Nat.le_refl _) _)
       have hq:RCtx V w1.heap.size K N X n:=⟨_,_,_,rv,tk.keep bV,tu.keep bV,tx.keep bV⟩
       have HV:=Hid.mk' hV
       clear hV hz rr tk tu tx rv
       obtain ⟨L,Z,E,lZ',-,sr,-⟩:=seal_bothE 16 12 ml tl K (ncN N n) M T lK (ncN_lt lN n) lM lT
       obtain ⟨L2,Z2,E2,lZ2,oc,or_,hE⟩:=open_bothE 16 12 ml L K (ncN N n) M Z lK (ncN_lt lN n) lM lZ'
       have y1:=rctxSeal w1.heap.size n K N X lN (.slice xm ml dm) (.slice xt tl dt) L Z E hn V hq (fun kv nv W' hb hk hv=>sr kv nv _ _ W' hk hv ((hm.keep bV).keep hb) ((ht.keep bV).keep hb))
       have c3:=fun tv' U hc' h1 h2=>cOpen gc n K N X lN (.slice xm ml dm) tv' L2 Z2 E2 hE hn U hc' (fun kv nv W' hb hk hv=>oc kv nv _ tv' W' hk hv (BytesIn.keep h1 hb) (BytesIn.keep h2 hb))
       have c4:=fun tv' U hr' h1 h2=>rctxOpen gr n K N X lN (.slice xm ml dm) tv' L2 Z2 E2 hn U hr' (fun kv nv W' hb hk hv=>or_ kv nv _ tv' W' hk hv (BytesIn.keep h1 hb) (BytesIn.keep h2 hb))
       obtain ⟨q,hq'⟩:∃ q,q=if E2=0 then n+1 else n:=⟨_,rfl⟩
       have hq1:q≤n+1:=by rw [hq'];split <;> omega
       rw [←hq'] at c3 c4
       generalize (if E=0 then n+1 else n)=nq at y1
       have e1:=s0 (strB L2 Z2)
       have rV:=r.still bV
       have d2:V.cell? ⟨g,2,none⟩=some (.slice xm ml dm):=rV.range 2 _ rfl
       have d3:V.cell? ⟨g,3,none⟩=some (.slice xt tl dt):=rV.range 3 _ rfl
       clear hq' sr oc or_ hE s0 hq rx rV
       go_upto_region 16 with (first
        | (refine wpList_load_mid rfl 76 _ rfl gr 0 rfl [.slice yk 16 ck,.slice yu 12 cu,.slice yx 32 cxx,.int .i64 (n:Int)] _ hrange Tryz.underlying76 rfl (infoRc _ _ _ _) ?_)
        | (with_reducible (refine id (?_:wpList _ _ _ _ _ _));refine wpList_store_mid rfl 76 _ _ rfl w1.heap.size 0 ([.slice yk 16 ck,.slice yu 12 cu,.slice yx 32 cxx,.int .i64 (n:Int)]:List Value).toArray rfl rfl th (infoRcA _ _ _ _) (oneRc _ _ _ _ _ _ _ _ _ _) ?_;rw [List.toList_toArray,←HV.out];clear th HV))
       (try dsimp only [Act.put])
       clear f0 f1 f2 f3
       go_upto_region 17 with (go_at_call 42;refine y1.mono ?_;clear y1;rintro e w2 ⟨s2,rfl,o2,-,u2⟩;(have hb2:Below w1.heap.size w1 w2:=bV.trans (u2.below (Nat.le_refl _) bV.size));(have b2:=below_next b1 hb2);(replace hc:=hc.keep hb2);(replace hr:=hr.keep hb2);(replace hm:=hm.keep hb2);(replace r:=r.still hb2);clear hb2 u2 bV d2 d3)
       have f2:w2.cell? ⟨g,2,none⟩=some (.slice xm ml dm):=r.range 2 _ rfl
       have y2:=c3 _ w2 hc hm o2
       clear c3
       go_upto_region 18 with (go_at_call 22;refine y2.mono ?_;clear y2;rintro e w3 ⟨s3,rfl,o3,hc3,u3⟩;(have m3:=(Moves.of_below (gc:=gc) (gr:=gr) b2).trans (Moves.of_c hc.num u3));(replace hr:=hr.outC hc.num hne u3);(replace hm:=hm.outU hc.num u3);(replace o2:=o2.outU hc.num u3);(replace r:=r.out u3 gn);clear hc u3 b2 f2)
       have f2:w3.cell? ⟨g,2,none⟩=some (.slice xm ml dm):=r.range 2 _ rfl
       have y3:=c4 _ w3 hr hm o2
       clear c4
       go_upto_region 19 with (go_at_call 43;refine y3.mono ?_;clear y3;rintro e w4 ⟨s4,rfl,o4',hr4,u4⟩;(have m4:=m3.trans (Moves.of_r hr.num u4));(replace hc3:=hc3.outR hr.num hne.symm u4);(replace o3:=o3.out hr.num u4);clear hr u4 m3 f2)
       have a1:=o3.conv lZ2 w4 (Below.refl _ _)
       have a2:=o4'.conv lZ2 w4 (Below.refl _ _)
       clear o3 o4'
       generalize strB L2 Z2=SS at *
       go_wp2_with (first
        | (go_at_call 15;refine (hnum _ _).mono ?_;rintro e wn ⟨rfl,hwn⟩;obtain rfl:=hwn.symm)
        | rw [a1]
        | rw [a2])
       go_ret
       exact ⟨rfl,q,hq1,hc3,hr4,m4⟩
end Go.Proofs.YtcgkajlehdgpoaaGreatDoor
