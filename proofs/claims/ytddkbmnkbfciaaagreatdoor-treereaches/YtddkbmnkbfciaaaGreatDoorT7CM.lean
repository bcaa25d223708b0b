/- What the proof stands on: T7C, N3lb, N3lc, N3le, N3lf, T6M. -/
import Derived.Test.YtddkbmnkbfciaaaGreatDoorN3FM
import Derived.Test.YtddkbmnkbfciaaaGreatDoorN3rhM
import Derived.Test.YtddkbmnkbfciaaaGreatDoorT4WM
import Derived.Test.YtddkbmnkbfciaaaGreatDoorT5RM
import Derived.Test.YtddkbmnkbfciaaaGreatDoorT6JM
import Derived.Lib.SmallJoins
namespace Go.Proofs.YtddkbmnkbfciaaaGreatDoor
open Go.RowKit Go.Shelf
attribute [local go_sem] Oper.semAt_some
theorem any_next {α:Type} (l:List α) (f:α→Bool) {z:Nat} {x:α} (h:l[z]? = some x):(l.take (z+1)).any f=((l.take z).any f || f x):=by
 rw [List.take_add_one,h];simp
theorem count_next {α:Type} (l:List α) (f:α→Bool) {z:Nat} {x:α} (h:l[z]? = some x):(l.take (z+1)).countP f=(l.take z).countP f+(if f x then 1 else 0):=by
 rw [List.take_add_one,h,List.countP_append];simp [List.countP_cons]
theorem ZIn.form {w:World} {v:Value} {l:List Int} (h:ZIn w v l):∃ x c,v = .slice x l.length c:=by
 obtain ⟨x,c,e,-⟩:=h
 exact ⟨x,c,e⟩
theorem ZIn.at_ {w:World} {x:Option Addr} {n c:Nat} {l:List Int} (h:ZIn w (.slice x n c) l) {i:Nat} {z:Int} (hz:l[i]? = some z):∃ g o,x=some ⟨g,o,none⟩∧w.cell? ⟨g,o+i,none⟩=some (.int .i64 z):=by
 obtain ⟨x',c',e,hc⟩:=h
 injection e with e1 _ _
 subst e1
 obtain ⟨g,o,e1,-,h1⟩:=hc i z hz
 exact ⟨g,o,e1,h1⟩
theorem ZIn.cellZ {w:World} {g o n c:Nat} {l:List Int} (h:ZIn w (.slice (some ⟨g,o,none⟩) n c) l) {i:Nat} {z:Int} (hz:l[i]? = some z):w.cell? ⟨g,o+i,none⟩=some (.int .i64 z):=by
 obtain ⟨g',o',e,h1⟩:=h.at_ hz
 cases e
 exact h1
theorem lft_is {x:Nat} (hx:x<127) (ho:x%2=1):lftA (x:Int)=((lftN x:Int),true)∧rgtA (x:Int)=((rgtN x:Int),true):=by
 unfold lftA rgtA
 rw [if_pos (inn_odd hx ho),if_pos (inn_odd hx ho),Int.toNat_natCast]
 exact ⟨rfl,rfl⟩
theorem qNext {q n:Nat} (h:q<n) (h2:n≤100000):Value.int .i64 (wrap64 ((q:Int)+1)) = .int .i64 ((q+1:Nat):Int):=by congr 1;unfold wrap64;omega
theorem qMeas {q n:Nat} (h:q<n) (h2:n≤100000):n - (intOf (.int .i64 (wrap64 ((q:Int)+1)))).toNat<n - (intOf (.int .i64 (q:Int))).toNat:=by rw [qNext h h2];simp [intOf];omega
set_option maxRecDepth 100000 in
set_option maxHeartbeats 16000000 in
theorem treeReaches_any (v:Value) (ss:List (Int × Int)) (I:Int) (w:World) (hs:StepsAt w v ss) (hT:DbT w) (hH:HTab w cubeK squareK) :
 Calls Tryz.prog 7 #[v,.int .i64 I] w fun e w'=>e = .returned (.bool true)∧Below w.heap.size w w':=by
 have cV:=live_any v ss w hs hT hH
 have hI:=lvT_I ss (min ss.length 40)
 generalize lvT ss (min ss.length 40)=T at *
 obtain ⟨xo,c0,rfl,-⟩:=hs
 have hG:=hI.gd
 have hok:=hG.ok
 have hn64:=hok.n64
 obtain ⟨y1,y2,y3,y4,y5⟩:=who_at hG hI.ne I
 have hL64:(mbs T).length≤64:=by have:=mbL_len T.nd T.n;unfold mbs;omega
 have hLne:=hI.ne
 obtain ⟨-,y6⟩:=idxN_eq (I:=I) (L:=(mbs T).length) (by omega) (by omega)
 obtain ⟨i,hi⟩:∃ i:Nat,who T I=(i:Int):=⟨(who T I).toNat,by omega⟩
 rw [hi] at y2 y3 y4 y5
 have hin:i<T.n:=by omega
 have hmb:∀ (q:Nat) (z:Int),(mbs T)[q]? = some z→∃ u:Nat,z=(u:Int)∧u<T.n∧(T.nd (2*(u:Int))).isSome=true:=fun q z h=>by
  obtain ⟨u,h1,h2,h3⟩:=(mbL_mem _ _ _).1 (List.mem_of_getElem? h)
  exact ⟨u,h2,h1,h3⟩
 have hroot:∀ u:Nat,u<T.n→(T.nd (2*(u:Int))).isSome=true→((rso T ((T.n:Int) - 1)).any fun z=>belB z (u:Int))=true:=fun u h1 h2=>by
  rw [show (T.n:Int) - 1=((T.n - 1:Nat):Int) by omega,rso_any hG (by omega) (by omega) h2]
  exact root_in (wids_of hok.may) h1
 have hpart:∀ u x:Nat,u<T.n→x<127→(T.nd (2*(u:Int))).isSome=true→((rso T (x:Int)).any fun z=>belB z (u:Int))=inP7 x u:=fun u x h1 hx h2=>rso_any hG (by omega) hx h2
 have honce:∀ u:Nat,u<T.n→(T.nd (2*(u:Int))).isSome=true→((filL T (i:Int)).countP fun p=>inP7 (oth7 p.toNat i) u)=if u=i then 0 else 1:=fun u h1 h2=>fil_once hG hin h1 h2
 have hfat:∀ (z:Nat) (p:Int),(filL T (i:Int))[z]? = some p→∃ x:Nat,p=(x:Int)∧x%2=1∧x<127∧oth7 x i<2*T.n - 1:=fun z p h=>fil_at hG hin h
 have hrl:(rso T ((T.n:Int) - 1)).length≤100000:=Nat.le_trans (rsoF_len hok 7 _) (by decide)
 have hpl:∀ x:Nat,(rso T (x:Int)).length≤100000:=fun x=>Nat.le_trans (rsoF_len hok 7 _) (by decide)
 have hfl:(filL T (i:Int)).length≤100000:=by
  refine Nat.le_trans (filK_len _ _ _ _) ?_
  rw [(way_in (wids_of hok.may) hin).1,List.length_map,List.length_range]
  unfold dep7
  repeat (first | omega | split)
 have cRs:=fun (tb mb:Nat) (x:Nat) (hx:x<2*T.n - 1) (W:World) (hd:DbT W) (h:TrAt (okW w tb mb) W tb mb T)=>tResolution_any (okW w tb mb) tb mb T hok (x:Int) (by omega) W hd h
 have cRt:=fun (tb mb:Nat) (W:World) (hd:DbT W) (h:TrAt (okW w tb mb) W tb mb T)=>tResolution_any (okW w tb mb) tb mb T hok ((T.n:Int) - 1) (by omega) W hd h
 have cFi:=fun (tb mb:Nat) (W:World) (hd:DbT W) (h:TrAt (okW w tb mb) W tb mb T)=>tFiltered_any (okW w tb mb) tb mb T hok (i:Int) (by omega) W hd h
 have cLv:=fun (tb mb:Nat) (W:World) (h:TrAt (okW w tb mb) W tb mb T)=>tLeaves_any (okW w tb mb) tb mb T hn64.1 W h
 have cRo:=fun (W:World) (hd:DbT W)=>jRoot_any (T.n:Int) W hd
 rw [if_pos hok.may] at cRo
 have cM0:=fun (tb mb:Nat) (W:World) (h:TrAt (okW w tb mb) W tb mb T)=>tMembers_any (okW w tb mb) tb mb T hok W h
 rw [show mbL T.nd T.n=mbs T from rfl] at cM0
 obtain ⟨N,hN⟩:∃ N:Nat,N=T.n:=⟨_,rfl⟩
 rw [←hN] at hmb hroot hpart honce hfat hrl cRs cRt cRo hin
 have cLv':∀ (tb mb:Nat) (W:World),TrAt (okW w tb mb) W tb mb T→Calls Tryz.prog 34 #[pA tb 0] W fun e w'=>e = .returned (.int .i64 (N:Int))∧w'=W:=by rw [hN];exact cLv
 obtain ⟨ms,hms⟩:∃ ms,ms=mbs T:=⟨_,rfl⟩
 obtain ⟨rs,hrs⟩:∃ rs,rs=rso T ((N:Int) - 1):=⟨_,rfl⟩
 obtain ⟨fs,hfs⟩:∃ fs,fs=filL T (i:Int):=⟨_,rfl⟩
 obtain ⟨y,hy⟩:∃ y,y=idxN I (mbs T).length:=⟨_,rfl⟩
 rw [←hy] at y1 y2 y6
 rw [←hms] at y1 y2 y6 hL64 hLne hmb cM0
 rw [←hrs] at hroot hrl cRt
 rw [←hfs] at honce hfat hfl cFi
 have hL1:¬((ms.length:Int)=0):=by omega
 have hL1b:((ms.length:Int) == 0)=false:=beq_eq_false_iff_ne.2 hL1
 have hy0:(0:Int)≤(y:Int):=by omega
 have hyl:(y:Int)<(ms.length:Int):=by omega
 have HT:=Hid.mk' hT
 have HH:=Hid.mk' hH
 have Hmb:=Hid.mk' hmb
 have hi64:i<64:=by omega
 have HR:=Hid.mk' (And.intro hroot (And.intro hpart (And.intro honce (And.intro hfat (And.intro hrl (And.intro hpl (And.intro hfl (And.intro hL64 hi64))))))))
 clear hi64 hT hH hI hG hok hn64 y1 y3 y4 y5 hi hin hmb hroot hpart honce hfat hrl hpl hfl hL64 hLne cLv hN hms hrs hfs hy
 go_enter Tryz.func7,Tryz.ntmps7
 go_upto_region 8 with (first
  | (go_at_call 41;refine cV.mono ?_;clear cV;rintro e w1 ⟨tb,mb,rfl,htb,hmb,hT1,hb1⟩)
  | (go_at_call 11;refine (knows4_any w1 (HT.out.keep hb1) (HH.out.below hb1 HH.out.size)).mono ?_;rintro e w2 ⟨rfl,hb2⟩;have hb12:=below_next hb1 hb2;have hT2:=hT1.below hb2;have cM:=cM0 tb mb w2 hT2;clear hT1 hb1 hb2 cM0)
  | (go_at_call 27;refine cM.mono ?_;clear cM;rintro e w5 ⟨v5,rfl,how,hb5⟩;have zm:=how.zin;(obtain ⟨xm,cm',em⟩:=zm.form);subst em;(obtain ⟨gm,om,exm,hcy⟩:=zm.at_ y2);subst exm;have hb5':=below_next hb12 hb5;have hT5:=hT2.below hb5;clear how hb5 hT2 hb12)
  | (go_at_call 34;refine (cLv' tb mb w5 hT5).mono ?_;clear cLv';rintro e wn ⟨rfl,hwn⟩;obtain rfl:=hwn.symm;clear hcy)
  | (go_at_call 42;refine (cRo w5 (HT.out.keep hb5')).mono ?_;clear cRo;rintro e w6 ⟨rfl,hb6⟩;have hb6':=below_next hb5' hb6;have hT6:=hT5.below hb6;have zm6:=zm.keep hb6;clear hb6 hT5 zm hb5')
  | (go_at_call 39;refine (cRt tb mb w6 (HT.out.keep hb6') hT6).mono ?_;clear cRt;rintro e w7 ⟨v7,rfl,ow7,hb7⟩;have zr:=ow7.zin;(obtain ⟨xr,cr,er⟩:=zr.form);subst er;have hb7':=below_next hb6' hb7;have hT7:=hT6.below hb7;have zm7:=zm6.keep hb7;clear ow7 hb7 hT6 zm6 hb6')
  | (go_at_call 38;refine (cFi tb mb w7 (HT.out.keep hb7') hT7).mono ?_;clear cFi;rintro e w8 ⟨v8,rfl,ow8,hb8⟩;have zf:=ow8.zin;(obtain ⟨xf,cf,ef⟩:=zf.form);subst ef;have hw:=below_next hb7' hb8;have hT8:=hT7.below hb8;have zm8:=zm7.keep hb8;have zr8:=zr.keep hb8;clear ow8 hb8 hT7 zm7 zr hb7'))
 clear y2 y6 hL1 hL1b hy0 hyl
 obtain ⟨P,hPd⟩:∃ P:World→Prop,P=fun W=>DbT W∧TrAt (okW w tb mb) W tb mb T∧ZIn W (.slice (some ⟨gm,om,none⟩) ms.length cm') ms∧ZIn W (.slice xr rs.length cr) rs∧ZIn W (.slice xf fs.length cf) fs:=⟨_,rfl⟩
 have kp:∀ W W',P W→Below W.heap.size W W'→P W':=by
  rw [hPd]
  exact fun W W' h hb=>⟨h.1.keep hb,h.2.1.below hb,h.2.2.1.keep hb,h.2.2.2.1.keep hb,h.2.2.2.2.keep hb⟩
 have hP:P w8:=by rw [hPd];exact ⟨HT.out.keep hw,hT8,zm8,zr8,zf⟩
 have pD:∀ W,P W→DbT W:=fun W h=>by rw [hPd] at h;exact h.1
 have pR:=fun (x:Nat) (hx:x<2*N - 1) (W:World) (h:P W)=>cRs tb mb x hx W (pD W h) (by rw [hPd] at h;exact h.2.1)
 have pM:∀ W,P W→ZIn W (.slice (some ⟨gm,om,none⟩) ms.length cm') ms:=fun W h=>by rw [hPd] at h;exact h.2.2.1
 have pZ:∀ W,P W→ZIn W (.slice xr rs.length cr) rs:=fun W h=>by rw [hPd] at h;exact h.2.2.2.1
 have pF:∀ W,P W→ZIn W (.slice xf fs.length cf) fs:=fun W h=>by rw [hPd] at h;exact h.2.2.2.2
 clear hPd cRs hT8 zm8 zr8 zf htb hmb HH HT
 go_wp2
 go_loopw [10,11,12,13,14,15,16,17,18,19,20,21] (fun qv _ _ _ _ _ _ _ _ _ _ _ wr=>∃ q:Nat,q≤ms.length∧qv = .int .i64 (q:Int)∧P wr∧Below w.heap.size w wr) (fun qv _ _ _ _ _ _ _ _ _ _ _ _=>ms.length - (intOf qv).toNat)
 case atStart=>exact ⟨0,Nat.zero_le _,rfl,hP,hw⟩
 case round =>
  clear hP hw
  obtain ⟨q,hq,rfl,hP,hw⟩:=hrel
  by_cases hlt:q<ms.length
  · have hql:(q:Int)<(ms.length:Int):=Int.ofNat_lt.2 hlt
    have hq0:(0:Int)≤(q:Int):=Int.natCast_nonneg q
    obtain ⟨uz,huz⟩:∃ z,ms[q]? = some z:=⟨_,List.getElem?_eq_getElem hlt⟩
    obtain ⟨u,rfl,hu1,hu2⟩:=Hmb.out q uz huz
    have cm:∀ W,P W→W.cell? ⟨gm,om+q,none⟩=some (.int .i64 (u:Int)):=fun W h=>(pM W h).cellZ huz
    have Hu:=Hid.mk' (And.intro hu1 (And.intro hu2 (And.intro hlt huz)))
    clear hlt huz hu1 hu2 hq
    rename World=>wA
    go_wp2
    go_loopw [11,12] (fun mt zv wr=>∃ z:Nat,z≤rs.length∧zv = .int .i64 (z:Int)∧mt = .bool ((rs.take z).any fun x=>belB x (u:Int))∧P wr∧Below w.heap.size w wr) (fun _ zv _=>rs.length - (intOf zv).toNat)
    case atStart=>exact ⟨0,Nat.zero_le _,rfl,rfl,hP,hw⟩
    case round =>
     clear hP hw
     obtain ⟨z,hz,rfl,rfl,hP,hw⟩:=hrel
     by_cases hlt:z<rs.length
     · have hzl:(z:Int)<(rs.length:Int):=Int.ofNat_lt.2 hlt
       have hz0:(0:Int)≤(z:Int):=Int.natCast_nonneg z
       obtain ⟨r,hr⟩:∃ r,rs[z]? = some r:=⟨_,List.getElem?_eq_getElem hlt⟩
       obtain ⟨gr,or',exr,-⟩:=(pZ _ hP).at_ hr
       subst exr
       have cz:∀ W,P W→W.cell? ⟨gr,or'+z,none⟩=some (.int .i64 r):=fun W h=>(pZ W h).cellZ hr
       have hnx:=any_next rs (fun x=>belB x (u:Int)) hr
       have Hz:=Hid.mk' (And.intro hlt HR.out.2.2.2.2.1)
       have Hnx:=Hid.mk' hnx
       clear hlt hr hnx hz
       cases hb0:(rs.take z).any fun x=>belB x (u:Int) with
       | true =>
        go_upto_region 15 with (fail)
        have hdr:Below wr.heap.size wr wr.drew:=(Below.refl _ _).drew
        replace hP:=kp _ _ hP hdr
        replace hw:=below_next hw hdr
        clear hdr
        refine wp_region_noPanic ?_
        refine wp_region_held_drew (S:=fun u=>Below wr.drew.heap.size wr.drew u) (by kernel_rfl) (Below.refl _ _) (fun hS => ?_)
        generalize wr.drew=V at *
        refine tg 0 hS ?_
        (try simp only [pS])
        refine tg 1 hS ?_
        (try simp only [pS])
        refine tk 2 undef hS (hy:=(Or.inr ⟨by rfl,rfl⟩)) (h := ?_)
        (try simp only [pS])
        refine tk 3 undef hS (hy:=(Or.inr ⟨by rfl,rfl⟩)) (h := ?_)
        (try simp only [pS])
        refine tk 4 undef hS (hy:=(Or.inr ⟨by rfl,rfl⟩)) (h := ?_)
        (try simp only [pS])
        refine tk 5 undef hS (hy:=(Or.inr ⟨by rfl,rfl⟩)) (h := ?_)
        (try simp only [pS])
        refine tk 6 undef hS (hy:=(Or.inr ⟨by rfl,rfl⟩)) (h := ?_)
        (try simp only [pS])
        refine tk 7 undef hS (hy:=(Or.inr ⟨by rfl,rfl⟩)) (h := ?_)
        (try simp only [pS])
        refine tk 8 undef hS (hy:=(Or.inr ⟨by rfl,rfl⟩)) (h := ?_)
        (try simp only [pS])
        refine tk 9 undef hS (hy:=(Or.inr ⟨by rfl,rfl⟩)) (h := ?_)
        (try simp only [pS])
        refine tk 10 undef hS (hy:=(Or.inr ⟨by rfl,rfl⟩)) (h := ?_)
        (try simp only [pS])
        refine tg 11 hS ?_
        (try simp only [pS])
        refine tg 12 hS ?_
        (try simp only [pS])
        refine wpAnyH_done (by kernel_rfl) ?_ _
        refine NoPanic.normal ?_
        go_wp2
        go_roundw
        case rel=>exact ⟨z+1,Hz.out.1,by first | exact qNext Hz.out.1 Hz.out.2 | go_num,by rw [Hnx.out,hb0];rfl,hP,hw⟩
        case measure=>first | exact qMeas Hz.out.1 Hz.out.2 | exact q1M'' Hz.out.1
       | false =>
        go_upto_region 15 with (fail)
        have hdr:Below wr.heap.size wr wr.drew:=(Below.refl _ _).drew
        replace hP:=kp _ _ hP hdr
        replace hw:=below_next hw hdr
        clear hdr
        refine wp_region_noPanic ?_
        refine wp_region_held_drew (S:=fun u=>Below wr.drew.heap.size wr.drew u) (by kernel_rfl) (Below.refl _ _) (fun hS => ?_)
        generalize wr.drew=V at *
        refine tg 0 hS ?_
        (try simp only [pS])
        refine tg 1 hS ?_
        (try simp only [pS])
        refine tg 2 hS ?_
        (try simp only [pS])
        refine tg 3 hS ?_
        (try simp only [pS])
        refine tg 4 hS (v := .pointer (some ⟨gr,or'+z,none⟩)) ?_
        (try simp only [pS])
        refine tc 5 hS (fun u hu=>cz _ (kp _ _ hP hu)) ?_
        (try simp only [pS])
        refine tg 6 hS ?_
        (try simp only [pS])
        refine tg 7 hS ?_
        (try simp only [pS])
        refine tg 8 hS (v := .pointer (some ⟨gm,om+q,none⟩)) ?_
        (try simp only [pS])
        refine tc 9 hS (fun u hu=>cm _ (kp _ _ hP hu)) ?_
        (try simp only [pS])
        refine cn 10 (iBelow_any r (u:Int) V (pD _ hP)) ?_
        rintro e u1 ⟨rfl,hb⟩
        refine ⟨_,rfl,hb,?_⟩
        replace hP:=kp _ _ hP hb
        replace hw:=below_next hw hb
        clear hS hb
        have hS:=Below.refl u1.heap.size u1
        (try simp only [pS])
        refine tg 11 hS ?_
        (try simp only [pS])
        refine tg 12 hS ?_
        (try simp only [pS])
        refine wpAnyH_done (by kernel_rfl) ?_ _
        refine NoPanic.normal ?_
        go_wp2
        go_roundw
        case rel=>exact ⟨z+1,Hz.out.1,by first | exact qNext Hz.out.1 Hz.out.2 | go_num,by rw [Hnx.out,hb0];rfl,hP,hw⟩
        case measure=>first | exact qMeas Hz.out.1 Hz.out.2 | exact q1M'' Hz.out.1
     · obtain rfl:z=rs.length:=Nat.le_antisymm hz (Nat.le_of_not_lt hlt)
       have hzl:¬((rs.length:Nat):Int)<(rs.length:Int):=by omega
       have hmt:(rs.take rs.length).any (fun x=>belB x (u:Int))=true:=by rw [List.take_length];exact HR.out.1 u Hu.out.1 Hu.out.2.1
       rw [hmt]
       clear hmt hlt hz
       rename World=>wB
       go_wp2
       clear hzl
       go_loopw [13,14,15,16,17,18,19,20,21] (fun rc zv _ _ _ _ _ _ _ wr=>∃ z:Nat,z≤fs.length∧zv = .int .i64 (z:Int)∧rc = .int .i64 (((fs.take z).countP fun p=>inP7 (oth7 p.toNat i) u:Nat):Int)∧P wr∧Below w.heap.size w wr) (fun _ zv _ _ _ _ _ _ _ _=>fs.length - (intOf zv).toNat)
       case atStart=>exact ⟨0,Nat.zero_le _,rfl,rfl,hP,hw⟩
       case round =>
        clear hP hw
        obtain ⟨z,hz,rfl,rfl,hP,hw⟩:=hrel
        by_cases hlt:z<fs.length
        · have hzl:(z:Int)<(fs.length:Int):=Int.ofNat_lt.2 hlt
          have hz0:(0:Int)≤(z:Int):=Int.natCast_nonneg z
          obtain ⟨p,hp⟩:∃ p,fs[z]? = some p:=⟨_,List.getElem?_eq_getElem hlt⟩
          obtain ⟨x,rfl,hx1,hx2,hx3⟩:=HR.out.2.2.2.1 z p hp
          obtain ⟨gf,of',exf,-⟩:=(pF _ hP).at_ hp
          subst exf
          have cf':∀ W,P W→W.cell? ⟨gf,of'+z,none⟩=some (.int .i64 (x:Int)):=fun W h=>(pF W h).cellZ hp
          have hnx:=count_next fs (fun p=>inP7 (oth7 p.toNat i) u) hp
          rw [Int.toNat_natCast] at hnx
          have hcl:(fs.take z).countP (fun p=>inP7 (oth7 p.toNat i) u)≤100000:=Nat.le_trans List.countP_le_length (by rw [List.length_take];exact Nat.le_trans (Nat.min_le_right _ _) HR.out.2.2.2.2.2.2.1)
          obtain ⟨l1,l2⟩:=lft_is hx2 hx1
          obtain ⟨px1,px2,-⟩:=part_in hx2 hx1
          have cA:=fun (W:World) (h:P W)=>iLeft_any (x:Int) W (pD W h)
          have cB:=fun (W:World) (h:P W)=>iRight_any (x:Int) W (pD W h)
          rw [l1] at cA
          rw [l2] at cB
          dsimp only at cA cB
          have cC:=fun (W:World) (h:P W)=>iBelow_any (lftN x:Int) (i:Int) W (pD W h)
          rw [bel_in px1 HR.out.2.2.2.2.2.2.2.2] at cC
          have cRx:=pR (oth7 x i) hx3
          have hsm:=HR.out.2.1 u (oth7 x i) Hu.out.1 (by unfold oth7;split;exact px2;exact px1) Hu.out.2.1
          have hsl:=HR.out.2.2.2.2.2.1 (oth7 x i)
          obtain ⟨oN,hoN⟩:∃ oN,oN=oth7 x i:=⟨_,rfl⟩
          have hot:(inP7 (lftN x) i=true∧oN=rgtN x)∨(inP7 (lftN x) i=false∧oN=lftN x):=by
           rw [hoN];unfold oth7
           cases inP7 (lftN x) i
           · exact .inr ⟨rfl,rfl⟩
           · exact .inl ⟨rfl,rfl⟩
          rw [←hoN] at hnx cRx hsm hsl
          generalize lftN x=lN at *
          generalize rgtN x=rN at *
          obtain ⟨sl,hsl'⟩:∃ sl,sl=rso T (oN:Int):=⟨_,rfl⟩
          rw [←hsl'] at cRx hsm hsl
          have Hz:=Hid.mk' (And.intro hlt HR.out.2.2.2.2.2.2.1)
          have Hnx:=Hid.mk' (And.intro hnx (And.intro hsm (And.intro hsl hcl)))
          have cfw:=cf' _ hP
          clear hlt hp hnx hz hx1 hx2 hx3 l1 l2 px1 px2 hsm hsl hoN hsl' hcl
          generalize inP7 lN i=bL at *
          rcases hot with ⟨rfl,rfl⟩ | ⟨rfl,rfl⟩
          all_goals
           go_upto_region 25 with (first
            | (go_at_call 44;refine (cA _ hP).mono ?_;clear cA;rintro e wc1 ⟨rfl,hb⟩;(replace hP:=kp _ _ hP hb);(replace hw:=below_next hw hb);clear hb cfw;have cfw:=cf' _ hP)
            | (go_at_call 45;refine (cB _ hP).mono ?_;clear cB;rintro e wc2 ⟨rfl,hb⟩;(replace hP:=kp _ _ hP hb);(replace hw:=below_next hw hb);clear hb cfw cf')
            | (go_at_call 43;refine (cC _ hP).mono ?_;clear cC;rintro e wc3 ⟨rfl,hb⟩;(replace hP:=kp _ _ hP hb);(replace hw:=below_next hw hb);clear hb)
            | (go_at_call 39;refine (cRx _ hP).mono ?_;clear cRx;rintro e wc4 ⟨v9,rfl,ow9,hb⟩;have zs:=ow9.zin;(obtain ⟨xs,cs,es⟩:=zs.form);subst es;(replace hP:=kp _ _ hP hb);(replace hw:=below_next hw hb);clear hb ow9))
           obtain ⟨P',hPd'⟩:∃ P':World→Prop,P'=fun W=>P W∧ZIn W (.slice xs sl.length cs) sl:=⟨_,rfl⟩
           have kp':∀ W W',P' W→Below W.heap.size W W'→P' W':=by
            rw [hPd']
            exact fun W W' h hb=>⟨kp _ _ h.1 hb,h.2.keep hb⟩
           have hP':P' wc4:=by rw [hPd'];exact ⟨hP,zs⟩
           have pP:∀ W,P' W→P W:=fun W h=>by rw [hPd'] at h;exact h.1
           have pSl:∀ W,P' W→ZIn W (.slice xs sl.length cs) sl:=fun W h=>by rw [hPd'] at h;exact h.2
           clear hPd' hP zs
           go_wp2
           go_loopw [20,21] (fun sm yv wr=>∃ z:Nat,z≤sl.length∧yv = .int .i64 (z:Int)∧sm = .bool ((sl.take z).any fun x=>belB x (u:Int))∧P' wr∧Below w.heap.size w wr) (fun _ yv _=>sl.length - (intOf yv).toNat)
           case atStart=>exact ⟨0,Nat.zero_le _,rfl,rfl,hP',hw⟩
           case round =>
            clear hP' hw
            obtain ⟨z',hz',rfl,rfl,hP,hw⟩:=hrel
            by_cases hlt:z'<sl.length
            · have hzl':(z':Int)<(sl.length:Int):=Int.ofNat_lt.2 hlt
              have hz0':(0:Int)≤(z':Int):=Int.natCast_nonneg z'
              obtain ⟨r,hr⟩:∃ r,sl[z']? = some r:=⟨_,List.getElem?_eq_getElem hlt⟩
              obtain ⟨gs,os,exs,-⟩:=(pSl _ hP).at_ hr
              subst exs
              have cz:∀ W,P' W→W.cell? ⟨gs,os+z',none⟩=some (.int .i64 r):=fun W h=>(pSl W h).cellZ hr
              have cm':∀ W,P' W→W.cell? ⟨gm,om+q,none⟩=some (.int .i64 (u:Int)):=fun W h=>cm W (pP W h)
              have pD':∀ W,P' W→DbT W:=fun W h=>pD W (pP W h)
              have hnx:=any_next sl (fun x=>belB x (u:Int)) hr
              have Hz':=Hid.mk' (And.intro hlt Hnx.out.2.2.1)
              have Hn':=Hid.mk' hnx
              clear hlt hr hnx hz'
              cases hb0:(sl.take z').any fun x=>belB x (u:Int) with
              | true =>
               go_upto_region 29 with (fail)
               have hdr:Below wr.heap.size wr wr.drew:=(Below.refl _ _).drew
               replace hP:=kp' _ _ hP hdr
               replace hw:=below_next hw hdr
               clear hdr
               refine wp_region_noPanic ?_
               refine wp_region_held_drew (S:=fun u=>Below wr.drew.heap.size wr.drew u) (by kernel_rfl) (Below.refl _ _) (fun hS => ?_)
               generalize wr.drew=V at *
               refine tg 0 hS ?_
               (try simp only [pS])
               refine tg 1 hS ?_
               (try simp only [pS])
               refine tk 2 undef hS (hy:=(Or.inr ⟨by rfl,rfl⟩)) (h := ?_)
               (try simp only [pS])
               refine tk 3 undef hS (hy:=(Or.inr ⟨by rfl,rfl⟩)) (h := ?_)
               (try simp only [pS])
               refine tk 4 undef hS (hy:=(Or.inr ⟨by rfl,rfl⟩)) (h := ?_)
               (try simp only [pS])
               refine tk 5 undef hS (hy:=(Or.inr ⟨by rfl,rfl⟩)) (h := ?_)
               (try simp only [pS])
               refine tk 6 undef hS (hy:=(Or.inr ⟨by rfl,rfl⟩)) (h := ?_)
               (try simp only [pS])
               refine tk 7 undef hS (hy:=(Or.inr ⟨by rfl,rfl⟩)) (h := ?_)
               (try simp only [pS])
               refine tk 8 undef hS (hy:=(Or.inr ⟨by rfl,rfl⟩)) (h := ?_)
               (try simp only [pS])
               refine tk 9 undef hS (hy:=(Or.inr ⟨by rfl,rfl⟩)) (h := ?_)
               (try simp only [pS])
               refine tk 10 undef hS (hy:=(Or.inr ⟨by rfl,rfl⟩)) (h := ?_)
               (try simp only [pS])
               refine tg 11 hS ?_
               (try simp only [pS])
               refine tg 12 hS ?_
               (try simp only [pS])
               refine wpAnyH_done (by kernel_rfl) ?_ _
               refine NoPanic.normal ?_
               go_wp2
               go_roundw
               case rel=>exact ⟨z'+1,Hz'.out.1,by first | exact qNext Hz'.out.1 Hz'.out.2 | go_num,by rw [Hn'.out,hb0];rfl,hP,hw⟩
               case measure=>first | exact qMeas Hz'.out.1 Hz'.out.2 | exact q1M'' Hz'.out.1
              | false =>
               go_upto_region 29 with (fail)
               have hdr:Below wr.heap.size wr wr.drew:=(Below.refl _ _).drew
               replace hP:=kp' _ _ hP hdr
               replace hw:=below_next hw hdr
               clear hdr
               refine wp_region_noPanic ?_
               refine wp_region_held_drew (S:=fun u=>Below wr.drew.heap.size wr.drew u) (by kernel_rfl) (Below.refl _ _) (fun hS => ?_)
               generalize wr.drew=V at *
               refine tg 0 hS ?_
               (try simp only [pS])
               refine tg 1 hS ?_
               (try simp only [pS])
               refine tg 2 hS ?_
               (try simp only [pS])
               refine tg 3 hS ?_
               (try simp only [pS])
               refine tg 4 hS (v := .pointer (some ⟨gs,os+z',none⟩)) ?_
               (try simp only [pS])
               refine tc 5 hS (fun u hu=>cz _ (kp' _ _ hP hu)) ?_
               (try simp only [pS])
               refine tg 6 hS ?_
               (try simp only [pS])
               refine tg 7 hS ?_
               (try simp only [pS])
               refine tg 8 hS (v := .pointer (some ⟨gm,om+q,none⟩)) ?_
               (try simp only [pS])
               refine tc 9 hS (fun u hu=>cm' _ (kp' _ _ hP hu)) ?_
               (try simp only [pS])
               refine cn 10 (iBelow_any r (u:Int) V (pD' _ hP)) ?_
               rintro e u1 ⟨rfl,hb⟩
               refine ⟨_,rfl,hb,?_⟩
               replace hP:=kp' _ _ hP hb
               replace hw:=below_next hw hb
               clear hS hb
               have hS:=Below.refl u1.heap.size u1
               (try simp only [pS])
               refine tg 11 hS ?_
               (try simp only [pS])
               refine tg 12 hS ?_
               (try simp only [pS])
               refine wpAnyH_done (by kernel_rfl) ?_ _
               refine NoPanic.normal ?_
               go_wp2
               go_roundw
               case rel=>exact ⟨z'+1,Hz'.out.1,by first | exact qNext Hz'.out.1 Hz'.out.2 | go_num,by rw [Hn'.out,hb0];rfl,hP,hw⟩
               case measure=>first | exact qMeas Hz'.out.1 Hz'.out.2 | exact q1M'' Hz'.out.1
            · obtain rfl:z'=sl.length:=Nat.le_antisymm hz' (Nat.le_of_not_lt hlt)
              have hzl':¬((sl.length:Nat):Int)<(sl.length:Int):=by omega
              rw [List.take_length,Hnx.out.2.1]
              have hnx:=Hnx.out.1
              have hcl:=Hnx.out.2.2.2
              have hPP:=pP _ hP
              clear hlt hz'
              cases hbo:inP7 oN u with
              | true =>
               rw [hbo,if_pos rfl] at hnx
               have hwr:wrap64 ((((fs.take z).countP fun p=>inP7 (oth7 p.toNat i) u:Nat):Int)+1)=(((fs.take z).countP fun p=>inP7 (oth7 p.toNat i) u)+1:Nat):=by unfold wrap64;omega
               have hwr':IntKind.i64.wrap ((((fs.take z).countP fun p=>inP7 (oth7 p.toNat i) u:Nat):Int)+1)=(((fs.take z).countP fun p=>inP7 (oth7 p.toNat i) u)+1:Nat):=by simp only [IntKind.wrap_i64];omega
               generalize ((fs.take z).countP fun p=>inP7 (oth7 p.toNat i) u)=cN at *
               go_wp2
               go_roundw
               case rel=>exact ⟨z+1,Hz.out.1,by first | exact qNext Hz.out.1 Hz.out.2 | go_num,by rw [hnx];first | rfl | (rw [hwr]) | (rw [hwr']),hPP,hw⟩
               case measure=>first | exact qMeas Hz.out.1 Hz.out.2 | exact q1M'' Hz.out.1
              | false =>
               rw [hbo,if_neg Bool.false_ne_true,Nat.add_zero] at hnx
               generalize ((fs.take z).countP fun p=>inP7 (oth7 p.toNat i) u)=cN at *
               go_wp2
               go_roundw
               case rel=>exact ⟨z+1,Hz.out.1,by first | exact qNext Hz.out.1 Hz.out.2 | go_num,by rw [hnx] <;> rfl,hPP,hw⟩
               case measure=>first | exact qMeas Hz.out.1 Hz.out.2 | exact q1M'' Hz.out.1
        · obtain rfl:z=fs.length:=Nat.le_antisymm hz (Nat.le_of_not_lt hlt)
          have hzl:¬((fs.length:Nat):Int)<(fs.length:Int):=by omega
          rw [List.take_length,HR.out.2.2.1 u Hu.out.1 Hu.out.2.1]
          have cmw:=cm _ hP
          have hlq:=Hu.out.2.2.1
          have hL:=HR.out.2.2.2.2.2.2.2.1
          clear hlt hz
          by_cases hui:u=i
          · subst hui
            rw [if_pos rfl]
            have e1:((u:Int) != (u:Int))=false:=by rw [bne,beq_self_eq_true];rfl
            have e2:((u:Int) == (u:Int))=true:=beq_self_eq_true _
            go_wp2
            go_roundw
            case rel=>exact ⟨q+1,hlq,by first | exact qNext hlq (Nat.le_trans hL (by decide)) | go_num,hP,hw⟩
            case measure=>first | exact qMeas hlq (Nat.le_trans hL (by decide)) | exact q1M'' hlq
          · rw [if_neg hui]
            have e2:((u:Int) == (i:Int))=false:=beq_eq_false_iff_ne.2 (by omega)
            have e1:((u:Int) != (i:Int))=true:=by rw [bne,e2];rfl
            go_wp2
            go_roundw
            case rel=>exact ⟨q+1,hlq,by first | exact qNext hlq (Nat.le_trans hL (by decide)) | go_num,hP,hw⟩
            case measure=>first | exact qMeas hlq (Nat.le_trans hL (by decide)) | exact q1M'' hlq
  · obtain rfl:q=ms.length:=Nat.le_antisymm hq (Nat.le_of_not_lt hlt)
    have hql:¬((ms.length:Nat):Int)<(ms.length:Int):=by omega
    clear hlt hq
    go_wp2
    go_ret
    exact ⟨rfl,hw⟩
end Go.Proofs.YtddkbmnkbfciaaaGreatDoor
namespace Go.Proofs.YtddkbmnkbfciaaaGreatDoor
open Go.RowKit
theorem rX {P:Program} {md:Region.Mode} {ops:Array Oper} {Q:Exit→Act→World→Prop} {S:World→Prop} {fuel:Nat} {listed:Array Bool} {a:Act} {w:World} (i:Nat) {rs:List Nat} {oi:Oper} (v:Value) (cs:Array Value) (t:TypeId) (hk:S (w.alloc (.cells cs t))) (h:wpAnyH P md ops Q S fuel (listed.setIfInBounds i true) (a.put oi.dst v) (w.alloc (.cells cs t))) (hs:AllReadyH P md ops Q S fuel listed a w rs)
 (hi:ops.toList[i]? = some oi:=by rfl) (hrun:(execOp a.eval oi).run P w = .ok (.value v) (w.alloc (.cells cs t)):=by kernel_rfl) (hw:Region.wanted oi (yielded ops a.tmps)=true:=by rfl):AllReadyH P md ops Q S fuel listed a w (i :: rs):=by
 refine AllReadyH.cons (at_list hi) (fun K hK => ?_) hs
 rw [if_pos hw]
 unfold Oper.wp
 rw [hrun,Oper.upon_value]
 exact hK.out _ _ hk (fun _=>h)
def PrIx (w:World) (cs:List Value) (d:PrD):Prop:=∃ v0 v1 v2,cs=[v0,v1,v2]∧BytesIn w v0 d.enc.n d.enc.b∧BytesIn w v1 d.hash.n d.hash.b∧ZIx w v2 d.um
theorem PrIx.keep {w w':World} {cs:List Value} {d:PrD} (h:PrIx w cs d) (hb:Below w.heap.size w w'):PrIx w' cs d:=by
 obtain ⟨v0,v1,v2,e,h0,h1,h2⟩:=h
 exact ⟨v0,v1,v2,e,h0.keep hb,h1.keep hb,h2.keep hb⟩
end Go.Proofs.YtddkbmnkbfciaaaGreatDoor
namespace Go.Proofs.YtddkbmnkbfciaaaGreatDoor
open Go.RowKit
def Cv (w:World) (v:Value) (s:ByteArray):Prop:=∀ W,Below w.heap.size w W→(convert 29 9 v).run Tryz.prog W = .ok (.string s) W
theorem Cv.keep {w w':World} {v:Value} {s:ByteArray} (h:Cv w v s) (hb:Below w.heap.size w w'):Cv w' v s:=fun W hW=>h W (below_next hb hW)
end Go.Proofs.YtddkbmnkbfciaaaGreatDoor
namespace Go.Proofs.YtddkbmnkbfciaaaGreatDoor
open Go.RowKit
def k0:Nat→Nat:=fun _=>0
end Go.Proofs.YtddkbmnkbfciaaaGreatDoor
namespace Go.Proofs.YtddkbmnkbfciaaaGreatDoor
open Go.RowKit
open Classical in
open Classical in
open Classical in
noncomputable def getZ (R:Prop):Int:=if R then 0 else 21
open Classical in
noncomputable def getX {α:Type} (R:Prop) (d z:α):α:=if R then d else z
theorem GetA.same {α:Type} {R:Prop} {D:World→List Value→α→Prop} {d z:α} {zero:List Value} {e:Ending} {w:World} (h:GetA R (fun W cs=>D W cs d) zero e w) (hz:D w zero z):∃ cs,e = .returned (.tuple #[.agg cs.toArray,.int .i64 (getZ R)])∧D w cs (getX R d z):=by
 unfold GetA at h
 unfold getZ getX
 split at h
 · rename_i hR
   obtain ⟨cs,rfl,hc⟩:=h
   rw [if_pos hR,if_pos hR]
   exact ⟨cs,rfl,hc⟩
 · rename_i hR
   rw [if_neg hR,if_neg hR]
   exact ⟨zero,h,hz⟩
theorem PrIn.form {w:World} {cs:List Value} {d:PrD} (h:PrIn w cs d):∃ x0 c0 x1 c1 x2 c2,cs=[.slice x0 d.enc.n c0,.slice x1 d.hash.n c1,.slice x2 d.um.length c2]:=by
 obtain ⟨v0,v1,v2,rfl,h0,h1,h2⟩:=h
 obtain ⟨x0,c0,rfl,-⟩:=h0.src
 obtain ⟨x1,c1,rfl,-⟩:=h1.src
 obtain ⟨x2,c2,rfl,-⟩:=h2
 exact ⟨x0,c0,x1,c1,x2,c2,rfl⟩
theorem RowAt.keep {K:IntKind} {w w':World} {b o n:Nat} {X:Nat→Nat} (h:RowAt K w b o n X) (hn:0<n) (hb:Below w.heap.size w w'):RowAt K w' b o n X:=h.below hb (block_lt_of_cell (h 0 hn).1)
end Go.Proofs.YtddkbmnkbfciaaaGreatDoor
namespace Go.Proofs.YtddkbmnkbfciaaaGreatDoor
open Go.ChangeShapes Go.WideShapes Go.ChangeAt Go.RowKit Go.Joins Go.Deep
theorem cellsOfStep:Tryz.prog.cellsOf 139=2:=by kernel_rfl
set_option maxRecDepth 20000 in
theorem open_steps {H:Type} {enc:TypeId × Value→H} {W:World} {base:Nat} {v:Value} {d:DataW H} {ps:List MemPlace} (hval:Value.okWide Tryz.prog W .any base 73 v) (h:DataW.Trod enc Tryz.prog W 0 (fun _=>true) true 73 v d ps) :
 ∃ (xo:Option Addr) (ss:List (Int × Int)) (c:Nat),v = .slice xo ss.length c∧StepsAt W (.slice xo ss.length c) ss:=by
 obtain ⟨a0,len,cap,rfl⟩:=okWide_slice Tryz.underlying73 hval
 obtain ⟨fuel,hf⟩:=h
 have hc:Cell.ok Tryz.prog W .any base 73 (.slice a0 len cap):=by
  unfold Value.okWide Cell.okWide at hval
  simp only [Tryz.underlying73] at hval
  exact hval
 rcases Deep.open_slice Tryz.underlying73 hf with ⟨hcs,hx⟩ | ⟨a,len',cap',m,n,D,Pl,hcs,_,hl,hm,hmm,hx,hrow⟩
 · simp [Value.cells] at hcs
   obtain ⟨rfl,rfl,rfl⟩:=hcs
   exact ⟨none,[],0,rfl,none,0,rfl,fun j s hs=>by simp at hs⟩
 · simp [Value.cells] at hcs
   obtain ⟨rfl,rfl,rfl⟩:=hcs
   simp only [if_true] at hmm
   unfold Cell.ok at hc
   simp only [Tryz.underlying73] at hc
   obtain ⟨_,_,_,hs,_⟩:=hc
   obtain ⟨b,off,spot⟩:=a
   subst hs
   rw [cellsOfStep] at hrow
   have each:∀ i,i<len→∃ q:Int × Int,W.cell? ⟨b,off+i*2,none⟩=some (.int .i64 q.1)∧W.cell? ⟨b,off+i*2+1,none⟩=some (.int .i64 q.2):=by
    intro i hi
    obtain ⟨cs',h1,h2⟩:=hrow i (by omega)
    obtain ⟨_,hlen,hcell⟩:=World.cells?_some h1
    obtain ⟨xs,k,hk,hxy,_,hxl,hfd⟩:=DataW.trod_struct Tryz.underlying139 h2
    match xs,hxl,cs',hlen with
    | [y0,y1],_,[v0,v1],_ =>
     have g0:=hfd 0 _ rfl
     have g1:=hfd 1 _ rfl
     have k2:Tryz.prog.cellsOf 3=1:=by kernel_rfl
     simp [k2] at g0 g1
     obtain ⟨z0,hz0,-,-⟩:=DataW.trod_int Tryz.underlying3 g0
     obtain ⟨z1,hz1,-,-⟩:=DataW.trod_int Tryz.underlying3 g1
     obtain rfl:v0 = .int .i64 z0:=by simpa using hz0
     obtain rfl:v1 = .int .i64 z1:=by simpa using hz1
     have e0:=hcell 0 (by omega)
     have e1:=hcell 1 (by omega)
     rw [Addr.add_mid,Addr.add_mid] at e0 e1
     exact ⟨(z0,z1),by simpa using e0,by simpa using e1⟩
   obtain ⟨q,hq⟩:=Deep.choose_lt (α:=Int × Int) each
   refine ⟨some ⟨b,off,none⟩,(List.range len).map q,cap,by simp,some ⟨b,off,none⟩,cap,rfl,fun j s hs => ?_⟩
   have hj:j<len:=by have:=(List.getElem?_eq_some_iff.1 hs).1;simpa using this
   have e:s=q j:=by simp [hj] at hs;exact hs.symm
   subst e
   exact ⟨b,off,rfl,block_lt_of_cell (hq j hj).1,(hq j hj).1,(hq j hj).2⟩
end Go.Proofs.YtddkbmnkbfciaaaGreatDoor
