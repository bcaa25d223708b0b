/- What the proof stands on: T6J, T7A, T7B. -/
import Derived.Test.YtddkbmnkbfciaaaGreatDoorN3SM
import Derived.Test.YtddkbmnkbfciaaaGreatDoorT4ZM
import Derived.Test.YtddkbmnkbfciaaaGreatDoorT6IM
namespace Go.Proofs.YtddkbmnkbfciaaaGreatDoor
open Go.RowKit Go.Shelf
attribute [local go_sem] Oper.semAt_some
def StepsAt (w:World) (v:Value) (ss:List (Int × Int)):Prop:=∃ xo c,v = .slice xo ss.length c∧∀ (j:Nat) s,ss[j]? = some s→∃ g o,xo=some ⟨g,o,none⟩∧g<w.heap.size∧w.cell? ⟨g,o+j*2,none⟩=some (.int .i64 s.1)∧w.cell? ⟨g,o+j*2+1,none⟩=some (.int .i64 s.2)
def okW (w:World) (tb mb:Nat):Nat→Prop:=fun b=>w.heap.size≤b∧b≠tb∧b≠mb
theorem TrAt.okW {ok:Nat→Prop} {w W0 W:World} {tb mb:Nat} {T:Tr} (h:TrAt (fun b=>ok b∨W0.heap.size≤b) W tb mb T) (ho:∀ b,ok b→okW w tb mb b) (h1:w.heap.size≤W0.heap.size) (h2:tb<W0.heap.size∧mb<W0.heap.size):TrAt (okW w tb mb) W tb mb T :=
 h.wide (fun b _ hb=>by
  rcases hb with hb | hb
  · exact ho b hb
  · exact ⟨by omega,by omega,by omega⟩) (fun h=>h.2.1 rfl) (fun h=>h.2.2 rfl)
theorem q1N {q:Nat} (h:q≤7):Value.int .i64 (wrap64 ((q:Int)+1)) = .int .i64 ((q+1:Nat):Int):=by congr 1;unfold wrap64;omega
theorem q1N' {q:Nat} (h:q≤7):Value.int .i64 (IntKind.i64.wrap ((q:Int)+1)) = .int .i64 ((q+1:Nat):Int):=by congr 1;simp only [IntKind.wrap_i64];omega
theorem q1M {q n:Nat} (h:q≤7) (hl:q<n):n - (intOf (.int .i64 (wrap64 ((q:Int)+1)))).toNat<n - (intOf (.int .i64 (q:Int))).toNat:=by rw [q1N h];simp [intOf];omega
theorem q1M' {q n:Nat} (h:q≤7) (hl:q<n):n - (intOf (.int .i64 (IntKind.i64.wrap ((q:Int)+1)))).toNat<n - (intOf (.int .i64 (q:Int))).toNat:=by rw [q1N' h];simp [intOf];omega
theorem q1M'' {q n:Nat} (hl:q<n):n - (intOf (.int .i64 ((q:Int)+1))).toNat<n - (intOf (.int .i64 (q:Int))).toNat:=by simp [intOf];omega
theorem boxne {b g wr wq tb mb:Nat} {P:Prop} (ho:((P∧b<wr)∨wq≤b)∨b=tb∨b=mb) (h1:wr≤g) (h2:g<wq) (h3:tb<wr) (h4:mb<wr):b≠g:=by
 rcases ho with (⟨-,h⟩ | h) | h | h <;> omega
theorem okq {w:World} {b g wr wq tb mb:Nat} (h:wq≤b) (h0:w.heap.size≤wr) (h1:wr≤g) (h2:g<wq) (h3:tb<wr) (h4:mb<wr):okW w tb mb b:=⟨by omega,by omega,by omega⟩
theorem stores6 {W10 W11 W12:World} {g:Nat} {u0 u1 u2 u4 u5 sv:Value} {fr:Nat} {t:Tx} (k10:RW W10 g 0 [u0,u1,u2,.int .i64 1,u4,u5]) (lf:LfIn W10 [u0,u1,u2,.int .i64 1,u4,u5] (lfM fr)) (hs:BytesIn W10 sv t.n t.b) (h11:W11=W10.setCell ⟨g,3,none⟩ (.int .i64 3)) (h12:W12=W11.setCell ⟨g,4,none⟩ sv) :
 W10.cell? ⟨g,3,none⟩=some (.int .i64 1)∧W10.frozen? ⟨g,3,none⟩=false∧W11.cell? ⟨g,4,none⟩=some u4∧W11.frozen? ⟨g,4,none⟩=false∧RW W12 g 0 [u0,u1,u2,.int .i64 3,sv,u5]∧LfIn W12 [u0,u1,u2,.int .i64 3,sv,u5] (lfC fr t)∧(∀ b,b≠g→W12.heap[b]? = W10.heap[b]?)∧W12.heap.size=W10.heap.size∧∀ B,B≤g→Below B W10 W12:=by
 have p3:=k10.range 3 _ rfl
 have f3:=(k10.there 3 (by simp)).2
 have k11:=k10.setAt 3 (by simp) (.int .i64 3)
 rw [Nat.zero_add] at p3 f3 k11
 rw [←h11] at k11
 have p4:=k11.range 4 _ rfl
 have f4:=(k11.there 4 (by simp)).2
 have k12:=k11.setAt 4 (by simp) sv
 rw [Nat.zero_add] at p4 f4 k12
 rw [←h12] at k12
 have n3:∀ z,Value.int .i64 1 ≠ .int .u8 z:=fun z e=>by cases e
 have n4:=leaf_no4 lf
 have l11:=lf.set6 p3 n3 (.int .i64 3)
 have s11:=hs.set6 p3 n3 (.int .i64 3)
 rw [←h11] at l11 s11
 have l12:=l11.set6 p4 n4 sv
 have s12:=s11.set6 p4 n4 sv
 rw [←h12] at l12 s12
 refine ⟨p3,f3,p4,f4,k12,leaf_com l12 s12,fun b hb => ?_,by rw [h12,h11];simp,fun B hB => ?_⟩
 · rw [h12,Below.heap_setCell _ _ _ _ (by exact hb),h11,Below.heap_setCell _ _ _ _ (by exact hb)]
 · rw [h12,h11];exact ((Below.refl _ _).setCell hB _).setCell hB _
theorem meas40 {k n:Nat} (h:k<min n 40):40 - (intOf (.int .i64 ((k+1:Nat):Int))).toNat<40 - (intOf (.int .i64 (k:Int))).toNat:=by simp [intOf];omega
theorem le40 {fr k n:Nat} (h:fr=k+1) (h2:k<min n 40):fr≤40:=by omega
theorem keyN {f2 q:Nat} (h:f2≤41) (hq:q≤7):wrap64 (wrap64 (1000000+wrap64 (50*(f2:Int)))+(q:Int))=((1000000+50*f2+q:Nat):Int):=by unfold wrap64;omega
theorem keyN' {f2 q:Nat} (h:f2≤41) (hq:q≤7):IntKind.i64.wrap (IntKind.i64.wrap (1000000+IntKind.i64.wrap (50*(f2:Int)))+(q:Int))=((1000000+50*f2+q:Nat):Int):=by simp only [IntKind.wrap_i64];omega
theorem keyN'' {f2 q:Nat} (_h:f2≤41) (_hq:q≤7):(1000000:Int)+50*(f2:Int)+(q:Int)=((1000000+50*f2+q:Nat):Int):=by omega
theorem keyE_any (n:Nat) (x:Int) (hx:x=(n:Int)) (w:World):Calls Tryz.prog 47 #[.int .i64 x] w fun e w'=>∃ v',e = .returned v'∧Own w.heap.size w' v' 32 (keyB n)∧Below w.heap.size w w':=by
 rw [hx];exact key_any n w
set_option maxRecDepth 100000 in
set_option maxHeartbeats 16000000 in
theorem live_any (v:Value) (ss:List (Int × Int)) (w:World) (hs:StepsAt w v ss) (hT:DbT w) (hH:HTab w cubeK squareK) :
 Calls Tryz.prog 41 #[v] w fun e w'=>∃ tb mb,e = .returned (pA tb 0)∧w.heap.size≤tb∧w.heap.size≤mb∧TrAt (okW w tb mb) w' tb mb (lvT ss (min ss.length 40))∧Below w.heap.size w w':=by
 obtain ⟨xo,c0,rfl,hss⟩:=hs
 have cN:=newTree_any w
 have HT:=Hid.mk' hT
 have HH:=Hid.mk' hH
 have Hss:=Hid.mk' hss
 clear hT hH hss
 go_enter Tryz.func41,Tryz.ntmps41
 go_upto_region 4 with (go_at_call 9;refine cN.mono ?_;clear cN;rintro e w1 ⟨tb,mb,rfl,htb,hmb,hT1,hb1⟩)
 have cL:Calls Tryz.prog 46 #[.int .i64 0] w1 _:=lawLeaf_any 0 (by decide) w1
 go_wp2_with (first
  | (go_at_call 46;refine cL.mono ?_;clear cL;rintro e w2 ⟨cs1,rfl,hl1,hb2⟩;(have cA:=add_near _ tb mb kT0 Gd.new.ok cs1 (lfM 0) w2 (HT.out.keep (below_next hb1 hb2)) (hT1.below hb2) hl1 (lfM_R 0) (by rw [k0f];decide));(rw [k0f,show ((0:Nat):Int)=0 from rfl] at cA))
  | (go_at_call 31;refine cA.mono ?_;clear cA;rintro e w3 ⟨rfl,hT3,bt3⟩)
  | (go_at_call 19;refine (num4_any _ _).mono ?_;rintro e wn ⟨rfl,hwn⟩;obtain rfl:=hwn.symm))
 have bw3:Below w.heap.size w w3:=(below_next hb1 hb2).trans (bt3.below (below_next hb1 hb2).size (fun k hk=>by omega))
 have ht2:=hT1.tlt
 have hm2:=hT1.mlt
 have hb2s:=hb2.size
 have hb1s:=hb1.size
 have hT3':TrAt (okW w tb mb) w3 tb mb (lvT ss 0):=TrAt.okW hT3 (fun b h=>h.elim) (by omega) (by omega)
 clear hT1 hl1 hb1 hb2 bt3 hT3 ht2 hm2 hb2s hb1s
 go_loopw [6,7,8,9,10,11,12,13,14,15] (fun fr kv _ _ _ _ _ _ _ _ wr=>∃ k:Nat,k≤min ss.length 40∧kv = .int .i64 (k:Int)∧fr = .int .i64 ((k+1:Nat):Int)∧TrAt (okW w tb mb) wr tb mb (lvT ss k)∧Below w.heap.size w wr) (fun _ kv _ _ _ _ _ _ _ _ _=>40 - (intOf kv).toNat)
 case atStart=>exact ⟨0,Nat.zero_le _,rfl,rfl,hT3',bw3⟩
 case round =>
  clear hT3' bw3
  obtain ⟨k,hk,rfl,rfl,hTr,bw⟩:=hrel
  by_cases hlt:k<min ss.length 40
  · have hI:=lvT_I ss k
    have hl1:(k:Int)<(ss.length:Int):=by omega
    have hl2:(k:Int)<40:=by omega
    obtain ⟨s,hsk⟩:∃ s,ss[k]? = some s:=⟨_,List.getElem?_eq_getElem (by omega)⟩
    obtain ⟨kd,I⟩:=s
    obtain ⟨g,o,rfl,hgl,hcK,hcI⟩:=Hss.out k _ hsk
    have eLv:lvT ss (k+1)=lvS (lvT ss k) (k+1) kd I:=by
     show lvS _ _ ((ss[k]?).getD (0,0)).1 ((ss[k]?).getD (0,0)).2=_
     rw [hsk];rfl
    have hk0:(0:Int)≤(k:Int):=by omega
    replace hcK:w.cell? ⟨g,o+k*2,none⟩=some (.int .i64 kd):=hcK
    replace hcI:w.cell? ⟨g,o+k*2+1,none⟩=some (.int .i64 I):=hcI
    have HeLv:=Hid.mk' eLv
    have Hlt:=Hid.mk' hlt
    clear eLv hsk hlt hk
    generalize lvT ss k=T at *
    have hg:=hI.gd
    obtain ⟨y1,y2,y3,y4,y5⟩:=who_at hg hI.ne I
    obtain ⟨-,y6⟩:=idxN_eq (I:=I) (L:=(mbs T).length) (by have:=hI.ne;omega) (by have:=mbL_len T.nd T.n;have:=hg.ok.n64;unfold mbs;omega)
    have cM:=tMembers_any _ tb mb T hg.ok wr hTr
    have hL64:(mbs T).length≤64:=by have:=mbL_len T.nd T.n;have:=hg.ok.n64;unfold mbs;omega
    rw [show mbL T.nd T.n=mbs T from rfl] at cM
    have hLne:=hI.ne
    obtain ⟨ms,hms⟩:∃ ms,ms=mbs T:=⟨_,rfl⟩
    obtain ⟨z,hz⟩:∃ z,z=who T I:=⟨_,rfl⟩
    obtain ⟨y,hy⟩:∃ y,y=idxN I ms.length:=⟨_,rfl⟩
    rw [←hms] at y1 y2 y6 cM hL64 hLne
    rw [←hz] at y2 y3 y4 y5
    rw [←hy] at y1 y2 y6
    have hL1:¬((ms.length:Int)=0):=by omega
    have hL1b:((ms.length:Int) == 0)=false:=beq_eq_false_iff_ne.2 hL1
    have hy0:(0:Int)≤(y:Int):=by omega
    have hyl:(y:Int)<(ms.length:Int):=by omega
    have Hms:=Hid.mk' (And.intro hms hz)
    have HI:=Hid.mk' (And.intro hI (And.intro hg (And.intro y3 (And.intro y4 (And.intro y5 (And.intro hL64 hLne))))))
    clear hI hg y1 y3 y4 y5 hms hz hy hL64 hLne
    obtain ⟨fr,hfr⟩:∃ fr:Nat,fr=k+1:=⟨_,rfl⟩
    rw [←hfr]
    have cL:=fun (W:World)=>lawLeaf_any fr (by omega) W
    have hwk:wrap64 ((fr:Int)+1)=((fr+1:Nat):Int):=by unfold wrap64;omega
    rw [←hfr] at HeLv
    have Hfr:=Hid.mk' hfr
    clear hfr
    have hwk1:wrap64 ((k:Int)+1)=((k+1:Nat):Int):=by unfold wrap64;omega
    have Hwk:=Hid.mk' (And.intro hwk1 hwk)
    go_upto_region 29 with (first
     | (go_at_call 27;refine cM.mono ?_;clear cM;rintro e w5 ⟨v5,rfl,how,hb5⟩;(obtain ⟨x5,c5,rfl⟩:=how.slice);(have zo5:=ZO.own how);(obtain ⟨xz,cz,ez,-,-,hzz⟩:=id zo5);(obtain ⟨rfl,rfl⟩:x5=xz∧c5=cz:=(by injection ez with h1 h2 h3;exact ⟨h1,h3⟩));(obtain ⟨gz,oz,rfl,-,-,hcz⟩:=hzz y z y2);(have bw5:=below_next bw hb5);(have hcI5:=(bw5.cell (p:=⟨g,o+k*2+1,none⟩) hgl).trans hcI);clear hzz ez zo5 how y2)
     | (go_at_call 46;refine (cL w5).mono ?_;clear cL;rintro e w6 ⟨cs,rfl,hlf,hb6⟩;(obtain ⟨u0,u1,u2,u4,u5,rfl⟩:=leaf_forms hlf);(have h1c:=hlf.one))
     | ((with_reducible refine id (?_:wpList _ _ _ _ _ _));refine wpList_store_mid rfl 54 _ _ rfl w6.heap.size 0 #[u0,u1,u2,.int .i64 1,u4,u5] rfl rfl (ttL w6) (sz6 u0 u1 u2 _ u4 u5) h1c ?_;(obtain ⟨W6,hW6⟩:∃ W6,W6=(w6.alloc (.cells #[.slice none 0 0,.slice none 0 0,.slice none 0 0,.int .i64 0,.slice none 0 0,.slice none 0 0] 54)).setCells w6.heap.size 0 [u0,u1,u2,.int .i64 1,u4,u5]:=⟨_,rfl⟩);(obtain ⟨k6,bW6⟩:=box_leaf w6 rfl hW6);(have bw6:=below_next (below_next bw5 hb6) bW6);(have hcK6:=(bw6.cell (p:=⟨g,o+k*2,none⟩) hgl).trans hcK);rw [show [u0,u1,u2,Value.int .i64 1,u4,u5].toArray.toList=[u0,u1,u2,.int .i64 1,u4,u5] from rfl];rw [←hW6];clear hW6))
    have b06:=below_next (below_next hb5 hb6) bW6
    have hT6:TrAt (fun b=>okW w tb mb b∧b<wr.heap.size) W6 tb mb T:=(hTr.wide (fun b hb h=>⟨h,hb⟩) (fun h=>h.1.2.1 rfl) (fun h=>h.1.2.2 rfl)).below b06
    have hT6w:TrAt (okW w tb mb) W6 tb mb T:=hT6.wide (fun b _ h=>h.1) (fun h=>h.2.1 rfl) (fun h=>h.2.2 rfl)
    have hdb6:=HT.out.keep bw6
    have hl6:=hlf.keep bW6
    have htl6:=hTr.tlt
    have hml6:=hTr.mlt
    have hq:=HI.out
    have hwr:=bw.size
    have h05:=hb5.size
    have h56:=hb6.size
    have hk6s:=bW6.size
    clear hcI hcK hcI5 hcz hTr
    by_cases k0:kd=0
    · subst k0
      have eS:lvT ss fr=(if fbL T.nd T.n=T.n∧T.n=64 then T else addT T (lfM fr)):=by rw [HeLv.out];unfold lvS;rw [if_pos rfl]
      by_cases hf:fbL T.nd T.n=T.n∧T.n=64
      · rw [if_pos hf] at eS
        have cA:=add_full _ tb mb T hq.2.1.ok _ _ W6 hT6 hl6 (lfM_R fr) hf.1 hf.2
        have He:=Hid.mk' eS
        have Hq:=Hid.mk' hq
        clear eS hf hq
        go_upto_region 10 with (first
         | ((with_reducible refine id (?_:wpList _ _ _ _ _ _));refine wpList_load_wd4 rfl 54 _ rfl w6.heap.size 0 rfl _ _ k6.range Tryz.underlying54 rfl (sz6 u0 u1 u2 _ u4 u5) ?_)
         | (go_at_call 31;refine cA.mono ?_;clear cA;rintro e W7 ⟨rfl,hb7⟩))
        clear hl1 hl2 hwk1 hwk hk0
        go_wp2
        refine ⟨⟨k+1,by have:=Hlt.out;omega,by rw [Hwk.out.1],by first | (rw [Hwk.out.2,Hfr.out]) | (rw [Hfr.out];rfl),?_,below_next bw6 hb7⟩,by rw [Hwk.out.1];have:=Hlt.out;simp [intOf];omega⟩
        rw [←Hfr.out,He.out];exact hT6w.below hb7
      · rw [if_neg hf] at eS
        have cA:=tAdd_yes _ tb mb T hq.2.1.ok _ _ W6 hdb6 hT6 hl6 (lfM_R fr) (by by_cases e1:fbL T.nd T.n=T.n;exact .inr (fun e2=>hf ⟨e1,e2⟩);exact .inl e1)
        have He:=Hid.mk' eS
        have Hq:=Hid.mk' hq
        clear eS hf hq
        go_upto_region 10 with (first
         | ((with_reducible refine id (?_:wpList _ _ _ _ _ _));refine wpList_load_wd4 rfl 54 _ rfl w6.heap.size 0 rfl _ _ k6.range Tryz.underlying54 rfl (sz6 u0 u1 u2 _ u4 u5) ?_)
         | (go_at_call 31;refine cA.mono ?_;clear cA;rintro e W7 ⟨rfl,hT7,bt7⟩))
        clear hl1 hl2 hwk1 hwk hk0
        go_wp2
        refine ⟨⟨k+1,by have:=Hlt.out;omega,by rw [Hwk.out.1],by first | (rw [Hwk.out.2,Hfr.out]) | (rw [Hfr.out];rfl),?_,bw6.trans (bt7.below bw6.size (fun j hj=>by omega))⟩,by rw [Hwk.out.1];have:=Hlt.out;simp [intOf];omega⟩
        rw [←Hfr.out,He.out];exact TrAt.okW hT7 (fun b h=>h.1) (by omega) (by omega)
    · have k0b:(kd == 0)=false:=beq_eq_false_iff_ne.2 k0
      by_cases k1:kd=1
      · subst k1
        have eS:lvT ss fr=(if 1<ms.length then remT T z else T):=by rw [HeLv.out];unfold lvS;rw [if_neg (by decide),if_pos rfl,←Hms.out.1,←Hms.out.2]
        by_cases hf:1<ms.length
        · rw [if_pos hf] at eS
          have hf':(1:Int)<(ms.length:Int):=by omega
          have cA:=tRemove_in _ tb mb T hq.2.1.ok z W6 hdb6 hT6w ⟨hq.2.2.1,hq.2.2.2.1⟩
          have He:=Hid.mk' eS
          have Hq:=Hid.mk' hq
          clear eS hf hq
          go_upto_region 10 with (go_at_call 36;refine cA.mono ?_;clear cA;rintro e W7 hr;(obtain ⟨-,rfl,hT7,bt7⟩:=hr.resolve_left (fun ⟨h0,_⟩=>by have:=Hq.out.2.2.2.2.1;rw [h0] at this;cases this));clear hr)
          clear hl1 hl2 hwk1 hwk hk0
          go_wp2
          refine ⟨⟨k+1,by have:=Hlt.out;omega,by rw [Hwk.out.1],by first | (rw [Hwk.out.2,Hfr.out]) | (rw [Hfr.out];rfl),?_,bw6.trans (bt7.below bw6.size (fun j hj=>by omega))⟩,by rw [Hwk.out.1];have:=Hlt.out;simp [intOf];omega⟩
          rw [←Hfr.out,He.out];exact hT7
        · rw [if_neg hf] at eS
          have hf':¬(1:Int)<(ms.length:Int):=by omega
          have He:=Hid.mk' eS
          have Hq:=Hid.mk' hq
          clear eS hf hq
          go_upto_region 10 with (fail)
          clear hl1 hl2 hwk1 hwk hk0
          go_wp2
          refine ⟨⟨k+1,by have:=Hlt.out;omega,by rw [Hwk.out.1],by first | (rw [Hwk.out.2,Hfr.out]) | (rw [Hfr.out];rfl),?_,bw6⟩,by rw [Hwk.out.1];have:=Hlt.out;simp [intOf];omega⟩
          rw [←Hfr.out,He.out];exact hT6w
      · have k1b:(kd == 1)=false:=beq_eq_false_iff_ne.2 k1
        by_cases k2:kd=2
        · subst k2
          have eS:lvT ss fr=⟨T.n,delL (upn T.nd (2*z) (some (.lf (lfU fr)))) (pathL z T.n)⟩:=by rw [HeLv.out];unfold lvS;rw [if_neg (by decide),if_neg (by decide),if_pos rfl,←Hms.out.2]
          obtain ⟨W7,hW7⟩:∃ W7,W7=W6.setCell ⟨w6.heap.size,3,none⟩ (.int .i64 2):=⟨_,rfl⟩
          have k7:RW W7 w6.heap.size 0 [u0,u1,u2,.int .i64 2,u4,u5]:=by
           have h:=k6.setAt 3 (by simp) (.int .i64 2)
           rw [Nat.zero_add] at h
           rw [hW7];exact h
          have b67:Below w6.heap.size w6 W7:=by rw [hW7];exact bW6.setCell (Nat.le_refl _) _
          have b07:Below wr.heap.size wr W7:=by rw [hW7];exact b06.setCell (by show wr.heap.size≤w6.heap.size;omega) _
          have p3:=k6.range 3 _ rfl
          have f3:=(k6.there 3 (by simp)).2
          rw [Nat.zero_add] at p3 f3
          have cA:=tSet_in _ tb mb T hq.2.1.ok z _ _ W7 (HT.out.keep (below_next bw b07)) (leaf_upd hlf b67) (hT6.same (by rw [hW7];simp) (fun b hb ho=>by rw [hW7];exact Below.heap_setCell _ _ _ _ (by show b≠w6.heap.size;rcases ho with ho | rfl | rfl;have:=ho.2;omega;omega;omega))) (lfU_R fr) ⟨hq.2.2.1,hq.2.2.2.1⟩
          have HW7:=Hid.mk' hW7
          have He:=Hid.mk' eS
          have Hq:=Hid.mk' hq
          clear eS hW7 hq
          go_upto_region 10 with (first
           | (rw [←HW7.out])
           | ((with_reducible refine id (?_:wpList _ _ _ _ _ _));refine wpList_load_wd4 rfl 54 _ rfl w6.heap.size 0 rfl _ _ k7.range Tryz.underlying54 rfl (sz6 u0 u1 u2 _ u4 u5) ?_)
           | (go_at_call 35;refine cA.mono ?_;clear cA;rintro e W8 hr;(obtain ⟨-,rfl,hT8,bt8⟩:=hr.resolve_left (fun ⟨h0,_⟩=>by have:=Hq.out.2.2.2.2.1;rw [h0] at this;cases this));clear hr))
          clear hl1 hl2 hwk1 hwk hk0
          go_wp2
          refine ⟨⟨k+1,by have:=Hlt.out;omega,by rw [Hwk.out.1],by first | (rw [Hwk.out.2,Hfr.out]) | (rw [Hfr.out];rfl),?_,(below_next bw b07).trans (bt8.below (below_next bw b07).size (fun j hj=>by omega))⟩,by rw [Hwk.out.1];have:=Hlt.out;simp [intOf];omega⟩
          rw [←Hfr.out,He.out];exact TrAt.okW hT8 (fun b h=>h.1) (by have:=b07.size;omega) (by have:=b07.size;omega)
        · have k2b:(kd == 2)=false:=beq_eq_false_iff_ne.2 k2
          have eS:lvT ss fr=⟨T.n,upn (cmT T fr z).1.nd (2*z) (some (.lf (lfC fr (cmT T fr z).2)))⟩:=by rw [HeLv.out];unfold lvS;rw [if_neg k0,if_neg k1,if_neg k2,←Hms.out.2]
          have cF:=tFiltered_any _ tb mb T hq.2.1.ok z ⟨hq.2.2.1,hq.2.2.2.1⟩ W6 hdb6 hT6w
          have hf7:(filL T z).length≤7:=Nat.le_trans (filK_len _ _ _ _) (pathL_len z T.n)
          have hfl:fr≤40:=le40 Hfr.out Hlt.out
          obtain ⟨fl,hfe⟩:∃ l,l=filL T z:=⟨_,rfl⟩
          rw [←hfe] at cF hf7
          obtain ⟨f2,hf2⟩:∃ f,f=fr+1:=⟨_,rfl⟩
          have hf41:f2≤41:=by rw [hf2];exact Nat.succ_le_succ hfl
          rw [hwk,←hf2]
          have He:=Hid.mk' (And.intro eS (And.intro hfe hf2))
          have Hq:=Hid.mk' hq
          clear eS hq hl1 hl2 hwk1 hwk hk0 k0 k1 k2 hfe hf2 hfl
          go_upto_region 20 with (go_at_call 38;refine cF.mono ?_;clear cF;rintro e W7 ⟨v7,rfl,ho7,b67⟩;(obtain ⟨x7,c7,rfl⟩:=ho7.slice);clear ho7)
          go_wp2
          obtain ⟨nr,hnr⟩:∃ n,n=wr.heap.size:=⟨_,rfl⟩
          rw [←hnr] at hT6 htl6 hml6 hwr h05
          clear b06 bw hb5 hnr
          go_loopw [11,13] (fun kv jv wr=>∃ (q:Nat) (pv:Nat→Value),q≤fl.length∧jv = .int .i64 (q:Int)∧LsIn W7.heap.size wr kv q pv (fun _=>32) (fun j=>keyB (1000000+50*f2+j))∧Below W7.heap.size W7 wr) (fun _ jv _=>fl.length - (intOf jv).toNat)
          case atStart=>exact ⟨0,fun _ => .bool false,Nat.zero_le _,rfl,⟨OwnL.nil _ _ _,fun i hi=>absurd hi (Nat.not_lt_zero _)⟩,Below.refl _ _⟩
          case round =>
           obtain ⟨q,pv,hqq,rfl,hL,b78⟩:=hrel

           by_cases hlt:q<fl.length
           · have t0:(q:Int)<(fl.length:Int):=Int.ofNat_lt.2 hlt
             have hq7:q≤7:=Nat.le_trans hqq hf7
             have h78:=b78.size
             go_wp2_with (first
              | (go_at_call 47;refine (keyE_any (1000000+50*f2+q) _ (by first | exact keyN hf41 hq7 | exact keyN' hf41 hq7 | exact keyN'' hf41 hq7) _).mono ?_;rintro e W8 ⟨v8,rfl,o8,b8⟩;(have hl3:=hL.below b8);(have o8':=own_base o8 h78);(obtain ⟨y8,d8,e8⟩:=o8.slice);subst e8)
              | (at_builtin;refine wpList_append_piece rfl (.tmp 78) (.tmp 85) rfl W7.heap.size _ q (putK pv q _) _ rfl (hl3.list.congrK fun i hi=>(putK_old _ _ _ hi).symm) rfl (putK_same _ _ _) rfl (Nat.le_trans (Nat.succ_le_succ hq7) (by decide)) (Nat.le_trans h78 b8.size) ?_;intro v9 w9 own9 grow9))
             have ba:=(Below.refl W8.heap.size W8).alloc (Nat.le_refl _) (.cells #[.slice y8 32 d8] 29)
             have hl4:LsIn W7.heap.size w9 v9 (q+1) _ (fun _=>32) (fun j=>keyB (1000000+50*f2+j)):=hl3.next (fun i hi=>putK_old _ _ _ hi) (by rw [←putK_same];exact o8') ba own9 grow9
             have b89:Below W7.heap.size W8 w9:=below_grown (Below.mono ba (Nat.le_trans h78 b8.size)) grow9 (own_below hl3.list ba) (Nat.le_refl _) (Nat.le_trans (Nat.le_trans h78 b8.size) ba.size)
             go_roundw
             case rel=>exact ⟨q+1,_,hlt,by first | rfl | exact q1N hq7 | exact q1N' hq7,hl4,(below_next b78 b8).trans b89⟩
             case measure=>first | exact q1M hq7 hlt | exact q1M' hq7 hlt | exact q1M'' hlt
           · obtain rfl:q=fl.length:=Nat.le_antisymm hqq (Nat.le_of_not_lt hlt)
             have t0:¬(fl.length:Int)<(fl.length:Int):=Int.lt_irrefl _
             have kO:=keys_of hL
             obtain ⟨x9,c9,rfl⟩:=hL.list.slice
             have b6q:=below_next b67 b78
             have bwq:=below_next bw6 b6q
             have hgd:=Hq.out.2.1
             have hTq:TrAt (fun b=>okW w tb mb b∧b<nr) wr tb mb T:=hT6.below b6q
             have cS:=tSetPath_yes _ _ tb mb T hgd.ok hgd.rk z ⟨Hq.out.2.2.1,Hq.out.2.2.2.1⟩ _ _ wr (HT.out.keep bwq) (HH.out.below bwq HH.out.size) hTq kO (by rw [ksT_len,←He.out.2.1]) (fun t ht=>(ksT_32 _ _ t ht).1) (fun t ht=>(ksT_32 _ _ t ht).2)
             obtain ⟨S,hS⟩:∃ S,S=spT T z (ksT f2 fl.length):=⟨_,rfl⟩
             have hgS:Gd S.1:=by rw [hS];exact hgd.sp (by rw [ksT_len,←He.out.2.1]) (fun t ht=>(ksT_32 _ _ t ht).1) (fun t ht=>(ksT_32 _ _ t ht).2)
             have hSn:S.1.n=T.n:=by rw [hS];rfl
             have hcm:cmT T fr z=S:=by rw [hS,He.out.2.1,He.out.2.2];rfl
             rw [←hS] at cS
             obtain ⟨c1,c2⟩:=cm_hash T fr z hgd
             rw [hcm] at c1
             have eS:lvT ss fr=⟨S.1.n,upn S.1.nd (2*z) (some (.lf (lfC fr S.2)))⟩:=by rw [He.out.1,hcm,hSn]
             have hno:∀ b,b=mb→∀ o,wr.cell? ⟨b,o,none⟩=none:=fun b e o=>by obtain ⟨f,h1,-⟩:=hTq.mp;rw [e];exact h1.nocell o
             have hg6:nr≤w6.heap.size:=Nat.le_trans h05 h56
             have hmbne:¬w6.heap.size=mb:=Nat.ne_of_gt (Nat.lt_of_lt_of_le hml6 hg6)
             have kq:=k6.still b6q
             have hqlt:w6.heap.size<wr.heap.size:=kq.lt
             have lq:=hl6.keep b6q
             have hzS:0≤z∧z<S.1.n:=by rw [hSn];exact ⟨Hq.out.2.2.1,Hq.out.2.2.2.1⟩
             have hbne:∀ b,(((okW w tb mb b∧b<nr)∨wr.heap.size≤b)∨b=tb∨b=mb)→b≠w6.heap.size:=fun b ho=>boxne ho hg6 hqlt htl6 hml6
             have hokq:∀ b,((okW w tb mb b∧b<nr)∨wr.heap.size≤b)→okW w tb mb b:=fun b ho=>ho.elim (fun h=>h.1) (fun h=>okq h hwr hg6 hqlt htl6 hml6)
             have HS:=Hid.mk' (And.intro eS (And.intro hgS (And.intro c1 hzS)))
             have Hno:=Hid.mk' (And.intro hno (And.intro hmbne (And.intro hbne hokq)))
             clear eS hgS c1 c2 hzS hno hmbne hbne hokq hS hSn hcm hgd kO hL hlt hqq hTq hT6 hT6w
             go_upto_region 10 with (first
              | (rw [←HW11.out])
              | (rw [←HW12.out])
              | (go_at_call 33;refine cS.mono ?_;clear cS;rintro e W10 ⟨sv,rfl,hsv,hT10,bt10⟩;(have hsb:=hsv.of);clear hsv;(have hs10:=bt10.size);(obtain ⟨xs,cs',rfl,-⟩:=hsb.src);(obtain ⟨W11,hW11⟩:∃ W,W=W10.setCell ⟨w6.heap.size,3,none⟩ (.int .i64 3):=⟨_,rfl⟩);(obtain ⟨W12,hW12⟩:∃ W,W=W11.setCell ⟨w6.heap.size,4,none⟩ (.slice xs S.2.n cs'):=⟨_,rfl⟩);(obtain ⟨p3,f3,p4,f4,k12,lf12,e12,s12,B12⟩:=stores6 (kq.but bt10 Hno.out.2.1) (lq.but6 bt10 Hno.out.1) hsb hW11 hW12);(have hT12:=hT10.same (Nat.le_of_eq s12.symm) (fun b _ ho=>e12 b (Hno.out.2.2.1 b ho)));(have cP:=tPutLeaf_yes _ tb mb S.1 HS.out.2.1.ok z _ _ W12 lf12 hT12 (lfC_R fr HS.out.2.2.1) HS.out.2.2.2);(have HW11:=Hid.mk' hW11);(have HW12:=Hid.mk' hW12);clear hW11 hW12 hT10 hT12 e12 hsb lf12)
              | ((with_reducible refine id (?_:wpList _ _ _ _ _ _));refine wpList_load_wd4 rfl 54 _ rfl w6.heap.size 0 rfl _ _ k12.range Tryz.underlying54 rfl (sz6 u0 u1 u2 _ _ u5) ?_)
              | (go_at_call 37;refine cP.mono ?_;clear cP;rintro e W13 ⟨rfl,hT13,bt13⟩)
              | (go_at_call 19;refine (num4_any _ _).mono ?_;rintro e wn ⟨rfl,hwn⟩;obtain rfl:=hwn.symm))
             go_wp2
             have z6:w.heap.size≤w6.heap.size:=Nat.le_trans hwr hg6
             have z12:w6.heap.size<W12.heap.size:=by rw [s12];exact Nat.lt_of_lt_of_le hqlt hs10
             refine ⟨⟨k+1,Nat.succ_le_of_lt Hlt.out,by rw [Hwk.out.1],by rw [He.out.2.2,Hfr.out],?_,((bwq.trans (bt10.below bwq.size (fun j hj=>by rw [hj];exact hmb))).trans (B12 _ z6)).trans (bt13.below (Nat.le_trans z6 (Nat.le_of_lt z12)) (fun j hj=>by rw [hj];exact hmb))⟩,by rw [Hwk.out.1];exact meas40 Hlt.out⟩
             rw [←Hfr.out,HS.out.1]
             exact TrAt.okW hT13 Hno.out.2.2.2 (Nat.le_trans z6 (Nat.le_of_lt z12)) ⟨Nat.lt_trans (Nat.lt_of_lt_of_le htl6 hg6) z12,Nat.lt_trans (Nat.lt_of_lt_of_le hml6 hg6) z12⟩
  · have hk2:k=min ss.length 40:=by omega
    by_cases h1:k<ss.length
    · have hl1:(k:Int)<(ss.length:Int):=by omega
      have hl2:¬(k:Int)<40:=by omega
      have Hk:=Hid.mk' hk2
      clear hk hlt hk2 h1
      go_wp2
      go_ret
      exact ⟨tb,rfl,htb,mb,hmb,by rw [←Hk.out];exact hTr,bw⟩
    · have hl1:¬(k:Int)<(ss.length:Int):=by omega
      have Hk:=Hid.mk' hk2
      clear hk hlt hk2 h1
      go_wp2
      go_ret
      exact ⟨tb,rfl,htb,mb,hmb,by rw [←Hk.out];exact hTr,bw⟩
end Go.Proofs.YtddkbmnkbfciaaaGreatDoor
namespace Go.Proofs.YtddkbmnkbfciaaaGreatDoor
open Go.RowKit
def inP7 (x u:Nat):Bool:=decide (x<2*u+2 ^ levN x) && decide (2*u<x+2 ^ levN x)
theorem bel_tab7:((List.range 127).all fun x=>(List.range 64).all fun u=>belB (x:Int) (u:Int) == inP7 x u)=true:=by decide +kernel
theorem bel_in {x u:Nat} (hx:x<127) (hu:u<64):belB (x:Int) (u:Int)=inP7 x u:=by
 have h:=List.all_eq_true.1 (List.all_eq_true.1 bel_tab7 x (List.mem_range.2 hx)) u (List.mem_range.2 hu)
 exact eq_of_beq h
theorem part_tab7:((List.range 127).all fun x=>x%2 == 0 || (decide (lftN x<127) && decide (rgtN x<127) && (List.range 64).all fun u=>inP7 x u == (inP7 (lftN x) u || inP7 (rgtN x) u)))=true:=by decide +kernel
theorem part_in {x:Nat} (hx:x<127) (ho:x%2=1):lftN x<127∧rgtN x<127∧∀ u,u<64→inP7 x u=(inP7 (lftN x) u || inP7 (rgtN x) u):=by
 have h:=List.all_eq_true.1 part_tab7 x (List.mem_range.2 hx)
 simp only [Bool.or_eq_true,beq_iff_eq,Bool.and_eq_true,decide_eq_true_eq] at h
 rcases h with h | ⟨⟨h1,h2⟩,h3⟩
 · omega
 · exact ⟨h1,h2,fun u hu=>by have:=List.all_eq_true.1 h3 u (List.mem_range.2 hu);exact eq_of_beq this⟩
theorem even_in {x u:Nat} (he:x%2=0) (h:inP7 x u=true):x=2*u:=by
 unfold inP7 at h
 rw [levN_even (by omega)] at h
 simp only [Bool.and_eq_true,decide_eq_true_eq] at h
 omega
def anc7 (i k:Nat):Nat:=i / 2 ^ k*2 ^ (k+1)+(2 ^ k - 1)
def sib7 (i k:Nat):Nat:=(if i / 2 ^ k%2=0 then i / 2 ^ k+1 else i / 2 ^ k - 1)*2 ^ (k+1)+(2 ^ k - 1)
def dep7 (n:Nat):Nat:=if n=1 then 0 else if n=2 then 1 else if n=4 then 2 else if n=8 then 3 else if n=16 then 4 else if n=32 then 5 else 6
def wids7:List Nat:=[1,2,4,8,16,32,64]
theorem wids_of {n:Nat} (h:mayB (n:Int)=true):n∈wids7:=by
 have:=mayB_cases h
 unfold wids7
 simp only [List.mem_cons,List.not_mem_nil,or_false]
 omega
theorem way_tab7:(wids7.all fun n=>(List.range n).all fun i=>pathL (i:Int) (n:Int) == (List.range (dep7 n)).map (fun k=>(anc7 i (k+1):Int)) && copathL (i:Int) (n:Int) == (List.range (dep7 n)).map (fun k=>(sib7 i k:Int)))=true:=by decide +kernel
theorem way_in {n i:Nat} (hn:n∈wids7) (hi:i<n):pathL (i:Int) (n:Int)=(List.range (dep7 n)).map (fun k=>(anc7 i (k+1):Int))∧copathL (i:Int) (n:Int)=(List.range (dep7 n)).map (fun k=>(sib7 i k:Int)):=by
 have h:=List.all_eq_true.1 (List.all_eq_true.1 way_tab7 n hn) i (List.mem_range.2 hi)
 simp only [Bool.and_eq_true,beq_iff_eq] at h
 exact h
def oth7 (x i:Nat):Nat:=if inP7 (lftN x) i then rgtN x else lftN x
theorem oth_tab7:(wids7.all fun n=>(List.range n).all fun i=>(List.range (dep7 n)).all fun k=>(anc7 i (k+1)%2 == 1 && decide (anc7 i (k+1)<2*n - 1)) && (oth7 (anc7 i (k+1)) i == sib7 i k && decide (sib7 i k<2*n - 1)))=true:=by decide +kernel
theorem oth_in {n i k:Nat} (hn:n∈wids7) (hi:i<n) (hk:k<dep7 n):(anc7 i (k+1)%2=1∧anc7 i (k+1)<2*n - 1)∧oth7 (anc7 i (k+1)) i=sib7 i k∧sib7 i k<2*n - 1:=by
 have h:=List.all_eq_true.1 (List.all_eq_true.1 (List.all_eq_true.1 oth_tab7 n hn) i (List.mem_range.2 hi)) k (List.mem_range.2 hk)
 simp only [Bool.and_eq_true,beq_iff_eq,decide_eq_true_eq] at h
 exact h
theorem once_tab7:(wids7.all fun n=>(List.range n).all fun i=>(List.range n).all fun u=>((List.range (dep7 n)).countP fun k=>inP7 (sib7 i k) u) == if u=i then 0 else 1)=true:=by decide +kernel
theorem once_in {n i u:Nat} (hn:n∈wids7) (hi:i<n) (hu:u<n):((List.range (dep7 n)).countP fun k=>inP7 (sib7 i k) u)=if u=i then 0 else 1:=by
 have h:=List.all_eq_true.1 (List.all_eq_true.1 (List.all_eq_true.1 once_tab7 n hn) i (List.mem_range.2 hi)) u (List.mem_range.2 hu)
 exact eq_of_beq h
theorem root_tab7:(wids7.all fun n=>(List.range n).all fun u=>inP7 (n - 1) u)=true:=by decide +kernel
theorem root_in {n u:Nat} (hn:n∈wids7) (hu:u<n):inP7 (n - 1) u=true:=List.all_eq_true.1 (List.all_eq_true.1 root_tab7 n hn) u (List.mem_range.2 hu)
end Go.Proofs.YtddkbmnkbfciaaaGreatDoor
namespace Go.Proofs.YtddkbmnkbfciaaaGreatDoor
open Go.RowKit
theorem bel_rng {x i:Int} (h:belB x i=true):(0≤x∧x<127)∧0≤i∧i<64:=by
 unfold belB at h
 by_cases e:x<0∨127≤x∨i<0∨64≤i
 · rw [if_pos e] at h;cases h
 · omega
theorem inn_odd {x:Nat} (hx:x<127) (ho:x%2=1):innB (x:Int)=true:=by
 unfold innB
 simp only [Bool.and_eq_true,decide_eq_true_eq]
 omega
theorem rso_low {T:Tr} {u:Nat} (hu:u<64) (hm:(T.nd (2*(u:Int))).isSome=true):∀ (f x:Nat),x<127→levN x<f→inP7 x u=true→∃ z,z∈rsoF T.nd f (x:Int)∧belB z (u:Int)=true
 | 0,x,_,hl,_=>absurd hl (Nat.not_lt_zero _)
 | f+1,x,hx,hl,h=>by
  have hb:belB (x:Int) (u:Int)=true:=by rw [bel_in hx hu];exact h
  unfold rsoF
  cases e:T.nd (x:Int) with
  | some d =>
   cases d with
   | lf d=>exact ⟨x,List.mem_singleton.2 rfl,hb⟩
   | pr p=>exact ⟨x,List.mem_cons_self ..,hb⟩
  | none =>
   by_cases ho:x%2=1
   · obtain ⟨h1,h2,h3⟩:=part_in hx ho
     have hin:=inn_odd hx ho
     have hp:=innB_parts hin
     rw [Int.toNat_natCast] at hp
     dsimp only
     rw [if_pos hin,Int.toNat_natCast]
     rw [h3 u hu,Bool.or_eq_true] at h
     rcases h with h | h
     · obtain ⟨z,hz,hb⟩:=rso_low hu hm f (lftN x) h1 (by omega) h
       exact ⟨z,List.mem_append_left _ hz,hb⟩
     · obtain ⟨z,hz,hb⟩:=rso_low hu hm f (rgtN x) h2 (by omega) h
       exact ⟨z,List.mem_append_right _ hz,hb⟩
   · have e2:=even_in (by omega) h
     subst e2
     rw [show ((2*u:Nat):Int)=2*(u:Int) by omega] at e
     rw [e] at hm
     cases hm
theorem rso_up {T:Tr} (hG:Gd T) {u:Nat} (hu:u<64):∀ (f x:Nat),x<127→∀ z,z∈rsoF T.nd f (x:Int)→belB z (u:Int)=true→inP7 x u=true
 | 0,_,_,z,hz,_=>by cases hz
 | f+1,x,hx,z,hz,hb=>by
  unfold rsoF at hz
  cases e:T.nd (x:Int) with
  | some d =>
   rw [e] at hz
   cases d with
   | lf d =>
    have:z=(x:Int):=List.mem_singleton.1 hz
    subst this
    rw [←bel_in hx hu];exact hb
   | pr p =>
    rcases List.mem_cons.1 hz with e2 | h2
    · subst e2
      rw [←bel_in hx hu];exact hb
    · obtain ⟨y,hy,rfl⟩:=List.mem_map.1 h2
      have h3:=hG.um _ _ e y hy
      have h4:=(bel_rng h3).2
      obtain ⟨m,rfl⟩:∃ m:Nat,y=(m:Int):=⟨y.toNat,by omega⟩
      have hm:m<64:=by omega
      rw [show 2*(m:Int)=((2*m:Nat):Int) by omega,bel_in (by omega) hu] at hb
      have:=even_in (by omega) hb
      obtain rfl:m=u:=by omega
      rw [←bel_in hx hu];exact h3
  | none =>
   rw [e] at hz
   dsimp only at hz
   by_cases ho:x%2=1
   · obtain ⟨h1,h2,h3⟩:=part_in hx ho
     rw [if_pos (inn_odd hx ho),Int.toNat_natCast] at hz
     rw [h3 u hu,Bool.or_eq_true]
     rcases List.mem_append.1 hz with h | h
     · exact .inl (rso_up hG hu f (lftN x) h1 z h hb)
     · exact .inr (rso_up hG hu f (rgtN x) h2 z h hb)
   · have hno:innB (x:Int)=false:=by
      unfold innB
      rw [show decide ((x:Int)%2=1)=false from decide_eq_false (by omega),Bool.and_false]
     rw [hno] at hz
     cases hz
theorem rso_any {T:Tr} (hG:Gd T) {u x:Nat} (hu:u<64) (hx:x<127) (hm:(T.nd (2*(u:Int))).isSome=true):((rso T (x:Int)).any fun z=>belB z (u:Int))=inP7 x u:=by
 cases h:inP7 x u with
 | true =>
  obtain ⟨z,hz,hb⟩:=rso_low (T:=T) hu hm 7 x hx (by have:=lev_le6 (y:=x) (by omega);omega) h
  exact List.any_eq_true.2 ⟨z,hz,hb⟩
 | false =>
  cases h2:(rso T (x:Int)).any fun z=>belB z (u:Int) with
  | false=>rfl
  | true =>
   obtain ⟨z,hz,hb⟩:=List.any_eq_true.1 h2
   rw [rso_up hG hu 7 x hx z hz hb] at h
   cases h
theorem at_map {d k:Nat} (g:Nat→Int) (hk:k<d):(((List.range d).map g)[k]?).getD 0=g k:=by simp [hk]
theorem filK_count {T:Tr} (hG:Gd T) {n i u:Nat} (hn:n∈wids7) (hi:i<n) (hu:u<64) (hm:(T.nd (2*(u:Int))).isSome=true):∀ m,m≤dep7 n→((filK T ((List.range (dep7 n)).map fun k=>(anc7 i (k+1):Int)) ((List.range (dep7 n)).map fun k=>(sib7 i k:Int)) m).countP fun p=>inP7 (oth7 p.toNat i) u)=(List.range m).countP fun k=>inP7 (sib7 i k) u
 | 0,_=>rfl
 | m+1,h=>by
  have ih:=filK_count hG hn hi hu hm m (by omega)
  obtain ⟨-,h2,h3⟩:=oth_in hn hi (k:=m) (by omega)
  have hn64:n≤64:=by
   unfold wids7 at hn
   simp only [List.mem_cons,List.not_mem_nil,or_false] at hn
   omega
  have ha:=rso_any hG (x:=sib7 i m) hu (by omega) hm
  unfold filK
  rw [at_map _ (show m<dep7 n by omega),at_map _ (show m<dep7 n by omega),List.countP_append,ih,List.range_succ,List.countP_append]
  congr 1
  cases he:(rso T (sib7 i m:Int)).isEmpty with
  | true =>
   rw [List.isEmpty_iff] at he
   rw [he] at ha
   have ha':inP7 (sib7 i m) u=false:=ha.symm
   simp [ha']
  | false =>
   simp [h2]
theorem fil_once {T:Tr} (hG:Gd T) {i u:Nat} (hi:i<T.n) (hu:u<T.n) (hm:(T.nd (2*(u:Int))).isSome=true):((filL T (i:Int)).countP fun p=>inP7 (oth7 p.toNat i) u)=if u=i then 0 else 1:=by
 have hn:=wids_of hG.ok.may
 have h64:=hG.ok.n64
 obtain ⟨e1,e2⟩:=way_in hn hi
 unfold filL
 rw [e1,e2,List.length_map,List.length_range,filK_count hG hn hi (by omega) hm _ (Nat.le_refl _)]
 exact once_in hn hi hu
theorem fil_mem {T:Tr} {n i:Nat} (xs:List Nat):∀ m p,p∈filK T ((List.range n).map fun k=>(anc7 i (k+1):Int)) (xs.map fun k=>(sib7 i k:Int)) m→m≤n→∃ k,k<n∧p=(anc7 i (k+1):Int)
 | 0,_,h,_=>by cases h
 | m+1,p,h,hm=>by
  unfold filK at h
  rcases List.mem_append.1 h with h | h
  · exact fil_mem xs m p h (by omega)
  · rw [at_map _ (show m<n by omega)] at h
    split at h
    · cases h
    · exact ⟨m,by omega,List.mem_singleton.1 h⟩
theorem fil_at {T:Tr} (hG:Gd T) {i z:Nat} {p:Int} (hi:i<T.n) (h:(filL T (i:Int))[z]? = some p):∃ x:Nat,p=(x:Int)∧x%2=1∧x<127∧oth7 x i<2*T.n - 1:=by
 have hn:=wids_of hG.ok.may
 have h64:=hG.ok.n64
 obtain ⟨e1,e2⟩:=way_in hn hi
 have hp:=List.mem_of_getElem? h
 unfold filL at hp
 rw [e1,e2,List.length_map,List.length_range] at hp
 obtain ⟨k,hk,rfl⟩:=fil_mem (List.range (dep7 T.n)) _ p hp (Nat.le_refl _)
 obtain ⟨⟨h1,h2⟩,h3,h4⟩:=oth_in hn hi hk
 exact ⟨_,rfl,h1,by omega,by rw [h3];exact h4⟩
end Go.Proofs.YtddkbmnkbfciaaaGreatDoor
