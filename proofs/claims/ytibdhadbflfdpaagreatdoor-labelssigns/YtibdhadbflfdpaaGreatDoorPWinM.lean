/- What the proof stands on: PWin, PAcc, PTms, RootApi. -/
import Derived.Test.YtibdhadbflfdpaaGreatDoorPEncM
import Derived.Test.YtibdhadbflfdpaaGreatDoorPtBM
import Derived.Test.YtibdhadbflfdpaaGreatDoorRRatioA
import Derived.ScopeJumps
import Derived.WalkMore
namespace Go.Proofs.YtibdhadbflfdpaaGreatDoor
open Nat renaming le_refl → JW
open Go renaming wpAnyH_ready → J1
open Go renaming wpList_store_mid → J2
open Go renaming wpList_load_mid → J3
open Go.AllReadyH renaming nil → J6
open Go.AllReadyH renaming cons → J7
open Go.NoPanic renaming normal → J8
open Go.RowKit
set_option maxRecDepth 20000 in
set_option maxHeartbeats 16000000 in
theorem wM {p:N4} {P:Fp × Fp} (hp:W6 p P) (w:World) :
 Calls Tryz.prog 155 #[.agg (aw p.X p.Y p.Z p.T).toArray] w fun e w'=>∃ f:Nat→N4,e = .returned (.agg (fT f).toArray)∧(∀ j,j<16→W6 (f j) (cK dE j P))∧Below w.heap.size w w':=by
 have hzp:=eF;have hzt:=Bw
 have cz:∀ W,Calls Tryz.prog 208 #[] W fun e w'=>e = .returned (.agg (aw 0 0 0 0).toArray)∧Below W.heap.size W w':=uo
 have cw:∀ W,Calls Tryz.prog 95 #[.agg (aw 0 0 0 0).toArray] W fun e w'=>∃ r:N4,e = .returned (.agg (aw r.X r.Y r.Z r.T).toArray)∧W6 r dR∧Below W.heap.size W w':=fun W=>eK gX W
 have ca:∀ (q:N4) (Q:Fp × Fp),W6 q Q→∀ W,Calls Tryz.prog 115 #[.agg (aw q.X q.Y q.Z q.T).toArray,.agg (aw p.X p.Y p.Z p.T).toArray] W fun e w'=>∃ r:N4,e = .returned (.agg (aw r.X r.Y r.Z r.T).toArray)∧W6 r (dc dE Q P)∧Below W.heap.size W w':=fun q Q hq W=>td hq hp W
 obtain ⟨V1,g1,eg1,hg1,bg1,hq⟩:∃ V g,w.alloc (.cells (aw p.X p.Y p.Z p.T).toArray 77)=V∧w.heap.size=g∧Below w.heap.size w V∧RW V g 0 (aw p.X p.Y p.Z p.T):=⟨_,_,rfl,rfl,(Below.refl _ _).alloc (JW _) _,RW.fresh w _ _⟩
 obtain ⟨V2,g2,eg2,hg2,bg2,hres⟩:=wR V1;obtain ⟨W,g3,eg3,hg3,bg3,htab⟩:=wR V2
 have t1:V1.heap.size=w.heap.size+1:=by rw [←eg1];simp
 have t2:V2.heap.size=V1.heap.size+1:=by rw [←eg2];simp
 have HW:Hid (W=((w.alloc (.cells (aw p.X p.Y p.Z p.T).toArray 77)).alloc (.cells GV 178)).alloc (.cells GV 178)):=Hid.mk' (by rw [←eg3,←eg2,←eg1]);have q1:Hid (w.heap.size=g1):=Hid.mk' hg1;have q2:Hid (w.heap.size+1=g2):=Hid.mk' (by omega);have q3:Hid (w.heap.size+1+1=g3):=Hid.mk' (by omega);replace hq:=(hq.still bg2).still bg3;replace hres:=hres.still bg3;have hbW:Below w.heap.size w W:=(bg1.trans (bg2.mono (by omega))).trans (bg3.mono (by omega))
 have w2l:w.heap.size≤g2:=by omega
 have w3l:w.heap.size≤g3:=by omega
 have n12:g1≠g2:=by omega
 have n13:g1≠g3:=by omega
 have n23:g2≠g3:=by omega
 clear eg1 eg2 eg3 hg1 hg2 hg3 bg1 bg2 bg3 t1 t2 V1 V2;go_enter Tryz.func155,Tryz.ntmps155
 go_upto_region 3 with (first
  | (go_at_call 208;rw [←HW.out,q3.out,q2.out,q1.out];refine (cz _).mono ?_;clear cz HW q1 q2 q3;rintro e w1 ⟨rfl,hb1⟩;(replace hq:=hq.still hb1);(replace hres:=hres.still hb1);(replace htab:=htab.still hb1);(replace hbW:=aa hbW hb1);clear hb1)
  | (go_at_call 95;refine (cw _).mono ?_;clear cw;rintro e w2 ⟨r,rfl,hr,hb2⟩;(replace hq:=hq.still hb2);(replace hres:=hres.still hb2);(replace htab:=htab.still hb2);(replace hbW:=aa hbW hb2);clear hb2;(have t0:w2.there g3 0 (aw r.X r.Y r.Z r.T).toArray.size:=(htab 0 (by decide)).there);(obtain ⟨V4,hV4⟩:∃ V,V=w2.setCells g3 0 (aw r.X r.Y r.Z r.T):=⟨_,rfl⟩);(replace htab:pK V4 g3 (xJ (fun _=>⟨0,0,0,0⟩) 0 r):=by rw [hV4];exact htab.set (i:=0) (by decide) r);(replace hq:=hq.far g3 0 (aw r.X r.Y r.Z r.T) (.inl n13));(replace hres:=hres.far g3 0 (aw r.X r.Y r.Z r.T) n23);(replace hbW:=ac w3l (aw r.X r.Y r.Z r.T) 0 _ hbW);rw [←hV4] at hq hres hbW;(have H4:=Hid.mk' hV4);clear hV4)
  | (with_reducible (refine id (?_:wpList _ _ _ _ _ _));refine J2 rfl 77 _ _ rfl g3 0 (aw r.X r.Y r.Z r.T).toArray rfl rfl t0 (a7 _ _ _ _) (bJ _ _ _ _) ?_;rw [List.toList_toArray,←H4.out];clear t0 H4))
 (try dsimp only [Act.put]);go_wp2;go_loopw [4] (fun i wr=>∃ (k:Nat) (f:Nat→N4),1≤k∧k≤16∧i = .int .i64 (k:Int)∧(∀ j,j<k→W6 (f j) (cK dE j P))∧RW wr g1 0 (aw p.X p.Y p.Z p.T)∧pK wr g2 (fun _=>⟨0,0,0,0⟩)∧pK wr g3 f∧Below w.heap.size w wr) (fun i _=>17 - (intOf i).toNat)
 case atStart=>exact ⟨1,_,JW _,by decide,rfl,fun j hj=>by rw [show j=0 by omega];exact hr,hq,hres,htab,hbW⟩
 case round =>
  obtain ⟨k,f,hk1,hk2,rfl,hf,kq,kres,ktab,kb⟩:=hrel;clear hq hres htab hbW hr
  by_cases hlt:k<16
  · have e1:((k:Int)<16):=by omega
    have hrow:=ktab (k - 1) (by omega);have hcell:=ktab k hlt
    have e2:IntKind.i64.wrap ((k:Int) - 1)=((k - 1:Nat):Int):=by simp only [IntKind.wrap_i64];omega
    have e3:¬(((k - 1:Nat):Int)<0):=by omega
    have e4:((k - 1:Nat):Int)<16:=by omega
    have e5:((k - 1:Nat):Int).toNat=k - 1:=by omega
    have e6:¬((k:Int)<0):=by omega
    have e7:(k:Int).toNat=k:=by omega
    have hup:∀ x:N4,W6 x (dc dE (cK dE (k - 1) P) P)→∀ j,j<k+1→W6 (xJ f k x j) (cK dE j P):=fun x hx j hj=>by
     unfold xJ
     by_cases e:j=k
     · rw [if_pos e,e]
       have:cK dE k P=dc dE (cK dE (k - 1) P) P:=by
        obtain ⟨m,rfl⟩:∃ m,k=m+1:=⟨k - 1,by omega⟩
        rfl
       rw [this];exact hx
     · rw [if_neg e];exact hf j (by omega)
    have ca2:=ca (f (k - 1)) _ (hf (k - 1) (by omega))
    go_upto_region 6 with (fail)
    clear hf hp ca;have hdrew:Below wr.heap.size wr wr.drew:=(Below.refl _ _).drew;replace kq:=kq.still hdrew;replace kres:=kres.still hdrew;replace ktab:=ktab.still hdrew;replace hrow:=hrow.still hdrew;replace hcell:=hcell.still hdrew;refine wp_region_noPanic ?_;refine wp_region_held_drew (S:=fun _=>True) (by kernel_rfl) trivial (fun _ => ?_);replace kb:=aa kb hdrew;generalize wr.drew=Vn_ at *;refine wpAnyH_take (i:=0) (oi:=oN 12 (Op.move (oT 4)) 3 "curve.go:78" #[]) (v := ?vn_1) rfl (by kernel_rfl) (by kernel_rfl) (by kernel_rfl) (fun _ _ _ h=>h) (Or.inl ⟨by rfl,?hn_1⟩) trivial ?rn_1
    case hn_1 =>
     intro w hSw;go_simp
     try with_reducible rfl
    (try simp only [pS]);refine wpAnyH_take (i:=1) (oi:=oN 13 (Op.move (oT 4)) 3 "curve.go:78" #[]) (v := ?vn_2) rfl (by kernel_rfl) (by kernel_rfl) (by kernel_rfl) (fun _ _ _ h=>h) (Or.inl ⟨by rfl,?hn_2⟩) trivial ?rn_2
    case hn_2 =>
     intro w hSw;go_simp
     try with_reducible rfl
    (try simp only [pS]);refine wpAnyH_take (i:=2) (oi:=oN 14 (Op.binOp BinOp.sub 3 (oT 13) (Operand.const (Value.int IntKind.i64 1)) 3) 3 "curve.go:78" #[jD 1]) (v := ?vn_3) rfl (by kernel_rfl) (by kernel_rfl) (by kernel_rfl) (fun _ _ _ h=>h) (Or.inl ⟨by rfl,?hn_3⟩) trivial ?rn_3
    case hn_3 =>
     intro w hSw;go_simp
     try with_reducible rfl
    (try simp only [pS]);refine wpAnyH_take (i:=3) (oi:=oN 15 (Op.indexAddr 178 (oT 3) (oT 14)) 0 "curve.go:78" #[jD 2]) (v := ?vn_4) rfl (by kernel_rfl) (by kernel_rfl) (by kernel_rfl) (fun _ _ _ h=>h) (Or.inl ⟨by rfl,?hn_4⟩) trivial ?rn_4
    case hn_4 =>
     intro w hSw;go_simp
     try with_reducible rfl
    (try simp only [pS]);refine J1 (rs:=[4,5]) (by kernel_rfl) (by simp) ?_;refine J7 (o:=oN 16 (Op.load 77 (oT 15)) 77 "curve.go:78" #[jD 3]) rfl (fun K hK => ?_) (J7 (o:=oN 17 (Op.load 77 (oT 1)) 77 "curve.go:78" #[]) rfl (fun K hK => ?_) (J6))
    · rw [if_pos (by rfl)]
      refine wp_load_mid 77 _ rfl g3 ((k - 1)*16) rfl (aw (f (k - 1)).X (f (k - 1)).Y (f (k - 1)).Z (f (k - 1)).T) _ hrow.range Tryz.underlying77 rfl (bi _ _ _ _) ?_;refine hK.out _ _ trivial (fun h => ?_);clear h hK K;rw [show Value.agg (aw (f (k - 1)).X (f (k - 1)).Y (f (k - 1)).Z (f (k - 1)).T).toArray = .agg (aw (f (k - 1)).X (f (k - 1)).Y (f (k - 1)).Z (f (k - 1)).T).toArray from rfl];(try simp only [pS]);refine J1 (rs:=[5]) (by kernel_rfl) (by simp) ?_;refine J7 (o:=oN 17 (Op.load 77 (oT 1)) 77 "curve.go:78" #[]) rfl (fun K hK => ?_) (J6);rw [if_pos (by rfl)];refine wp_load_mid 77 _ rfl g1 0 rfl (aw p.X p.Y p.Z p.T) _ kq.range Tryz.underlying77 rfl (bi _ _ _ _) ?_;refine hK.out _ _ trivial (fun h => ?_);clear h hK K;rw [show Value.agg (aw p.X p.Y p.Z p.T).toArray = .agg (aw p.X p.Y p.Z p.T).toArray from rfl];(try simp only [pS]);refine J1 (rs:=[6]) (by kernel_rfl) (by simp) ?_;refine J7 (o:=oN 18 (dA 115 #[oT 16,oT 17] #[77,77]) 77 "curve.go:78" #[jD 4,jD 5]) rfl (fun K hK => ?_) (J6);go_simp;(go_at_call 115;refine (ca2 _).mono ?_;clear ca2;rintro e wn_7 ⟨x,rfl,hx,hb9⟩;(replace kq:=kq.still hb9);(replace kres:=kres.still hb9);(replace ktab:=ktab.still hb9);(replace hcell:=hcell.still hb9);(replace kb:=aa kb hb9);clear hb9);(try go_simp);refine hK.out _ _ trivial (fun h => ?_);clear h hK K;(try simp only [pS]);refine wpAnyH_take (i:=7) (oi:=oN 19 (Op.indexAddr 178 (oT 3) (oT 12)) 0 "curve.go:78" #[jD 0,jP 0,jP 1,jP 2,jP 3,jP 4,jP 5,jP 6]) (v := ?vn_8) rfl (by kernel_rfl) (by kernel_rfl) (by kernel_rfl) (fun _ _ _ h=>h) (Or.inl ⟨by rfl,?hn_8⟩) trivial ?rn_8
      case hn_8 =>
       intro w hSw;go_simp
       try with_reducible rfl
      (try simp only [pS]);refine J1 (rs:=[8]) (by kernel_rfl) (by simp) ?_;refine J7 (o:=oS (Op.store 77 (oT 19) (oT 18)) "curve.go:78" #[jD 7,jD 6,jC 6,jP 0,jP 1,jP 2,jP 3,jP 4,jP 5,jP 6]) rfl (fun K hK => ?_) (J6);rw [if_pos (by rfl)];refine wp_store_mid 77 _ _ rfl g3 (k*16) (aw x.X x.Y x.Z x.T).toArray rfl rfl hcell.there (a7 _ _ _ _) (bJ _ _ _ _) ?_;have On_9:=aT.setCells (b:=g3) (o:=(k*16)) (n:=(aw x.X x.Y x.Z x.T).length) wn_7 (aw x.X x.Y x.Z x.T) (JW _) (JW _);replace kres:=kres.far g3 (k*16) (aw x.X x.Y x.Z x.T) n23;replace ktab:=ktab.set hlt x;replace kb:=ac w3l (aw x.X x.Y x.Z x.T) (k*16) _ kb;replace hcell:=hcell.stored (aw x.X x.Y x.Z x.T) rfl;replace kq:=kq.far g3 (k*16) (aw x.X x.Y x.Z x.T) (.inl n13)
      obtain ⟨wn_9,hwn_9⟩:∃ W,wn_7.setCells g3 (k*16) (aw x.X x.Y x.Z x.T)=W:=⟨_,rfl⟩
      rw [hwn_9] at kq;rw [hwn_9] at hcell;rw [hwn_9] at On_9;rw [hwn_9] at kres ktab kb;rw [show wn_7.setCells g3 (k*16) (aw x.X x.Y x.Z x.T).toArray.toList=wn_9 from hwn_9];refine hK.out _ _ trivial (fun h => ?_);clear h hK K hwn_9;(try dsimp only [Act.put]);refine wpAnyH_done (by kernel_rfl) ?_ _;refine J8 ?_;go_wp2;go_roundw
      case rel=>exact ⟨k+1,xJ f k x,by omega,by omega,by go_num,fun j hj=>hup x hx j hj,kq,kres,ktab,kb⟩
      case measure=>simp [intOf];omega
    · rw [if_pos (by rfl)]
      refine wp_load_mid 77 _ rfl g1 0 rfl (aw p.X p.Y p.Z p.T) _ kq.range Tryz.underlying77 rfl (bi _ _ _ _) ?_;refine hK.out _ _ trivial (fun h => ?_);clear h hK K;rw [show Value.agg (aw p.X p.Y p.Z p.T).toArray = .agg (aw p.X p.Y p.Z p.T).toArray from rfl];(try simp only [pS]);refine J1 (rs:=[4]) (by kernel_rfl) (by simp) ?_;refine J7 (o:=oN 16 (Op.load 77 (oT 15)) 77 "curve.go:78" #[jD 3]) rfl (fun K hK => ?_) (J6);rw [if_pos (by rfl)];refine wp_load_mid 77 _ rfl g3 ((k - 1)*16) rfl (aw (f (k - 1)).X (f (k - 1)).Y (f (k - 1)).Z (f (k - 1)).T) _ hrow.range Tryz.underlying77 rfl (bi _ _ _ _) ?_;refine hK.out _ _ trivial (fun h => ?_);clear h hK K;rw [show Value.agg (aw (f (k - 1)).X (f (k - 1)).Y (f (k - 1)).Z (f (k - 1)).T).toArray = .agg (aw (f (k - 1)).X (f (k - 1)).Y (f (k - 1)).Z (f (k - 1)).T).toArray from rfl];(try simp only [pS]);refine J1 (rs:=[6]) (by kernel_rfl) (by simp) ?_;refine J7 (o:=oN 18 (dA 115 #[oT 16,oT 17] #[77,77]) 77 "curve.go:78" #[jD 4,jD 5]) rfl (fun K hK => ?_) (J6);go_simp;(go_at_call 115;refine (ca2 _).mono ?_;clear ca2;rintro e wn_12 ⟨x,rfl,hx,hb9⟩;(replace kq:=kq.still hb9);(replace kres:=kres.still hb9);(replace ktab:=ktab.still hb9);(replace hcell:=hcell.still hb9);(replace kb:=aa kb hb9);clear hb9);(try go_simp);refine hK.out _ _ trivial (fun h => ?_);clear h hK K;(try simp only [pS]);refine wpAnyH_take (i:=7) (oi:=oN 19 (Op.indexAddr 178 (oT 3) (oT 12)) 0 "curve.go:78" #[jD 0,jP 0,jP 1,jP 2,jP 3,jP 4,jP 5,jP 6]) (v := ?vn_13) rfl (by kernel_rfl) (by kernel_rfl) (by kernel_rfl) (fun _ _ _ h=>h) (Or.inl ⟨by rfl,?hn_13⟩) trivial ?rn_13
      case hn_13 =>
       intro w hSw;go_simp
       try with_reducible rfl
      (try simp only [pS]);refine J1 (rs:=[8]) (by kernel_rfl) (by simp) ?_;refine J7 (o:=oS (Op.store 77 (oT 19) (oT 18)) "curve.go:78" #[jD 7,jD 6,jC 6,jP 0,jP 1,jP 2,jP 3,jP 4,jP 5,jP 6]) rfl (fun K hK => ?_) (J6);rw [if_pos (by rfl)];refine wp_store_mid 77 _ _ rfl g3 (k*16) (aw x.X x.Y x.Z x.T).toArray rfl rfl hcell.there (a7 _ _ _ _) (bJ _ _ _ _) ?_;have On_14:=aT.setCells (b:=g3) (o:=(k*16)) (n:=(aw x.X x.Y x.Z x.T).length) wn_12 (aw x.X x.Y x.Z x.T) (JW _) (JW _);replace kres:=kres.far g3 (k*16) (aw x.X x.Y x.Z x.T) n23;replace ktab:=ktab.set hlt x;replace kb:=ac w3l (aw x.X x.Y x.Z x.T) (k*16) _ kb;replace hcell:=hcell.stored (aw x.X x.Y x.Z x.T) rfl;replace kq:=kq.far g3 (k*16) (aw x.X x.Y x.Z x.T) (.inl n13)
      obtain ⟨wn_14,hwn_14⟩:∃ W,wn_12.setCells g3 (k*16) (aw x.X x.Y x.Z x.T)=W:=⟨_,rfl⟩
      rw [hwn_14] at kq;rw [hwn_14] at hcell;rw [hwn_14] at On_14;rw [hwn_14] at kres ktab kb;rw [show wn_12.setCells g3 (k*16) (aw x.X x.Y x.Z x.T).toArray.toList=wn_14 from hwn_14];refine hK.out _ _ trivial (fun h => ?_);clear h hK K hwn_14;(try dsimp only [Act.put]);refine wpAnyH_done (by kernel_rfl) ?_ _;refine J8 ?_;go_wp2;go_roundw
      case rel=>exact ⟨k+1,xJ f k x,by omega,by omega,by go_num,fun j hj=>hup x hx j hj,kq,kres,ktab,kb⟩
      case measure=>simp [intOf];omega
  · obtain rfl:k=16:=by omega
    have e1:¬(((16:Nat):Int)<16):=by omega
    have krow:=ktab.row;have kr2:=kres.row
    have t2:wr.there g2 0 (fT f).toArray.size:=by
     have:=kr2.there;rw [di] at this;rw [List.size_toArray,di];exact this
    go_wp2_with (first
     | (refine J3 rfl 178 _ rfl g3 0 rfl (fT f) _ krow.range Tryz.underlying178 rfl (FG _) ?_)
     | (with_reducible (refine id (?_:wpList _ _ _ _ _ _));refine J2 rfl 178 _ _ rfl g2 0 (fT f).toArray rfl rfl t2 (BH _) (IF _) ?_))
    (try simp only [Exit.inBlock,Exit.then]);exact bodyPost_ret (ai Tryz.results155 _ _ g2 0 (fT f) _ rfl (kr2.stored (fT f) (by rw [di,di])).range Tryz.underlying178 rfl (FG _)) rfl ⟨f,rfl,hf,ac w2l _ _ _ kb⟩
def uU (ks:Nat→Nat) (b:Nat):Nat:=ks (b / 8) / 2 ^ (b%8)%16
def gU (ks:Nat→Nat):Nat→Nat
 | 0=>0
 | j+1=>if (255 - j)%4=0 then 2*gU ks j+uU ks (255 - j) else 2*gU ks j
theorem z7 {M k r:Nat} (hM:M%256=k) (hr:r=0∨r=4):M / 2 ^ r%16=k / 2 ^ r%16:=by
 rcases hr with rfl | rfl
 · rw [Nat.pow_zero,Nat.div_one,Nat.div_one];omega
 · rw [show 2 ^ 4=16 from rfl];omega
theorem Iu {ks:Nat→Nat} (hk:∀ j,ks j<256) {b:Nat} (hb:b<256) (h4:b%4=0):uU ks b=aK ks 32 / 2 ^ b%16:=by
 unfold uU;have h:=fD ks hk 32 (b / 8) (by omega);unfold bf at h
 have e:2 ^ b=256 ^ (b / 8)*2 ^ (b%8):=by
  rw [show (256:Nat)=2 ^ 8 from rfl,←Nat.pow_mul,←Nat.pow_add,show 8*(b / 8)+b%8=b by omega]
 rw [e,←Nat.div_div_eq_div_mul];exact (z7 h (by omega)).symm
theorem vF {ks:Nat→Nat} (hk:∀ j,ks j<256):∀ m,m≤64→gU ks (4*m)=aK ks 32 / 2 ^ (256 - 4*m)
 | 0,_=>by
  have:=dY ks hk 32;show 0=_;rw [Nat.div_eq_of_lt];exact Nat.lt_of_lt_of_le this (by decide)
 | m+1,h=>by
  have ih:=vF hk m (by omega);have d:=Iu hk (b:=255 - (4*m+3)) (by omega) (by omega);rw [show 4*(m+1)=4*m+3+1 by omega];unfold gU;rw [if_pos (by omega)];unfold gU;rw [if_neg (by omega)];unfold gU;rw [if_neg (by omega)];unfold gU;rw [if_neg (by omega),ih,d,show 256 - 4*m=(252 - 4*m)+4 by omega,show 255 - (4*m+3)=252 - 4*m by omega,show 256 - (4*m+3+1)=252 - 4*m by omega,Nat.pow_add,←Nat.div_div_eq_div_mul];generalize aK ks 32 / 2 ^ (252 - 4*m)=M;rw [show 2 ^ 4=16 from rfl];omega
theorem yi {ks:Nat→Nat} (hk:∀ j,ks j<256):gU ks 256=aK ks 32:=by
 have:=vF hk 64 (by decide);rw [show 4*64=256 from rfl,Nat.sub_self,Nat.pow_zero,Nat.div_one] at this;exact this
theorem Gm (ks:Nat→Nat) (b:Nat):uU ks b<16:=Nat.mod_lt _ (by decide)
theorem yf {P:Fp × Fp} (hP:On dE P) (ks:Nat→Nat) (j:Nat):dc dE (cK dE (gU ks j) P) (cK dE (gU ks j) P)=cK dE (2*gU ks j) P:=by rw [←lB gG hP,Nat.two_mul]
theorem uS {ks:Nat→Nat} {j:Nat} (h:¬(255 - j)%4=0):gU ks (j+1)=2*gU ks j:=by
 show (if (255 - j)%4=0 then _ else _)=_;rw [if_neg h]
theorem BJ {ks:Nat→Nat} {j:Nat} (h:(255 - j)%4=0):gU ks (j+1)=2*gU ks j+uU ks (255 - j):=by
 show (if (255 - j)%4=0 then _ else _)=_;rw [if_pos h]
theorem Bq {ks:Nat→Nat} (hlt:∀ q,ks q<256) (b:Nat):bits .and .u8 ((ks (b / 8):Int) / 2 ^ (b%8)) 15=((uU ks b:Nat):Int):=by
 unfold uU
 have e:((ks (b / 8):Int) / 2 ^ (b%8))=((ks (b / 8) / 2 ^ (b%8):Nat):Int):=by simp
 have hb:ks (b / 8) / 2 ^ (b%8)<256:=Nat.lt_of_le_of_lt (Nat.div_le_self _ _) (hlt _);rw [e,show (15:Int)=((15:Nat):Int) from rfl,u8_and_nat _ 15 hb (by decide)];generalize ks (b / 8) / 2 ^ (b%8)=v;congr 1;exact Nat.and_two_pow_sub_one_eq_mod v 4
set_option maxRecDepth 20000 in
set_option maxHeartbeats 16000000 in
theorem Cw {c:List Value} {P:Fp × Fp} (hP:R6 c P) (v:Value) (ks:Nat→Nat) (hks:∀ j,ks j<256) (w:World) (hv:ae w v 32 ks) :
 Calls Tryz.prog 91 #[.agg c.toArray,v] w fun e w'=>∃ c',e = .returned (.tuple #[.agg c'.toArray,.int .i64 0])∧R6 c' (cK dE (aK ks 32) P)∧Below w.heap.size w w':=by
 have hzp:=eF;have hzt:=Bw;have hon:=hP.on;have lc:=hP.len
 have kc:=fun W=>eK hP W
 have kw:∀ (r:N4),W6 r P→∀ W,Calls Tryz.prog 155 #[.agg (aw r.X r.Y r.Z r.T).toArray] W fun e w'=>∃ f:Nat→N4,e = .returned (.agg (fT f).toArray)∧(∀ j,j<16→W6 (f j) (cK dE j P))∧Below W.heap.size W w':=fun r hr W=>wM hr W
 have kt:∀ (t:N4) (Q:Fp × Fp),W6 t Q→∀ W,Calls Tryz.prog 156 #[.agg (aw t.X t.Y t.Z t.T).toArray] W fun e w'=>∃ r:N4,e = .returned (.agg (aw r.X r.Y r.Z r.T).toArray)∧W6 r (dc dE Q Q)∧Below W.heap.size W w':=fun t Q ht W=>Ad ht W
 have ka:∀ (t s:N4) (Q S:Fp × Fp),W6 t Q→W6 s S→∀ W,Calls Tryz.prog 115 #[.agg (aw t.X t.Y t.Z t.T).toArray,.agg (aw s.X s.Y s.Z s.T).toArray] W fun e w'=>∃ r:N4,e = .returned (.agg (aw r.X r.Y r.Z r.T).toArray)∧W6 r (dc dE Q S)∧Below W.heap.size W w':=fun t s Q S ht hs W=>td ht hs W
 obtain ⟨bb,ob,cap,hsl,hlb,hcap,hcl⟩:∃ bb ob cap,v = .slice (some ⟨bb,ob,none⟩) 32 cap∧bb<w.heap.size∧32≤cap∧∀ j,j<32→w.cell? ⟨bb,ob+j,none⟩=some (.int .u8 (ks j)):=hv.resolve_left (fun ⟨_,_,h⟩=>by omega);subst hsl
 obtain ⟨V1,g2,eg2,hg2,bg2,hc⟩:∃ V g,w.alloc (.cells c.toArray 77)=V∧w.heap.size=g∧Below w.heap.size w V∧RW V g 0 c:=⟨_,_,rfl,rfl,(Below.refl _ _).alloc (JW _) _,RW.fresh w _ _⟩
 obtain ⟨W,g4,eg4,hg4,bg4,hres⟩:=dM V1
 have t1:V1.heap.size=w.heap.size+1:=by rw [←eg2];simp
 have HW:Hid (W=(w.alloc (.cells c.toArray 77)).alloc (.cells zP 77)):=Hid.mk' (by rw [←eg4,←eg2]);have q2:Hid (w.heap.size=g2):=Hid.mk' hg2;have q4:Hid (w.heap.size+1=g4):=Hid.mk' (by omega);replace hc:=hc.still bg4;have hbW:Below w.heap.size w W:=bg2.trans (bg4.mono (by omega))
 have w4l:w.heap.size≤g4:=by omega
 clear eg2 eg4 hg2 hg4 bg2 bg4 t1 V1 hP hv;go_enter Tryz.func91,Tryz.ntmps91;go_wp2;rw [←HW.out,q4.out,q2.out];clear HW q2 q4;refine wp_scope_jumps 0 (fun a' wr=>∃ (j:Nat) (t:N4) (f:Nat→N4) (g6 g7:Nat) (u9 u10 u11 u12 u13 u14 u15 u16 u17 u18 u19 u20 u21 u22 u23 u24 u25 u26 u27 u28 u29 u30 u31 u32 u33 u34 u35 u36 u37 u38 u39 u40 u41 u42 u43:Value),a'={ tmps:=#[.agg c.toArray,.slice (some ⟨bb,ob,none⟩) 32 cap,.pointer (some ⟨g2,0,none⟩),undef,.pointer (some ⟨g4,0,none⟩),.int .i64 0,.pointer (some ⟨g6,0,none⟩),.pointer (some ⟨g7,0,none⟩),.int .i64 (256 - (j:Int)),u9,u10,u11,u12,u13,u14,u15,u16,u17,u18,u19,u20,u21,u22,u23,u24,u25,u26,u27,u28,u29,u30,u31,u32,u33,u34,u35,u36,u37,u38,u39,u40,u41,u42,u43],defers:=[] }∧1≤j∧j≤255∧W6 t (cK dE (gU ks j) P)∧(∀ i,i<16→W6 (f i) (cK dE i P))∧RW wr g4 0 (aw 0 0 0 0)∧pK wr g6 f∧RW wr g7 0 (aw t.X t.Y t.Z t.T)∧g6≠g7∧g4≠g7∧w.heap.size≤g7∧Below w.heap.size w wr) (fun a' _=>(intOf (a'.tmps.getD 8 undef)).toNat) rfl ?_ ?_
 · go_wp2_with (first
    | (refine J3 rfl 77 _ rfl g2 0 rfl c _ hc.range Tryz.underlying77 rfl (fX lc) ?_)
    | (go_at_call 95;refine (kc _).mono ?_;clear kc;rintro e w1 ⟨r,rfl,hr,hb1⟩;(replace hres:=hres.still hb1);(replace hbW:=aa hbW hb1);clear hb1 hc;(have kw2:=kw r hr);clear kw)
    | (go_at_call 155;refine (kw2 _).mono ?_;clear kw2;rintro e w2 ⟨f,rfl,hf,hb2⟩;(replace hres:=hres.still hb2);(replace hbW:=aa hbW hb2);clear hb2;(obtain ⟨A2,g6,eA,hg6,bA,hT⟩:=wR w2);(have l4:=hres.lt);(have hT0:=hT.row);(have t6:(w2.alloc (.cells GV 178)).there w2.heap.size 0 (fT f).toArray.size:=by (rw [eA,hg6,List.size_toArray,di];(have hh:=hT0.there);rw [di] at hh;exact hh));(obtain ⟨V2,hV2⟩:∃ V,V=(w2.alloc (.cells GV 178)).setCells w2.heap.size 0 (fT f):=⟨_,rfl⟩);(have htab:pK V2 g6 f:=by (rw [hV2,eA,hg6];exact pK.of (hT0.stored (fT f) (by rw [di,di]))));(have bV:Below w2.heap.size w2 V2:=by (rw [hV2];exact ac (JW _) _ _ _ ((Below.refl _ _).alloc (JW _) _)));(have H2:=Hid.mk' hV2);(have Q6:=Hid.mk' hg6);(have n46:g4≠g6:=by omega);clear hV2 eA bA hT hT0 hg6 l4;(replace hres:=hres.still bV);(replace hbW:=aa hbW bV);clear bV;(obtain ⟨A3,g7,eA3,hg7,bA3,hS⟩:=dM V2);(have l4:=hres.lt);(have l6:=(htab 0 (by decide)).lt);(have t7:(V2.alloc (.cells zP 77)).there V2.heap.size 0 (aw (f 0).X (f 0).Y (f 0).Z (f 0).T).toArray.size:=by (rw [eA3,hg7];exact ej hS _ _ _ _));(have hrow:=htab 0 (by decide));(obtain ⟨V3,hV3⟩:∃ V,V=(V2.alloc (.cells zP 77)).setCells V2.heap.size 0 (aw (f 0).X (f 0).Y (f 0).Z (f 0).T):=⟨_,rfl⟩);(have h7:RW V3 g7 0 (aw (f 0).X (f 0).Y (f 0).Z (f 0).T):=by (rw [hV3,eA3,hg7];exact hS.stored _ rfl));(have bV3:Below V2.heap.size V2 V3:=by (rw [hV3];exact ac (JW _) _ _ _ ((Below.refl _ _).alloc (JW _) _)));(have H3:=Hid.mk' hV3);(have Q7:=Hid.mk' hg7);(have n67:g6≠g7:=by omega);(have n47:g4≠g7:=by omega);(have w7l:w.heap.size≤g7:=by (have:=hbW.size;omega));clear hV3 eA3 bA3 hS hg7 l4 l6;(replace hres:=hres.still bV3);(replace htab:=htab.still bV3);(replace hbW:=aa hbW bV3);clear bV3)
    | (with_reducible (refine id (?_:wpList _ _ _ _ _ _));refine J2 rfl 178 _ _ rfl w2.heap.size 0 (fT f).toArray rfl rfl t6 (BH _) (IF _) ?_;rw [List.toList_toArray,←H2.out,Q6.out];clear t6 H2 Q6)
    | (refine J3 rfl 77 _ rfl g6 0 rfl (aw (f 0).X (f 0).Y (f 0).Z (f 0).T) _ hrow.range Tryz.underlying77 rfl (bi _ _ _ _) ?_;clear hrow)
    | (with_reducible (refine id (?_:wpList _ _ _ _ _ _));refine J2 rfl 77 _ _ rfl V2.heap.size 0 (aw (f 0).X (f 0).Y (f 0).Z (f 0).T).toArray rfl rfl t7 (a7 _ _ _ _) (bJ _ _ _ _) ?_;rw [List.toList_toArray,←H3.out,Q7.out];clear t7 H3 Q7))
   go_step3;have kt2:=kt (f 0) _ (hf 0 (by decide))
   (have k4:=hres);(have ktab:=htab);(have k7:=h7);(have kb:=hbW)
   clear hres htab h7 hbW
   go_wp2_with (first
    | (refine J3 rfl 77 _ rfl g7 0 rfl (aw (f 0).X (f 0).Y (f 0).Z (f 0).T) _ k7.range Tryz.underlying77 rfl (bi _ _ _ _) ?_)
    | (go_at_call 156;refine (kt2 _).mono ?_;clear kt2;rintro e w3 ⟨x,rfl,hx,hb3⟩;(replace k4:=k4.still hb3);(replace ktab:=ktab.still hb3);(replace k7:=k7.still hb3);(replace kb:=aa kb hb3);clear hb3;(have t7:w3.there g7 0 (aw x.X x.Y x.Z x.T).toArray.size:=ej k7 _ _ _ _);(obtain ⟨V3,hV3⟩:∃ V,V=w3.setCells g7 0 (aw x.X x.Y x.Z x.T):=⟨_,rfl⟩);(replace k7:=k7.stored (aw x.X x.Y x.Z x.T) rfl);(replace k4:=k4.far g7 0 (aw x.X x.Y x.Z x.T) (.inl n47));(replace ktab:=ktab.far g7 0 (aw x.X x.Y x.Z x.T) n67);(replace kb:=ac w7l (aw x.X x.Y x.Z x.T) 0 _ kb);rw [←hV3] at k7 k4 ktab kb;(have H3:=Hid.mk' hV3);clear hV3)
    | (with_reducible (refine id (?_:wpList _ _ _ _ _ _));refine J2 rfl 77 _ _ rfl g7 0 (aw x.X x.Y x.Z x.T).toArray rfl rfl t7 (a7 _ _ _ _) (bJ _ _ _ _) ?_;rw [List.toList_toArray,←H3.out];clear t7 H3))
   go_step3;refine ⟨rfl,1,x,f,g6,g7,_,_,_,_,_,_,_,_,_,_,_,_,_,_,_,_,_,_,_,_,_,_,_,_,_,_,_,_,_,_,_,_,_,_,_,rfl,JW _,by decide,?_,hf,k4,ktab,k7,n67,n47,w7l,kb⟩;rw [uS (j:=0) (by decide),←yf hon];exact hx
 · rintro a' wr ⟨j,t,f,g6,g7,u9,u10,u11,u12,u13,u14,u15,u16,u17,u18,u19,u20,u21,u22,u23,u24,u25,u26,u27,u28,u29,u30,u31,u32,u33,u34,u35,u36,u37,u38,u39,u40,u41,u42,u43,rfl,hj1,hj2,ht,hf,k4,ktab,k7,n67,n47,w7l,kb⟩
   clear hc hres hbW kc kw;have kt2:=kt t _ ht;have Hd:=Hid.mk' (yf hon ks j);have cc:=(kb.cell (p:=⟨bb,ob+(255 - j) / 8,none⟩) hlb).trans (hcl ((255 - j) / 8) (by omega))
   obtain ⟨m,hm⟩:∃ m,255 - j=m:=⟨_,rfl⟩
   have e0:IntKind.i64.wrap (256 - (j:Int) - 1)=(m:Int):=by simp only [IntKind.wrap_i64];omega
   have e1:256 - ((j+1:Nat):Int)=(m:Int):=by omega
   have E1:=Hid.mk' e1;clear e1
   have hmj:m<j+1+256:=by omega
   have hm2:m≤254:=by omega
   have Hm:=Hid.mk' hm;dsimp only;have mu:Hid ((intOf (.int .i64 (256 - (j:Int)))).toNat=m+1):=Hid.mk' (by show (256 - (j:Int)).toNat=m+1;omega)
   by_cases h4:m%4=0
   · have e4:(m:Int)%4=0:=by omega
     obtain ⟨d,hd⟩:∃ d,d=uU ks m:=⟨_,rfl⟩
     have hd16:d<16:=by rw [hd];exact Gm ks m
     have e6:bits .and .u8 ((ks (m / 8):Int) / 2 ^ (m%8)) 15=(d:Int):=by rw [hd];exact Bq hks m
     have Hdg:=Hid.mk' hd;clear hd;rw [hm] at cc
     go_upto_region 9 with (first
      | (refine J3 rfl 77 _ rfl g7 0 rfl (aw t.X t.Y t.Z t.T) _ k7.range Tryz.underlying77 rfl (bi _ _ _ _) ?_)
      | (go_at_call 156;refine (kt2 _).mono ?_;clear kt2;rintro e w3 ⟨x,rfl,hx,hb3⟩;(replace k4:=k4.still hb3);(replace ktab:=ktab.still hb3);(replace k7:=k7.still hb3);(replace kb:=aa kb hb3);clear hb3;(have t7:w3.there g7 0 (aw x.X x.Y x.Z x.T).toArray.size:=ej k7 _ _ _ _);(obtain ⟨V3,hV3⟩:∃ V,V=w3.setCells g7 0 (aw x.X x.Y x.Z x.T):=⟨_,rfl⟩);(replace k7:=k7.stored (aw x.X x.Y x.Z x.T) rfl);(replace k4:=k4.far g7 0 (aw x.X x.Y x.Z x.T) (.inl n47));(replace ktab:=ktab.far g7 0 (aw x.X x.Y x.Z x.T) n67);(replace kb:=ac w7l (aw x.X x.Y x.Z x.T) 0 _ kb);rw [←hV3] at k7 k4 ktab kb;(have H3:=Hid.mk' hV3);clear hV3;clear cc;(have cc:=(kb.cell (p:=⟨bb,ob+m / 8,none⟩) hlb).trans (hcl (m / 8) (by omega))))
      | (with_reducible (refine id (?_:wpList _ _ _ _ _ _));refine J2 rfl 77 _ _ rfl g7 0 (aw x.X x.Y x.Z x.T).toArray rfl rfl t7 (a7 _ _ _ _) (bJ _ _ _ _) ?_;rw [List.toList_toArray,←H3.out];clear t7 H3))
     have hrow:=ktab d hd16;have ka2:=ka x (f d) _ _ hx (hf d hd16)
     have e7:((d:Int)).toNat=d:=by omega
     have e8:¬((d:Int)<0):=by omega
     have e9:(d:Int)<16:=by omega
     have hfin:∀ y:N4,W6 y (dc dE (dc dE (cK dE (gU ks j) P) (cK dE (gU ks j) P)) (cK dE d P))→W6 y (cK dE (gU ks (j+1)) P):=fun y hy=>by
      rw [BJ (j:=j) (by omega),hm,←Hdg.out,lB gG hon,←Hd.out];exact hy
     clear cc;clear ka kt hcl;have hdrew:Below V3.heap.size V3 V3.drew:=(Below.refl _ _).drew;replace k4:=k4.still hdrew;replace ktab:=ktab.still hdrew;replace k7:=k7.still hdrew;replace hrow:=hrow.still hdrew;refine wp_region_noPanic ?_;refine wp_region_held_drew (S:=fun _=>True) (by kernel_rfl) trivial (fun _ => ?_);replace kb:=aa kb hdrew;generalize V3.drew=Vn_ at *;refine wpAnyH_take (i:=1) (oi:=oN 37 (Op.move (oT 9)) 5 "point.go:78" #[]) (v := ?vn_1) rfl (by kernel_rfl) (by kernel_rfl) (by kernel_rfl) (fun _ _ _ h=>h) (Or.inl ⟨by rfl,?hn_1⟩) trivial ?rn_1
     case hn_1 =>
      intro w hSw;go_simp
      try with_reducible rfl
     (try simp only [pS]);refine wpAnyH_take (i:=2) (oi:=oN 38 (Op.indexAddr 178 (oT 6) (oT 37)) 0 "point.go:78" #[jD 1]) (v := ?vn_2) rfl (by kernel_rfl) (by kernel_rfl) (by kernel_rfl) (fun _ _ _ h=>h) (Or.inl ⟨by rfl,?hn_2⟩) trivial ?rn_2
     case hn_2 =>
      intro w hSw;go_simp
      try with_reducible rfl
     (try simp only [pS]);refine J1 (rs:=[0,3]) (by kernel_rfl) (by simp) ?_;refine J7 (o:=oN 36 (Op.load 77 (oT 7)) 77 "point.go:78" #[]) rfl (fun K hK => ?_) (J7 (o:=oN 39 (Op.load 77 (oT 38)) 77 "point.go:78" #[jD 2]) rfl (fun K hK => ?_) (J6))
     · rw [if_pos (by rfl)]
       refine wp_load_mid 77 _ rfl g7 0 rfl (aw x.X x.Y x.Z x.T) _ k7.range Tryz.underlying77 rfl (bi _ _ _ _) ?_;refine hK.out _ _ trivial (fun h => ?_);clear h hK K;rw [show Value.agg (aw x.X x.Y x.Z x.T).toArray = .agg (aw x.X x.Y x.Z x.T).toArray from rfl];(try simp only [pS]);refine J1 (rs:=[3]) (by kernel_rfl) (by simp) ?_;refine J7 (o:=oN 39 (Op.load 77 (oT 38)) 77 "point.go:78" #[jD 2]) rfl (fun K hK => ?_) (J6);rw [if_pos (by rfl)];refine wp_load_mid 77 _ rfl g6 (d*16) rfl (aw (f d).X (f d).Y (f d).Z (f d).T) _ hrow.range Tryz.underlying77 rfl (bi _ _ _ _) ?_;refine hK.out _ _ trivial (fun h => ?_);clear h hK K;rw [show Value.agg (aw (f d).X (f d).Y (f d).Z (f d).T).toArray = .agg (aw (f d).X (f d).Y (f d).Z (f d).T).toArray from rfl];(try simp only [pS]);refine J1 (rs:=[4]) (by kernel_rfl) (by simp) ?_;refine J7 (o:=oN 40 (dA 115 #[oT 36,oT 39] #[77,77]) 77 "point.go:78" #[jD 0,jD 3]) rfl (fun K hK => ?_) (J6);go_simp;(go_at_call 115;refine (ka2 _).mono ?_;clear ka2;rintro e wn_5 ⟨y,rfl,hy,hb9⟩;(replace k4:=k4.still hb9);(replace ktab:=ktab.still hb9);(replace k7:=k7.still hb9);(replace kb:=aa kb hb9);clear hb9);(try go_simp);refine hK.out _ _ trivial (fun h => ?_);clear h hK K;(try simp only [pS]);refine J1 (rs:=[5]) (by kernel_rfl) (by simp) ?_;refine J7 (o:=oS (Op.store 77 (oT 7) (oT 40)) "point.go:78" #[jD 4,jC 4,jP 0,jP 1,jP 2,jP 3,jP 4]) rfl (fun K hK => ?_) (J6);rw [if_pos (by rfl)];refine wp_store_mid 77 _ _ rfl g7 0 (aw y.X y.Y y.Z y.T).toArray rfl rfl k7.there (a7 _ _ _ _) (bJ _ _ _ _) ?_;have On_6:=aT.setCells (b:=g7) (o:=0) (n:=(aw y.X y.Y y.Z y.T).length) wn_5 (aw y.X y.Y y.Z y.T) (JW _) (JW _);replace ktab:=ktab.far g7 0 (aw y.X y.Y y.Z y.T) n67;replace kb:=ac w7l (aw y.X y.Y y.Z y.T) 0 _ kb;replace k7:=k7.stored (aw y.X y.Y y.Z y.T) rfl;replace k4:=k4.far g7 0 (aw y.X y.Y y.Z y.T) (.inl n47)
       obtain ⟨wn_6,hwn_6⟩:∃ W,wn_5.setCells g7 0 (aw y.X y.Y y.Z y.T)=W:=⟨_,rfl⟩
       rw [hwn_6] at k4;rw [hwn_6] at k7;rw [hwn_6] at On_6;rw [hwn_6] at ktab kb;rw [show wn_5.setCells g7 0 (aw y.X y.Y y.Z y.T).toArray.toList=wn_6 from hwn_6];refine hK.out _ _ trivial (fun h => ?_);clear h hK K hwn_6;(try dsimp only [Act.put]);refine wpAnyH_done (by kernel_rfl) ?_ _;refine J8 ?_;replace hy:=hfin y hy;clear hfin
       rcases Nat.eq_zero_or_pos m with hm0 | hmp
       · have e10:¬((0:Int)<(m:Int)):=by omega
         have hjj:j+1=256:=by omega
         rw [hjj,yi hks] at hy;have tt:wn_6.there g4 0 (aw y.X y.Y y.Z y.T).toArray.size:=ej k4 _ _ _ _;clear hm0
         go_wp2_with (first
          | (refine J3 rfl 77 _ rfl g7 0 rfl (aw y.X y.Y y.Z y.T) _ k7.range Tryz.underlying77 rfl (bi _ _ _ _) ?_)
          | (with_reducible (refine id (?_:wpList _ _ _ _ _ _));refine J2 rfl 77 _ _ rfl g4 0 (aw y.X y.Y y.Z y.T).toArray rfl rfl tt (a7 _ _ _ _) (bJ _ _ _ _) ?_))
         simp only [Exit.jump];exact bodyPost_ret (am Tryz.results91 _ _ g4 0 (aw y.X y.Y y.Z y.T) _ rfl (k4.stored (aw y.X y.Y y.Z y.T) (et _ _ _ _ _ _ _ _)).range Tryz.underlying77 rfl (bi _ _ _ _)) rfl ⟨_,rfl,hy.r6,ac w4l _ _ _ kb⟩
       · have e10:(0:Int)<(m:Int):=by omega
         go_wp2;go_step3;rw [←E1.out];refine ⟨rfl,⟨j+1,y,f,g6,g7,_,_,_,_,_,_,_,_,_,_,_,_,_,_,_,_,_,_,_,_,_,_,_,_,_,_,_,_,_,_,_,_,_,_,_,rfl,by omega,by omega,hy,hf,k4,ktab,k7,n67,n47,w7l,kb⟩,?_⟩;show (256 - ((j+1:Nat):Int)).toNat<(256 - (j:Int)).toNat;omega
     · rw [if_pos (by rfl)]
       refine wp_load_mid 77 _ rfl g6 (d*16) rfl (aw (f d).X (f d).Y (f d).Z (f d).T) _ hrow.range Tryz.underlying77 rfl (bi _ _ _ _) ?_;refine hK.out _ _ trivial (fun h => ?_);clear h hK K;rw [show Value.agg (aw (f d).X (f d).Y (f d).Z (f d).T).toArray = .agg (aw (f d).X (f d).Y (f d).Z (f d).T).toArray from rfl];(try simp only [pS]);refine J1 (rs:=[0]) (by kernel_rfl) (by simp) ?_;refine J7 (o:=oN 36 (Op.load 77 (oT 7)) 77 "point.go:78" #[]) rfl (fun K hK => ?_) (J6);rw [if_pos (by rfl)];refine wp_load_mid 77 _ rfl g7 0 rfl (aw x.X x.Y x.Z x.T) _ k7.range Tryz.underlying77 rfl (bi _ _ _ _) ?_;refine hK.out _ _ trivial (fun h => ?_);clear h hK K;rw [show Value.agg (aw x.X x.Y x.Z x.T).toArray = .agg (aw x.X x.Y x.Z x.T).toArray from rfl];(try simp only [pS]);refine J1 (rs:=[4]) (by kernel_rfl) (by simp) ?_;refine J7 (o:=oN 40 (dA 115 #[oT 36,oT 39] #[77,77]) 77 "point.go:78" #[jD 0,jD 3]) rfl (fun K hK => ?_) (J6);go_simp;(go_at_call 115;refine (ka2 _).mono ?_;clear ka2;rintro e wn_9 ⟨y,rfl,hy,hb9⟩;(replace k4:=k4.still hb9);(replace ktab:=ktab.still hb9);(replace k7:=k7.still hb9);(replace kb:=aa kb hb9);clear hb9);(try go_simp);refine hK.out _ _ trivial (fun h => ?_);clear h hK K;(try simp only [pS]);refine J1 (rs:=[5]) (by kernel_rfl) (by simp) ?_;refine J7 (o:=oS (Op.store 77 (oT 7) (oT 40)) "point.go:78" #[jD 4,jC 4,jP 0,jP 1,jP 2,jP 3,jP 4]) rfl (fun K hK => ?_) (J6);rw [if_pos (by rfl)];refine wp_store_mid 77 _ _ rfl g7 0 (aw y.X y.Y y.Z y.T).toArray rfl rfl k7.there (a7 _ _ _ _) (bJ _ _ _ _) ?_;have On_10:=aT.setCells (b:=g7) (o:=0) (n:=(aw y.X y.Y y.Z y.T).length) wn_9 (aw y.X y.Y y.Z y.T) (JW _) (JW _);replace ktab:=ktab.far g7 0 (aw y.X y.Y y.Z y.T) n67;replace kb:=ac w7l (aw y.X y.Y y.Z y.T) 0 _ kb;replace k7:=k7.stored (aw y.X y.Y y.Z y.T) rfl;replace k4:=k4.far g7 0 (aw y.X y.Y y.Z y.T) (.inl n47)
       obtain ⟨wn_10,hwn_10⟩:∃ W,wn_9.setCells g7 0 (aw y.X y.Y y.Z y.T)=W:=⟨_,rfl⟩
       rw [hwn_10] at k4;rw [hwn_10] at k7;rw [hwn_10] at On_10;rw [hwn_10] at ktab kb;rw [show wn_9.setCells g7 0 (aw y.X y.Y y.Z y.T).toArray.toList=wn_10 from hwn_10];refine hK.out _ _ trivial (fun h => ?_);clear h hK K hwn_10;(try dsimp only [Act.put]);refine wpAnyH_done (by kernel_rfl) ?_ _;refine J8 ?_;replace hy:=hfin y hy;clear hfin
       rcases Nat.eq_zero_or_pos m with hm0 | hmp
       · have e10:¬((0:Int)<(m:Int)):=by omega
         have hjj:j+1=256:=by omega
         rw [hjj,yi hks] at hy;have tt:wn_10.there g4 0 (aw y.X y.Y y.Z y.T).toArray.size:=ej k4 _ _ _ _;clear hm0
         go_wp2_with (first
          | (refine J3 rfl 77 _ rfl g7 0 rfl (aw y.X y.Y y.Z y.T) _ k7.range Tryz.underlying77 rfl (bi _ _ _ _) ?_)
          | (with_reducible (refine id (?_:wpList _ _ _ _ _ _));refine J2 rfl 77 _ _ rfl g4 0 (aw y.X y.Y y.Z y.T).toArray rfl rfl tt (a7 _ _ _ _) (bJ _ _ _ _) ?_))
         simp only [Exit.jump];exact bodyPost_ret (am Tryz.results91 _ _ g4 0 (aw y.X y.Y y.Z y.T) _ rfl (k4.stored (aw y.X y.Y y.Z y.T) (et _ _ _ _ _ _ _ _)).range Tryz.underlying77 rfl (bi _ _ _ _)) rfl ⟨_,rfl,hy.r6,ac w4l _ _ _ kb⟩
       · have e10:(0:Int)<(m:Int):=by omega
         go_wp2;go_step3;rw [←E1.out];refine ⟨rfl,⟨j+1,y,f,g6,g7,_,_,_,_,_,_,_,_,_,_,_,_,_,_,_,_,_,_,_,_,_,_,_,_,_,_,_,_,_,_,_,_,_,_,_,rfl,by omega,by omega,hy,hf,k4,ktab,k7,n67,n47,w7l,kb⟩,?_⟩;show (256 - ((j+1:Nat):Int)).toNat<(256 - (j:Int)).toNat;omega
   · have e4:¬((m:Int)%4=0):=by omega
     have e5:(0:Int)<(m:Int):=by omega
     clear cc
     go_wp2_with (first
      | (refine J3 rfl 77 _ rfl g7 0 rfl (aw t.X t.Y t.Z t.T) _ k7.range Tryz.underlying77 rfl (bi _ _ _ _) ?_)
      | (go_at_call 156;refine (kt2 _).mono ?_;clear kt2;rintro e w3 ⟨x,rfl,hx,hb3⟩;(replace k4:=k4.still hb3);(replace ktab:=ktab.still hb3);(replace k7:=k7.still hb3);(replace kb:=aa kb hb3);clear hb3;(have t7:w3.there g7 0 (aw x.X x.Y x.Z x.T).toArray.size:=ej k7 _ _ _ _);(obtain ⟨V3,hV3⟩:∃ V,V=w3.setCells g7 0 (aw x.X x.Y x.Z x.T):=⟨_,rfl⟩);(replace k7:=k7.stored (aw x.X x.Y x.Z x.T) rfl);(replace k4:=k4.far g7 0 (aw x.X x.Y x.Z x.T) (.inl n47));(replace ktab:=ktab.far g7 0 (aw x.X x.Y x.Z x.T) n67);(replace kb:=ac w7l (aw x.X x.Y x.Z x.T) 0 _ kb);rw [←hV3] at k7 k4 ktab kb;(have H3:=Hid.mk' hV3);clear hV3)
      | (with_reducible (refine id (?_:wpList _ _ _ _ _ _));refine J2 rfl 77 _ _ rfl g7 0 (aw x.X x.Y x.Z x.T).toArray rfl rfl t7 (a7 _ _ _ _) (bJ _ _ _ _) ?_;rw [List.toList_toArray,←H3.out];clear t7 H3))
     go_step3;rw [←E1.out];refine ⟨rfl,⟨j+1,x,f,g6,g7,_,_,_,_,_,_,_,_,_,_,_,_,_,_,_,_,_,_,_,_,_,_,_,_,_,_,_,_,_,_,_,_,_,_,_,rfl,by omega,by omega,?_,hf,k4,ktab,k7,n67,n47,w7l,kb⟩,?_⟩
     · rw [uS (j:=j) (by omega),←Hd.out]
       exact hx
     · show (256 - ((j+1:Nat):Int)).toNat<(256 - (j:Int)).toNat
       omega
set_option maxRecDepth 20000 in
set_option maxHeartbeats 4000000 in
theorem ww (v u:Value) (bs cs:Nat→Nat) (hbs:∀ j,bs j<256) (hcs:∀ j,cs j<256) (w:World) (im:IM w) (hv:ae w v 32 bs) (hu:ae w u 32 cs) :
 Calls Tryz.prog 173 #[v,u] w fun e w'=>∃ s,e = .returned (.tuple #[s,.bool (df kP (aK bs 32%pF) (aK cs 32%pF)).isSome,.int .i64 0])∧jS w w' s 32 (bf ((df kP (aK bs 32%pF) (aK cs 32%pF)).getD 0))∧Below w.heap.size w w':=by
 have cb:=Af v u bs cs hbs hcs w hv hu;obtain ⟨xv,kv,rfl,-⟩:=hv.src;obtain ⟨xu,ku,rfl,-⟩:=hu.src;have hx:aK bs 32%pF<pF:=Nat.mod_lt _ (by decide);have hy:aK cs 32%pF<pF:=Nat.mod_lt _ (by decide)
 obtain ⟨x,hxe⟩:∃ x,x=aK bs 32%pF:=⟨_,rfl⟩
 obtain ⟨y,hye⟩:∃ y,y=aK cs 32%pF:=⟨_,rfl⟩
 rw [←hxe] at cb hx ⊢;rw [←hye] at cb hy ⊢
 have cp:=fun W (h:IM W)=>Bc x y hx hy W h
 obtain ⟨N,hN⟩:∃ N,N=(df kP x y).getD 0:=⟨_,rfl⟩
 obtain ⟨ok,hok⟩:∃ N,N=(df kP x y).isSome:=⟨_,rfl⟩
 have cq:=fun W=>gI N W
 rw [←hN,←hok] at cp;rw [←hN,←hok];obtain ⟨x0,x1,x2,x3,hxv⟩:=bh x;obtain ⟨y0,y1,y2,y3,hyv⟩:=bh y;obtain ⟨z0,z1,z2,z3,hzv⟩:=bh N;rw [hxv,hyv] at cb cp;rw [hzv] at cp cq;clear hv hu hxe hye hN hxv hyv hzv hok;go_enter Tryz.func173,Tryz.ntmps173
 go_wp2_with (first
  | (go_at_call 218;refine cb.mono ?_;clear cb;rintro e w1 ⟨rfl,hb1⟩;(have im2:=fun (A B:Obj)=>(im.still hb1).still (show Below w1.heap.size w1 ((w1.alloc A).alloc B) from ((Below.refl _ w1).alloc (JW _) _).alloc (by simp) _)))
  | (go_at_call 219;refine (cp _ (im2 _ _)).mono ?_;clear cp im2;rintro e w2 ⟨rfl,hb2⟩)
  | (go_at_call 160;refine (cq _).mono ?_;clear cq;rintro e w3 ⟨g,rfl,hg,hr,hb3⟩))
 go_ret3;have hb12:Below w1.heap.size w1 w2:=(((Below.refl _ w1).alloc (JW _) _).alloc (by simp) _).trans (hb2.mono (by simp;omega));have hbw2:Below w.heap.size w w2:=hb1.trans (hb12.mono hb1.size);have hb23:Below w2.heap.size w2 w3:=((Below.refl _ w2).alloc (JW _) _).trans (hb3.mono (by simp));have hg2:w2.heap.size≤g:=Nat.le_trans (by simp) hg;exact ⟨_,rfl,⟨g,rfl,Nat.le_trans hbw2.size hg2,hr⟩,aa hbw2 hb23⟩
end Go.Proofs.YtibdhadbflfdpaaGreatDoor
