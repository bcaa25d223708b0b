/- The law HpkeContexts in the model. -/
import Derived.Test.YtcgkajlehdgpoaaGreatDoorQKmM
import Derived.Test.YtcgkajlehdgpoaaGreatDoorQLS
namespace Go.Proofs.YtcgkajlehdgpoaaGreatDoor
open Go.RowKit
theorem infoOpL (a b c d:Value):(Tryz.prog.info? 41).map (·.size)=some (#[a,b,c,d]:Array Value).size:=by kernel_rfl
theorem oneOpL (i j:Int) (x y:Option Addr) (a b c d:Nat):(#[.int .i64 i,.int .i64 j,.slice x a b,.slice y c d]:Array Value).all (·.oneCell')=true:=by simp [Value.oneCell']
abbrev PairQ (w:World) (pc:Option Addr) (gc gr:Nat) (K N X:Nat→Nat) (n:Nat):Prop:=pc=none∨(CCtx w gc K N X n∧RCtx w gr K N X n)
theorem new_both (n m:Nat) (s info:Nat→Nat) (hs:∀ j,s j<256) (hi:∀ j,info j<256):∃ (G:Prop) (E:Int) (K N X:Nat→Nat),(∀ j,K j<256)∧(∀ j,N j<256)∧(∀ j,X j<256) ∧
 (∀ v u W,HTab W cubeK squareK→BytesIn W v n s→BytesIn W u m info→Calls Tryz.prog 18 #[v,u] W fun e w'=>∃ p,e = .returned (.tuple #[.pointer p,.int .i64 E])∧((¬G∧p=none)∨(G∧∃ g,p=some ⟨g,0,none⟩∧W.heap.size≤g∧CCtx w' g K N X 0))∧Below W.heap.size W w') ∧
 (∀ v u W,BytesIn W v n s→BytesIn W u m info→Calls Tryz.prog 19 #[v,u] W fun e w'=>∃ p,e = .returned (.tuple #[.pointer p,.int .i64 E])∧((¬G∧p=none)∨(G∧∃ g,p=some ⟨g,0,none⟩∧W.heap.size≤g∧RCtx w' g K N X 0))∧Below W.heap.size W w'):=by
 by_cases h1:n=32
 · subst h1
   by_cases h2:m≤65536
   · exact ⟨True,0,ckN lKey 16 s m info,ckN lBn 12 s m info,ckN lExp 32 s m info,ckN_lt _ _ _ _ _,ckN_lt _ _ _ _ _,ckN_lt _ _ _ _ _,fun v u W hT hv hu=>(cNew_good v u m s info hs hi h2 W hT hv hu).mono fun _ _ ⟨g,he,hg,hc,hb⟩=>⟨_,he,.inr ⟨trivial,g,rfl,hg,hc⟩,hb⟩,fun v u W hv hu=>(rNew_good v u m s info hs hi h2 W hv hu).mono fun _ _ ⟨g,he,hg,hc,hb⟩=>⟨_,he,.inr ⟨trivial,g,rfl,hg,hc⟩,hb⟩⟩
   · exact ⟨False,6,lZ,lZ,lZ,lZ_lt,lZ_lt,lZ_lt,fun v u W _ hv hu=>(cNew_size v u m s info (by omega) W hv hu).mono fun _ _ ⟨he,hb⟩=>⟨_,he,.inl ⟨fun h=>h,rfl⟩,hb⟩,fun v u W hv hu=>(rNew_size v u m s info (by omega) W hv hu).mono fun _ _ ⟨he,hb⟩=>⟨_,he,.inl ⟨fun h=>h,rfl⟩,hb⟩⟩
 · exact ⟨False,1,lZ,lZ,lZ,lZ_lt,lZ_lt,lZ_lt,fun v u W _ hv _=>(cNew_arg v u n s h1 W hv).mono fun _ _ ⟨he,hb⟩=>⟨_,he,.inl ⟨fun h=>h,rfl⟩,hb⟩,fun v u W hv _=>(rNew_arg v u n s h1 W hv).mono fun _ _ ⟨he,hb⟩=>⟨_,he,.inl ⟨fun h=>h,rfl⟩,hb⟩⟩
abbrev Where (B:Nat) (pc pr:Option Addr) (gc gr:Nat):Prop:=(pc=none∧pr=none)∨(pc=some ⟨gc,0,none⟩∧pr=some ⟨gr,0,none⟩∧B≤gc∧B≤gr∧gr≠gc)
theorem PairQ.moves {W W':World} {p:Option Addr} {gd gq gc gr:Nat} {K N X:Nat→Nat} {m:Nat} (h:PairQ W p gd gq K N X m) (hd:p=none∨(gd≠gc∧gd≠gr∧gq≠gc∧gq≠gr)) (mv:Moves gc gr W W'):PairQ W' p gd gq K N X m:=by
 rcases hd with e | ⟨e1,e2,e3,e4⟩
 · exact .inl e
 · exact h.imp (fun h=>h) (fun ⟨a,b⟩=>⟨a.moves mv e1 e2,b.moves mv e3 e4⟩)
theorem OpsQ.at {w wr:World} {xo:Option Addr} {cnt:Nat} {kd nn:Nat→Int} {mv tv:Nat→Value} {mn tn:Nat→Nat} {mb tb:Nat→Nat→Nat} (h:OpsQ w xo cnt kd nn mv tv mn tn mb tb) (b:Below w.heap.size w wr) (k:Nat) (hk:k<cnt) :
 ∃ lb lo ik ni xm ml dm xt n dt M T,xo=some ⟨lb,lo,none⟩∧lb<w.heap.size∧wr.rangeAt lb (lo+k*4) (o4 ik ni (.slice xm ml dm) (.slice xt n dt))∧BytesIn wr (.slice xm ml dm) ml M∧BytesIn wr (.slice xt n dt) n T∧(∀ j,M j<256)∧(∀ j,T j<256)∧ml+300<140737488355000∧n+300<140737488355000:=by
 obtain ⟨lb,lo,hxo,hlb,hcells⟩:=h.cell k hk
 obtain ⟨hm,lm,km⟩:=h.more k hk
 obtain ⟨ht,lt,kt⟩:=h.text k hk
 obtain ⟨xm,dm,em,-,-,-⟩:=hm.src
 obtain ⟨xt,dt,et,-,-,-⟩:=ht.src
 have hrange:wr.rangeAt lb (lo+k*4) (o4 (kd k) (nn k) (mv k) (tv k)):=fun j v hv=>(b.cell (p:=⟨lb,lo+k*4+j,none⟩) hlb).trans (hcells j v hv)
 rw [em] at hm hrange
 rw [et] at ht hrange
 exact ⟨lb,lo,_,_,xm,_,dm,xt,_,dt,_,_,hxo,hlb,hrange,hm.keep b,ht.keep b,lm,lt,km,kt⟩
theorem pairs_of {G1 G2:Prop} {p3 p4 p5 p6:Option Addr} {B s3:Nat} {w3 w4 w5 w6:World} {K1 N1 X1 K2 N2 X2:Nat→Nat} (hB:B≤s3) (h3:s3≤w3.heap.size) (b34:Below w3.heap.size w3 w4) (b45:Below w4.heap.size w4 w5) (b56:Below w5.heap.size w5 w6)
 (j3:(¬G1∧p3=none)∨(G1∧∃ g,p3=some ⟨g,0,none⟩∧s3≤g∧CCtx w3 g K1 N1 X1 0)) (j4:(¬G2∧p4=none)∨(G2∧∃ g,p4=some ⟨g,0,none⟩∧w3.heap.size≤g∧CCtx w4 g K2 N2 X2 0))
 (j5:(¬G1∧p5=none)∨(G1∧∃ g,p5=some ⟨g,0,none⟩∧w4.heap.size≤g∧RCtx w5 g K1 N1 X1 0)) (j6:(¬G2∧p6=none)∨(G2∧∃ g,p6=some ⟨g,0,none⟩∧w5.heap.size≤g∧RCtx w6 g K2 N2 X2 0)) :
 ∃ gc gr gd gq,Where B p3 p5 gc gr∧Where B p4 p6 gd gq∧PairQ w6 p3 gc gr K1 N1 X1 0∧PairQ w6 p4 gd gq K2 N2 X2 0∧(p3=none∨p4=none∨(gd≠gc∧gd≠gr∧gq≠gc∧gq≠gr)):=by
 have z34:=b34.size
 have z45:=b45.size
 have z56:=b56.size
 have b36:=below_next (below_next b34 b45) b56
 have b46:=below_next b45 b56
 have one:∃ gc gr,Where B p3 p5 gc gr∧PairQ w6 p3 gc gr K1 N1 X1 0∧(p3=none∨(gc<w3.heap.size∧w4.heap.size≤gr∧gr<w5.heap.size)):=by
  rcases j3 with ⟨hg,rfl⟩ | ⟨hg,gc,rfl,l3,c3⟩
  · exact ⟨0,0,.inl ⟨rfl,(j5.resolve_right fun h=>hg h.1).2⟩,.inl rfl,.inl rfl⟩
  · obtain ⟨-,gr,rfl,l5,c5⟩:=j5.resolve_left fun h=>h.1 hg
    have t3:=c3.lt
    have t5:=c5.lt
    exact ⟨gc,gr,.inr ⟨rfl,rfl,by omega,by omega,by omega⟩,.inr ⟨c3.keep b36,c5.keep b56⟩,.inr ⟨t3,l5,t5⟩⟩
 have two:∃ gd gq,Where B p4 p6 gd gq∧PairQ w6 p4 gd gq K2 N2 X2 0∧(p4=none∨(w3.heap.size≤gd∧gd<w4.heap.size∧w5.heap.size≤gq)):=by
  rcases j4 with ⟨hg,rfl⟩ | ⟨hg,gd,rfl,l4,c4⟩
  · exact ⟨0,0,.inl ⟨rfl,(j6.resolve_right fun h=>hg h.1).2⟩,.inl rfl,.inl rfl⟩
  · obtain ⟨-,gq,rfl,l6,c6⟩:=j6.resolve_left fun h=>h.1 hg
    have t4:=c4.lt
    exact ⟨gd,gq,.inr ⟨rfl,rfl,by omega,by omega,by omega⟩,.inr ⟨c4.keep b46,c6⟩,.inr ⟨l4,t4,l6⟩⟩
 obtain ⟨gc,gr,a1,a2,a3⟩:=one
 obtain ⟨gd,gq,a4,a5,a6⟩:=two
 refine ⟨gc,gr,gd,gq,a1,a4,a2,a5,?_⟩
 rcases a3 with h | ⟨h,h',h''⟩
 · exact .inl h
 · rcases a6 with k | ⟨k,k',k''⟩
   · exact .inr (.inl k)
   · exact .inr (.inr ⟨by omega,by omega,by omega,by omega⟩)
set_option maxRecDepth 20000 in
set_option maxHeartbeats 16000000 in
theorem hpkeContexts_any (v0 v1:Value) (n0 n1:Nat) (b0 b1:Nat→Nat) (l0:∀ j,b0 j<256) (l1:∀ j,b1 j<256) (k0:n0+300<140737488355000) (k1:n1+300<140737488355000) (xa:Option Addr) (ca pa:Nat) (kda nna:Nat→Int) (mva tva:Nat→Value) (mna tna:Nat→Nat) (mba tba:Nat→Nat→Nat) (hca:ca<140737488355000) (xb:Option Addr) (cb pb:Nat) (kdb nnb:Nat→Int) (mvb tvb:Nat→Value) (mnb tnb:Nat→Nat) (mbb tbb:Nat→Nat→Nat) (hcb:cb<140737488355000) (w:World) (hT:HTab w cubeK squareK) (h0:BytesIn w v0 n0 b0) (h1:BytesIn w v1 n1 b1) (oa:OpsQ w xa ca kda nna mva tva mna tna mba tba) (ob:OpsQ w xb cb kdb nnb mvb tvb mnb tnb mbb tbb) :
 Calls Tryz.prog 4 #[v0,v1,.slice xa ca pa,.slice xb cb pb] w fun e w'=>e = .returned (.bool true)∧Below w.heap.size w w':=by
 have hnum:=num10_any
 have hK:=fun W hb=>knows10 W (hT.keep hb)
 have zo:=zeroOp
 have ew:IntKind.i64.wrap ((ca:Int)+(cb:Int))=(ca:Int)+cb:=by simp only [IntKind.wrap_i64];omega
 obtain ⟨x0,d0,rfl,-,-,-⟩:=h0.src
 obtain ⟨x1,d1,rfl,-,-,-⟩:=h1.src
 go_enter Tryz.func4,Tryz.ntmps4
 go_wp2
 go_loopw [9,10] (fun s i wr=>∃ (k:Nat) (z:Int),k≤ca+cb∧i = .int .i64 (k:Int)∧s = .int .i64 z∧Below w.heap.size w wr) (fun _ i _=>ca+cb - (intOf i).toNat)
 case atStart=>exact ⟨0,0,Nat.zero_le _,by go_num,rfl,Below.refl _ _⟩
 case round =>
  obtain ⟨k,z,hk,rfl,rfl,b⟩:=hrel
  by_cases hlt:k<ca+cb
  · have q0:(k:Int)<(ca:Int)+(cb:Int):=by omega
    by_cases hka:k<ca
    · have q1:(k:Int)<(ca:Int):=by omega
      obtain ⟨lb,lo,ik,ni,xm,ml,dm,xt,n,dt,M,T,hxo,-,hrange,-,-,-,-,km,kt⟩:=oa.at b k hka
      subst hxo
      have hz:=RW.fresh wr (o4 0 0 (.slice none 0 0) (.slice none 0 0)) 41
      have th1:(wr.alloc (.cells (o4 0 0 (.slice none 0 0) (.slice none 0 0)).toArray 41)).there wr.heap.size 0 (#[.int .i64 0,.int .i64 0,.slice none 0 0,.slice none 0 0]:Array Value).size:=hz.there
      obtain ⟨V1,hV1⟩:∃ V,V=(wr.alloc (.cells (o4 0 0 (.slice none 0 0) (.slice none 0 0)).toArray 41)).setCells wr.heap.size 0 (#[.int .i64 0,.int .i64 0,.slice none 0 0,.slice none 0 0]:Array Value).toList:=⟨_,rfl⟩
      have r1:RW V1 wr.heap.size 0 (o4 0 0 (.slice none 0 0) (.slice none 0 0)):=by rw [hV1];exact hz.stored (o4 0 0 (.slice none 0 0) (.slice none 0 0)) rfl
      have b1:Below wr.heap.size wr V1:=by rw [hV1];exact below_setCells (Nat.le_refl _) _ _ _ ((Below.refl _ _).alloc (Nat.le_refl _) _)
      have th2:V1.there wr.heap.size 0 (o4 ik ni (.slice xm ml dm) (.slice xt n dt)).toArray.size:=r1.there
      have hrange1:V1.rangeAt lb (lo+k*4) (o4 ik ni (.slice xm ml dm) (.slice xt n dt)):=fun q v hv=>(b1.cell (p:=⟨lb,lo+k*4+q,none⟩) (block_lt_of_cell (hrange q v hv))).trans (hrange q v hv)
      obtain ⟨V2,hV2⟩:∃ V,V=V1.setCells wr.heap.size 0 (o4 ik ni (.slice xm ml dm) (.slice xt n dt)):=⟨_,rfl⟩
      have r2:RW V2 wr.heap.size 0 (o4 ik ni (.slice xm ml dm) (.slice xt n dt)):=by rw [hV2];exact r1.stored _ rfl
      have b2:Below wr.heap.size wr V2:=by rw [hV2];exact below_setCells (Nat.le_refl _) _ _ _ b1
      have f2:V2.cell? ⟨wr.heap.size,2,none⟩=some (.slice xm ml dm):=r2.range 2 _ rfl
      have f3:V2.cell? ⟨wr.heap.size,3,none⟩=some (.slice xt n dt):=r2.range 3 _ rfl
      have H1:=Hid.mk' hV1
      have H2:=Hid.mk' hV2
      clear hV1 hV2 hz r1 r2 b1 hrange hK oa ob km kt
      go_wp2_with (first
       | (with_reducible (refine id (?_:wpList _ _ _ _ _ _));refine wpList_store_mid rfl 41 _ _ rfl wr.heap.size 0 #[.int .i64 0,.int .i64 0,.slice none 0 0,.slice none 0 0] rfl rfl th1 (infoOpL _ _ _ _) (oneOpL _ _ _ _ _ _ _ _) ?_;rw [←H1.out];clear th1 H1)
       | (refine wpList_load_mid rfl 41 _ rfl lb (lo+k*4) rfl (o4 ik ni (.slice xm ml dm) (.slice xt n dt)) _ hrange1 Tryz.underlying41 rfl (infoOp _ _ _ _) ?_)
       | (with_reducible (refine id (?_:wpList _ _ _ _ _ _));refine wpList_store_mid rfl 41 _ _ rfl wr.heap.size 0 (o4 ik ni (.slice xm ml dm) (.slice xt n dt)).toArray rfl rfl th2 (infoOpA _ _ _ _) (oneOp _ _ _ _ _ _ _ _) ?_;rw [List.toList_toArray,←H2.out];clear th2 H2))
      go_roundw
      case rel=>exact ⟨k+1,_,by omega,by go_num,rfl,below_next b b2⟩
      case measure=>simp [intOf];omega
    · have q1:¬((k:Int)<(ca:Int)):=by omega
      obtain ⟨j,hj⟩:∃ j,k=ca+j:=⟨k - ca,by omega⟩
      have hjb:j<cb:=by omega
      have q2:(k:Int) - (ca:Int)=(j:Int):=by omega
      have q3:IntKind.i64.wrap ((k:Int) - (ca:Int))=(j:Int):=by simp only [IntKind.wrap_i64];omega
      have q4:(0:Int)≤(j:Int)∧(j:Int)<(cb:Int):=by omega
      obtain ⟨lb,lo,ik,ni,xm,ml,dm,xt,n,dt,M,T,hxo,-,hrange,-,-,-,-,km,kt⟩:=ob.at b j hjb
      subst hxo
      have Hj:=Hid.mk' hj
      clear hj
      have hz:=RW.fresh wr (o4 0 0 (.slice none 0 0) (.slice none 0 0)) 41
      have th1:(wr.alloc (.cells (o4 0 0 (.slice none 0 0) (.slice none 0 0)).toArray 41)).there wr.heap.size 0 (#[.int .i64 0,.int .i64 0,.slice none 0 0,.slice none 0 0]:Array Value).size:=hz.there
      obtain ⟨V1,hV1⟩:∃ V,V=(wr.alloc (.cells (o4 0 0 (.slice none 0 0) (.slice none 0 0)).toArray 41)).setCells wr.heap.size 0 (#[.int .i64 0,.int .i64 0,.slice none 0 0,.slice none 0 0]:Array Value).toList:=⟨_,rfl⟩
      have r1:RW V1 wr.heap.size 0 (o4 0 0 (.slice none 0 0) (.slice none 0 0)):=by rw [hV1];exact hz.stored (o4 0 0 (.slice none 0 0) (.slice none 0 0)) rfl
      have b1:Below wr.heap.size wr V1:=by rw [hV1];exact below_setCells (Nat.le_refl _) _ _ _ ((Below.refl _ _).alloc (Nat.le_refl _) _)
      have th2:V1.there wr.heap.size 0 (o4 ik ni (.slice xm ml dm) (.slice xt n dt)).toArray.size:=r1.there
      have hrange1:V1.rangeAt lb (lo+j*4) (o4 ik ni (.slice xm ml dm) (.slice xt n dt)):=fun q v hv=>(b1.cell (p:=⟨lb,lo+j*4+q,none⟩) (block_lt_of_cell (hrange q v hv))).trans (hrange q v hv)
      obtain ⟨V2,hV2⟩:∃ V,V=V1.setCells wr.heap.size 0 (o4 ik ni (.slice xm ml dm) (.slice xt n dt)):=⟨_,rfl⟩
      have r2:RW V2 wr.heap.size 0 (o4 ik ni (.slice xm ml dm) (.slice xt n dt)):=by rw [hV2];exact r1.stored _ rfl
      have b2:Below wr.heap.size wr V2:=by rw [hV2];exact below_setCells (Nat.le_refl _) _ _ _ b1
      have f2:V2.cell? ⟨wr.heap.size,2,none⟩=some (.slice xm ml dm):=r2.range 2 _ rfl
      have f3:V2.cell? ⟨wr.heap.size,3,none⟩=some (.slice xt n dt):=r2.range 3 _ rfl
      have H1:=Hid.mk' hV1
      have H2:=Hid.mk' hV2
      clear hV1 hV2 hz r1 r2 b1 hrange hK oa ob km kt
      go_wp2_with (first
       | (with_reducible (refine id (?_:wpList _ _ _ _ _ _));refine wpList_store_mid rfl 41 _ _ rfl wr.heap.size 0 #[.int .i64 0,.int .i64 0,.slice none 0 0,.slice none 0 0] rfl rfl th1 (infoOpL _ _ _ _) (oneOpL _ _ _ _ _ _ _ _) ?_;rw [←H1.out];clear th1 H1)
       | (refine wpList_load_mid rfl 41 _ rfl lb (lo+j*4) rfl (o4 ik ni (.slice xm ml dm) (.slice xt n dt)) _ hrange1 Tryz.underlying41 rfl (infoOp _ _ _ _) ?_)
       | (with_reducible (refine id (?_:wpList _ _ _ _ _ _));refine wpList_store_mid rfl 41 _ _ rfl wr.heap.size 0 (o4 ik ni (.slice xm ml dm) (.slice xt n dt)).toArray rfl rfl th2 (infoOpA _ _ _ _) (oneOp _ _ _ _ _ _ _ _) ?_;rw [List.toList_toArray,←H2.out];clear th2 H2))
      go_roundw
      case rel=>exact ⟨k+1,_,by omega,by go_num,rfl,below_next b b2⟩
      case measure=>simp [intOf];omega
  · have q0:¬((k:Int)<(ca:Int)+(cb:Int)):=by omega
    clear hk hlt
    by_cases hz:(100000:Int)<z
    · have cK:=hK wr b
      clear hK oa ob
      go_wp2_with (go_at_call 17;refine cK.mono ?_;clear cK;rintro e w5 ⟨rfl,hb5⟩)
      go_ret
      exact ⟨rfl,below_next b hb5⟩
    · obtain ⟨G1,E1,K1,N1,X1,lK1,lN1,lX1,nc1,nr1⟩:=new_both n0 n1 b0 b1 l0 l1
      obtain ⟨G2,E2,K2,N2,X2,lK2,lN2,lX2,nc2,nr2⟩:=new_both 32 n1 z0 b1 hz0 l1
      have hmk:=fun W=>make_bytes W 32 32 rfl (by decide)
      have zB:∀ W:World,BytesIn (W.alloc (.cells (zb 32) 5)) (.slice (some ⟨W.heap.size,0,none⟩) 32 32) 32 z0:=fun W=>row_bytes (by decide) (RowAt.fresh fun j hj=>zb_at 32 j hj)
      have ab:∀ (W:World) (o:Obj),Below W.heap.size W (W.alloc o):=fun W o=>(Below.refl _ _).alloc (Nat.le_refl _) _
      have c1:=lent_any (.slice x0 n0 d0) n0 b0 wr (h0.keep b) (by omega)
      have c2:=fun W hb=>lent_any (.slice x1 n1 d1) n1 b1 W (h1.keep hb) (by omega)
      have c3:=fun u v W hb hu hv=>nc1 u v W (hT.keep hb) hu hv
      have c4:∀ W,Below w.heap.size w W→Calls Tryz.prog 18 #[.slice (some ⟨W.heap.size,0,none⟩) 32 32,.slice x1 n1 d1] (W.alloc (.cells (zb 32) 5)) fun e w'=>∃ p,e = .returned (.tuple #[.pointer p,.int .i64 E2])∧((¬G2∧p=none)∨(G2∧∃ g,p=some ⟨g,0,none⟩∧W.heap.size≤g∧CCtx w' g K2 N2 X2 0))∧Below W.heap.size W w':=fun W hb=>(nc2 _ _ _ (hT.keep (below_next hb (ab W _))) (zB W) (h1.keep (below_next hb (ab W _)))).mono fun _ _ ⟨p,he,h,hb'⟩=>⟨p,he,h.imp (fun h=>h) (fun ⟨h,g,hp,hg,hc⟩=>⟨h,g,hp,Nat.le_trans (ab W _).size hg,hc⟩),below_next (ab W _) hb'⟩
      have c5:=fun W hb=>nr1 (.slice x0 n0 d0) (.slice x1 n1 d1) W (h0.keep hb) (h1.keep hb)
      have c6:∀ W,Below w.heap.size w W→Calls Tryz.prog 19 #[.slice (some ⟨W.heap.size,0,none⟩) 32 32,.slice x1 n1 d1] (W.alloc (.cells (zb 32) 5)) fun e w'=>∃ p,e = .returned (.tuple #[.pointer p,.int .i64 E2])∧((¬G2∧p=none)∨(G2∧∃ g,p=some ⟨g,0,none⟩∧W.heap.size≤g∧RCtx w' g K2 N2 X2 0))∧Below W.heap.size W w':=fun W hb=>(nr2 _ _ _ (zB W) (h1.keep (below_next hb (ab W _)))).mono fun _ _ ⟨p,he,h,hb'⟩=>⟨p,he,h.imp (fun h=>h) (fun ⟨h,g,hp,hg,hc⟩=>⟨h,g,hp,Nat.le_trans (ab W _).size hg,hc⟩),below_next (ab W _) hb'⟩
      clear nc1 nc2 nr1 nr2 zB ab h0 h1
      go_upto_region 13 with (first
       | (go_at_call 8;refine c1.mono ?_;clear c1;rintro e w1 ⟨ga,pa',rfl,ha,-,ra,hb1⟩;(have bb1:=below_next b hb1);(have y1:=c2 w1 bb1);clear c2 hb1 b)
       | (go_at_call 8;refine y1.mono ?_;clear y1;rintro e w2 ⟨gi,pi',rfl,hi,-,ri,hb2⟩;(have bb2:=below_next bb1 hb2);(replace ra:=ra.stay (by omega) hb2);(have y2:=c3 _ _ w2 bb2 (lent_bytes ra ha) (lent_bytes ri hi));clear c3 hb2 bb1)
       | (go_at_call 18;refine y2.mono ?_;clear y2;rintro e w3 ⟨p3,rfl,j3,hb3⟩;(have z23:=hb3.size);(have z2:=bb2.size);(have bb3:=below_next bb2 hb3);(have y3:=c4 w3 bb3);clear c4 hb3 bb2 ra ri ha hi))
      go_upto_region 16 with (first
       | rw [hmk]
       | (go_at_call 18;refine y3.mono ?_;clear y3;rintro e w4 ⟨p4,rfl,j4,b34⟩;(have bb4:=below_next bb3 b34);(have y4:=c5 w4 bb4);clear c5 bb3)
       | (go_at_call 19;refine y4.mono ?_;clear y4;rintro e w5 ⟨p5,rfl,j5,b45⟩;(have bb5:=below_next bb4 b45);(have y5:=c6 w5 bb5);clear c6 bb4)
       | (go_at_call 19;refine y5.mono ?_;clear y5;rintro e w6 ⟨p6,rfl,j6,b56⟩;(have bb6:=below_next bb5 b56);clear bb5))
      obtain ⟨gc,gr,gd,gq,hw1,hw2,pr1,pr2,hd⟩:=pairs_of z2 z23 b34 b45 b56 j3 j4 j5 j6
      have cK:=hK w6 bb6
      clear j3 j4 j5 j6 b34 b45 b56 z2 z23 hmk hK
      go_cut [111] from 84 (fun s111 wc=>s111 = .bool false∧Below w6.heap.size w6 wc)
      case first =>
       rcases hw1 with ⟨rfl,rfl⟩ | ⟨rfl,rfl,-⟩
       · rcases hw2 with ⟨rfl,rfl⟩ | ⟨rfl,rfl,-⟩
         · go_wp2_with (first
            | (go_at_call 15;refine (hnum _ _).mono ?_;rintro e wn ⟨rfl,hwn⟩;obtain rfl:=hwn.symm)
            | (go_at_call 17;refine cK.mono ?_;clear cK;rintro e w7 ⟨rfl,hb7⟩))
           go_meet
           case rel=>exact ⟨rfl,hb7⟩
         · go_wp2_with (first
            | (go_at_call 15;refine (hnum _ _).mono ?_;rintro e wn ⟨rfl,hwn⟩;obtain rfl:=hwn.symm)
            | (go_at_call 17;refine cK.mono ?_;clear cK;rintro e w7 ⟨rfl,hb7⟩))
           go_meet
           case rel=>exact ⟨rfl,hb7⟩
       · rcases hw2 with ⟨rfl,rfl⟩ | ⟨rfl,rfl,-⟩
         · go_wp2_with (first
            | (go_at_call 15;refine (hnum _ _).mono ?_;rintro e wn ⟨rfl,hwn⟩;obtain rfl:=hwn.symm)
            | (go_at_call 17;refine cK.mono ?_;clear cK;rintro e w7 ⟨rfl,hb7⟩))
           go_meet
           case rel=>exact ⟨rfl,hb7⟩
         · go_wp2_with (first
            | (go_at_call 15;refine (hnum _ _).mono ?_;rintro e wn ⟨rfl,hwn⟩;obtain rfl:=hwn.symm)
            | (go_at_call 17;refine cK.mono ?_;clear cK;rintro e w7 ⟨rfl,hb7⟩))
           go_meet
           case rel=>exact ⟨rfl,hb7⟩
      case rest =>
      obtain ⟨rfl,hb7⟩:=hcut
      have bb7:=below_next bb6 hb7
      replace pr1:=pr1.imp (fun h=>h) (fun ⟨h,k⟩=>And.intro (h.keep hb7) (k.keep hb7))
      replace pr2:=pr2.imp (fun h=>h) (fun ⟨h,k⟩=>And.intro (h.keep hb7) (k.keep hb7))
      clear hb7 bb6 cK hz
      have nn0:∀ a:Addr,¬(some a=none):=fun _ h=>by cases h
      go_wp2
      go_loopw [20] (fun i wq=>∃ k m1 m2:Nat,k≤ca+cb∧m1≤k∧m2≤k∧i = .int .i64 (k:Int)∧PairQ wq p3 gc gr K1 N1 X1 m1∧PairQ wq p4 gd gq K2 N2 X2 m2∧Below w.heap.size w wq) (fun i _=>ca+cb - (intOf i).toNat)
      case atStart=>exact ⟨0,0,0,Nat.zero_le _,Nat.le_refl _,Nat.le_refl _,by go_num,pr1,pr2,bb7⟩
      case round =>
       clear pr1 pr2 bb7
       obtain ⟨k,m1,m2,hk,hm1,hm2,rfl,p1,p2,b⟩:=hrel
       by_cases ha:k<ca
       · have qa:(k:Int)<(ca:Int):=by omega
         rcases hw1 with ⟨rfl,rfl⟩ | ⟨rfl,rfl,lgc,lgr,ne1⟩
         · by_cases hb:k<cb
           · have qb:(k:Int)<(cb:Int):=by omega
             rcases hw2 with ⟨rfl,rfl⟩ | ⟨rfl,rfl,lgd,lgq,ne2⟩
             · clear oa ob hd
               go_wp2
               go_roundw
               case rel=>exact ⟨k+1,m1,m2,by omega,by omega,by omega,by go_num,p1,p2,b⟩
               case measure=>simp [intOf];omega
             · obtain ⟨lb2,lo2,ik2,ni2,xm2,ml2,dm2,xt2,tn2,dt2,M2,T2,hxo2,hlb2,hg2,hu2,ht2,lM2,lT2,km2,kt2⟩:=ob.at b k hb
               subst hxo2
               obtain ⟨xd,xq⟩:=p2.resolve_left (nn0 _)
               have y2:Calls Tryz.prog 20 #[.pointer (some ⟨gd,0,none⟩),.pointer (some ⟨gq,0,none⟩),.agg (o4 ik2 ni2 (.slice xm2 ml2 dm2) (.slice xt2 tn2 dt2)).toArray] wr _:=qstep_any gd gq m2 K2 N2 X2 lK2 lN2 lX2 (by omega) ik2 ni2 _ _ ml2 tn2 M2 T2 lM2 lT2 km2 kt2 wr (hT.keep b) xd xq ne2 hu2 ht2
               clear oa ob hT hd
               go_wp2_with (first
                | (refine wpList_load_on rfl 41 _ rfl lb2 (lo2+k*4) rfl (o4 ik2 ni2 (.slice xm2 ml2 dm2) (.slice xt2 tn2 dt2)) _ hg2 Tryz.underlying41 rfl (infoOp _ _ _ _) ?_)
                | (go_at_call 20;refine y2.mono ?_;clear y2;rintro e w2 ⟨rfl,q2,hq2,c2,r2,mv2⟩;(have b2:=b.trans (mv2.below _ lgd lgq b.size))))
               go_roundw
               case rel=>exact ⟨k+1,m1,q2,by omega,by omega,by omega,by go_num,.inl rfl,.inr ⟨c2,r2⟩,b2⟩
               case measure=>simp [intOf];omega
           · have qb:¬((k:Int)<(cb:Int)):=by omega
             clear oa ob hd
             go_wp2
             go_roundw
             case rel=>exact ⟨k+1,m1,m2,by omega,by omega,by omega,by go_num,p1,p2,b⟩
             case measure=>simp [intOf];omega
         · by_cases hb:k<cb
           · have qb:(k:Int)<(cb:Int):=by omega
             rcases hw2 with ⟨rfl,rfl⟩ | ⟨rfl,rfl,lgd,lgq,ne2⟩
             · obtain ⟨lb1,lo1,ik1,ni1,xm1,ml1,dm1,xt1,tn1,dt1,M1,T1,hxo1,hlb1,hg1,hu1,ht1,lM1,lT1,km1,kt1⟩:=oa.at b k ha
               subst hxo1
               obtain ⟨xc,xr⟩:=p1.resolve_left (nn0 _)
               have y1:Calls Tryz.prog 20 #[.pointer (some ⟨gc,0,none⟩),.pointer (some ⟨gr,0,none⟩),.agg (o4 ik1 ni1 (.slice xm1 ml1 dm1) (.slice xt1 tn1 dt1)).toArray] wr _:=qstep_any gc gr m1 K1 N1 X1 lK1 lN1 lX1 (by omega) ik1 ni1 _ _ ml1 tn1 M1 T1 lM1 lT1 km1 kt1 wr (hT.keep b) xc xr ne1 hu1 ht1
               replace hd:=hd.resolve_left (nn0 _)
               clear oa ob hT hd
               go_wp2_with (first
                | (refine wpList_load_on rfl 41 _ rfl lb1 (lo1+k*4) rfl (o4 ik1 ni1 (.slice xm1 ml1 dm1) (.slice xt1 tn1 dt1)) _ hg1 Tryz.underlying41 rfl (infoOp _ _ _ _) ?_)
                | (go_at_call 20;refine y1.mono ?_;clear y1;rintro e w1 ⟨rfl,q1,hq1,c1,r1,mv1⟩;(have b1:=b.trans (mv1.below _ lgc lgr b.size));clear hg1))
               go_roundw
               case rel=>exact ⟨k+1,q1,m2,by omega,by omega,by omega,by go_num,.inr ⟨c1,r1⟩,.inl rfl,b1⟩
               case measure=>simp [intOf];omega
             · obtain ⟨lb1,lo1,ik1,ni1,xm1,ml1,dm1,xt1,tn1,dt1,M1,T1,hxo1,hlb1,hg1,hu1,ht1,lM1,lT1,km1,kt1⟩:=oa.at b k ha
               subst hxo1
               obtain ⟨xc,xr⟩:=p1.resolve_left (nn0 _)
               have y1:Calls Tryz.prog 20 #[.pointer (some ⟨gc,0,none⟩),.pointer (some ⟨gr,0,none⟩),.agg (o4 ik1 ni1 (.slice xm1 ml1 dm1) (.slice xt1 tn1 dt1)).toArray] wr _:=qstep_any gc gr m1 K1 N1 X1 lK1 lN1 lX1 (by omega) ik1 ni1 _ _ ml1 tn1 M1 T1 lM1 lT1 km1 kt1 wr (hT.keep b) xc xr ne1 hu1 ht1
               replace hd:=hd.resolve_left (nn0 _)
               obtain ⟨lb2,lo2,ik2,ni2,xm2,ml2,dm2,xt2,tn2,dt2,M2,T2,hxo2,hlb2,hg2,hu2,ht2,lM2,lT2,km2,kt2⟩:=ob.at b k hb
               subst hxo2
               obtain ⟨xd,xq⟩:=p2.resolve_left (nn0 _)
               obtain ⟨e1,e2,e3,e4⟩:=hd.resolve_left (nn0 _)
               have y2:∀ V,Moves gc gr wr V→Calls Tryz.prog 20 #[.pointer (some ⟨gd,0,none⟩),.pointer (some ⟨gq,0,none⟩),.agg (o4 ik2 ni2 (.slice xm2 ml2 dm2) (.slice xt2 tn2 dt2)).toArray] V _:=fun V mv=>qstep_any gd gq m2 K2 N2 X2 lK2 lN2 lX2 (by omega) ik2 ni2 _ _ ml2 tn2 M2 T2 lM2 lT2 km2 kt2 V (hT.keep (b.trans (mv.below _ lgc lgr b.size))) (xd.moves mv e1 e2) (xq.moves mv e3 e4) ne2 (mv.bytes _ _ _ hu2) (mv.bytes _ _ _ ht2)
               have g2:∀ V,Moves gc gr wr V→V.rangeAt lb2 (lo2+k*4) (o4 ik2 ni2 (.slice xm2 ml2 dm2) (.slice xt2 tn2 dt2)):=fun V mv q v hv=>((mv.below _ lgc lgr b.size).cell (p:=⟨lb2,lo2+k*4+q,none⟩) hlb2).trans (hg2 q v hv)
               clear oa ob hT hd
               go_wp2_with (first
                | (refine wpList_load_on rfl 41 _ rfl lb1 (lo1+k*4) rfl (o4 ik1 ni1 (.slice xm1 ml1 dm1) (.slice xt1 tn1 dt1)) _ hg1 Tryz.underlying41 rfl (infoOp _ _ _ _) ?_)
                | (go_at_call 20;refine y1.mono ?_;clear y1;rintro e w1 ⟨rfl,q1,hq1,c1,r1,mv1⟩;(have b1:=b.trans (mv1.below _ lgc lgr b.size));(have y2:=y2 w1 mv1);(have g2:=g2 w1 mv1);clear hg1)
                | (refine wpList_load_on rfl 41 _ rfl lb2 (lo2+k*4) rfl (o4 ik2 ni2 (.slice xm2 ml2 dm2) (.slice xt2 tn2 dt2)) _ g2 Tryz.underlying41 rfl (infoOp _ _ _ _) ?_)
                | (go_at_call 20;refine y2.mono ?_;clear y2;rintro e w2 ⟨rfl,q2,hq2,c2,r2,mv2⟩;(have b2:=b1.trans (mv2.below _ lgd lgq b1.size))))
               go_roundw
               case rel=>exact ⟨k+1,q1,q2,by omega,by omega,by omega,by go_num,.inr ⟨c1.moves mv2 e1.symm e3.symm,r1.moves mv2 e2.symm e4.symm⟩,.inr ⟨c2,r2⟩,b2⟩
               case measure=>simp [intOf];omega
           · have qb:¬((k:Int)<(cb:Int)):=by omega
             obtain ⟨lb1,lo1,ik1,ni1,xm1,ml1,dm1,xt1,tn1,dt1,M1,T1,hxo1,hlb1,hg1,hu1,ht1,lM1,lT1,km1,kt1⟩:=oa.at b k ha
             subst hxo1
             obtain ⟨xc,xr⟩:=p1.resolve_left (nn0 _)
             have y1:Calls Tryz.prog 20 #[.pointer (some ⟨gc,0,none⟩),.pointer (some ⟨gr,0,none⟩),.agg (o4 ik1 ni1 (.slice xm1 ml1 dm1) (.slice xt1 tn1 dt1)).toArray] wr _:=qstep_any gc gr m1 K1 N1 X1 lK1 lN1 lX1 (by omega) ik1 ni1 _ _ ml1 tn1 M1 T1 lM1 lT1 km1 kt1 wr (hT.keep b) xc xr ne1 hu1 ht1
             replace hd:=hd.resolve_left (nn0 _)
             have Hd:=Hid.mk' hd
             clear oa ob hT hd
             go_wp2_with (first
              | (refine wpList_load_on rfl 41 _ rfl lb1 (lo1+k*4) rfl (o4 ik1 ni1 (.slice xm1 ml1 dm1) (.slice xt1 tn1 dt1)) _ hg1 Tryz.underlying41 rfl (infoOp _ _ _ _) ?_)
              | (go_at_call 20;refine y1.mono ?_;clear y1;rintro e w1 ⟨rfl,q1,hq1,c1,r1,mv1⟩;(have b1:=b.trans (mv1.below _ lgc lgr b.size));clear hg1))
             go_roundw
             case rel=>exact ⟨k+1,q1,m2,by omega,by omega,by omega,by go_num,.inr ⟨c1,r1⟩,p2.moves Hd.out mv1,b1⟩
             case measure=>simp [intOf];omega
       · have qa:¬((k:Int)<(ca:Int)):=by omega
         by_cases hb:k<cb
         · have qb:(k:Int)<(cb:Int):=by omega
           rcases hw2 with ⟨rfl,rfl⟩ | ⟨rfl,rfl,lgd,lgq,ne2⟩
           · clear oa ob hd
             go_wp2
             go_roundw
             case rel=>exact ⟨k+1,m1,m2,by omega,by omega,by omega,by go_num,p1,p2,b⟩
             case measure=>simp [intOf];omega
           · obtain ⟨lb2,lo2,ik2,ni2,xm2,ml2,dm2,xt2,tn2,dt2,M2,T2,hxo2,hlb2,hg2,hu2,ht2,lM2,lT2,km2,kt2⟩:=ob.at b k hb
             subst hxo2
             obtain ⟨xd,xq⟩:=p2.resolve_left (nn0 _)
             have y2:Calls Tryz.prog 20 #[.pointer (some ⟨gd,0,none⟩),.pointer (some ⟨gq,0,none⟩),.agg (o4 ik2 ni2 (.slice xm2 ml2 dm2) (.slice xt2 tn2 dt2)).toArray] wr _:=qstep_any gd gq m2 K2 N2 X2 lK2 lN2 lX2 (by omega) ik2 ni2 _ _ ml2 tn2 M2 T2 lM2 lT2 km2 kt2 wr (hT.keep b) xd xq ne2 hu2 ht2
             have Hd:=Hid.mk' (hd.imp (fun h=>h) fun h=>(fun ⟨e1,e2,e3,e4⟩=>⟨e1.symm,e3.symm,e2.symm,e4.symm⟩) (h.resolve_left (nn0 _)):p3=none∨(gc≠gd∧gc≠gq∧gr≠gd∧gr≠gq))
             clear oa ob hT hd
             go_wp2_with (first
              | (refine wpList_load_on rfl 41 _ rfl lb2 (lo2+k*4) rfl (o4 ik2 ni2 (.slice xm2 ml2 dm2) (.slice xt2 tn2 dt2)) _ hg2 Tryz.underlying41 rfl (infoOp _ _ _ _) ?_)
              | (go_at_call 20;refine y2.mono ?_;clear y2;rintro e w2 ⟨rfl,q2,hq2,c2,r2,mv2⟩;(have b2:=b.trans (mv2.below _ lgd lgq b.size))))
             go_roundw
             case rel=>exact ⟨k+1,m1,q2,by omega,by omega,by omega,by go_num,p1.moves Hd.out mv2,.inr ⟨c2,r2⟩,b2⟩
             case measure=>simp [intOf];omega
         · have qb:¬((k:Int)<(cb:Int)):=by omega
           clear oa ob hd p1 p2
           go_wp2
           go_ret
           exact ⟨rfl,b⟩
end Go.Proofs.YtcgkajlehdgpoaaGreatDoor
