/- What the proof stands on: G9B, G9C, G9F, G9D. -/
import Derived.Test.YtibdhadbflfdpaaGreatDoorA8MathM
import Derived.Test.YtibdhadbflfdpaaGreatDoorLentM
import Derived.Test.YtibdhadbflfdpaaGreatDoorPNumM
import Derived.Test.YtibdhadbflfdpaaGreatDoorZFM
namespace Go.Proofs.YtibdhadbflfdpaaGreatDoor
open Go.RowKit
abbrev b2 (a b:Nat):List Value:=[.int .u64 a,.int .u64 b]
theorem info2a (x y:Nat):(Tryz.prog.info? 228).map (·.size)=some (b2 x y).toArray.size:=by kernel_rfl
theorem one2 (x y:Nat):(b2 x y).toArray.all (·.oneCell')=true:=by simp [Value.oneCell']
theorem info2:(Tryz.prog.info? 228).map (·.size)=some 2:=by kernel_rfl
set_option maxHeartbeats 1000000 in
theorem shiftOf_any (k:Nat) (hk:k<16) (w:World) :
 Calls Tryz.prog 237 #[.int .i64 k] w fun e w'=>e = .returned (.int .i64 ((56 - 8*(k%8):Nat):Int))∧w'=w:=by
 go_enter Tryz.func237,Tryz.ntmps237
 go_wp2
 go_ret
 refine ⟨?_,rfl⟩
 have e:(56:Int) - (k:Int)%8*8=((56 - 8*(k%8):Nat):Int):=by omega
 show Ending.returned (.int .i64 (56 - (k:Int)%8*8))=_
 rw [e]
set_option maxHeartbeats 1000000 in
theorem gplus_any (u v:V8) (w:World) :
 Calls Tryz.prog 232 #[blV u,blV v] w fun e w'=>e = .returned (blV (u ^^^ v))∧Below w.heap.size w w':=by
 have h1:=u64_xor_nat (wd u 0) (wd v 0) (wd_lt _ _) (wd_lt _ _)
 have h2:=u64_xor_nat (wd u 64) (wd v 64) (wd_lt _ _) (wd_lt _ _)
 rw [←wd_xor] at h1 h2
 unfold blV
 generalize wd (u ^^^ v) 0=a at *
 generalize wd (u ^^^ v) 64=b at *
 generalize wd u 0=c at *
 generalize wd v 0=d at *
 generalize wd u 64=x at *
 generalize wd v 64=y at *
 go_enter Tryz.func232,Tryz.ntmps232
 go_wp2
 have r:=RW.fresh ((w.alloc (.cells #[.int .u64 c,.int .u64 x] 228)).alloc (.cells #[.int .u64 d,.int .u64 y] 228)) (b2 a b) 228
 rw [World.size_alloc,World.size_alloc] at r
 exact bodyPost_ret (results_cell_mid Tryz.results232 _ _ (w.heap.size+1+1) 0 (b2 a b) _ rfl r.range Tryz.underlying228 rfl info2) rfl ⟨rfl,(((Below.refl _ _).alloc (Nat.le_refl _) _).alloc (by simp) _).alloc (by simp;omega) _⟩
theorem same_words (u v:V8):(((wd (u ^^^ v) 0 ||| wd (u ^^^ v) 64:Nat):Int) == 0)=decide (u=v):=by
 by_cases h:u=v
 · subst h
   rw [BitVec.xor_self,decide_eq_true rfl]
   rw [show (0#128:V8)=vZ from rfl,wd_zero,wd_zero]
   rfl
 · rw [decide_eq_false h]
   refine beq_false_of_ne fun e=>h ?_
   have e':wd (u ^^^ v) 0 ||| wd (u ^^^ v) 64=0:=by omega
   obtain ⟨e0,e1⟩:=Nat.or_eq_zero_iff.1 e'
   rw [wd_xor] at e0 e1
   have hx:∀ a b:Nat,a ^^^ b=0→a=b:=fun a b h=>by
    have:=congrArg (fun y=>y ^^^ b) h
    simpa [Nat.xor_assoc] using this
   exact wd_inj (hx _ _ e0) (hx _ _ e1)
set_option maxHeartbeats 1000000 in
theorem gsame_any (u v:V8) (w:World) :
 Calls Tryz.prog 204 #[blV u,blV v] w fun e w'=>e = .returned (.bool (decide (u=v)))∧Below w.heap.size w w':=by
 have h1:=u64_or_nat (wd (u ^^^ v) 0) (wd (u ^^^ v) 64) (wd_lt _ _) (wd_lt _ _)
 have h2:=same_words u v
 have cp:=fun W=>gplus_any u v W
 unfold blV at *
 generalize decide (u=v)=T at *
 generalize wd (u ^^^ v) 0=a at *
 generalize wd (u ^^^ v) 64=b at *
 generalize wd u 0=c at *
 generalize wd v 0=d at *
 generalize wd u 64=x at *
 generalize wd v 64=y at *
 generalize (a ||| b)=o at *
 go_enter Tryz.func204,Tryz.ntmps204
 go_wp2_with (go_at_call 232;refine (cp _).mono ?_;clear cp;rintro e w1 ⟨rfl,hb1⟩)
 go_ret
 refine ⟨rfl,(Below.trans (((Below.refl _ _).alloc (Nat.le_refl _) _).alloc (by simp) _) (hb1.mono (by simp;omega))).alloc (Nat.le_trans (by simp;omega) hb1.size) _⟩
set_option maxRecDepth 20000 in
set_option maxHeartbeats 2000000 in
theorem gbytes_any (v:V8) (w:World) :
 Calls Tryz.prog 200 #[blV v] w fun e w'=>∃ g,e = .returned (.slice (some ⟨g,0,none⟩) 16 16)∧w.heap.size≤g∧RowAt .u8 w' g 0 16 (byV v)∧Below w.heap.size w w':=by
 have hmk:=fun W=>make_bytes W 16 16 rfl (by decide)
 have cs:=fun k hk W=>shiftOf_any k hk W
 have hwb:=wd_byte v
 have hwl:=wd_lt v
 unfold blV
 obtain ⟨B,hB⟩:∃ B,B=byV v:=⟨_,rfl⟩
 rw [←hB] at hwb ⊢
 clear hB
 go_enter Tryz.func200,Tryz.ntmps200
 go_wp2_with (rw [hmk])
 obtain ⟨V,hV⟩:∃ V,V=w.alloc (.cells #[.int .u64 (wd v 0),.int .u64 (wd v 64)] 228):=⟨_,rfl⟩
 have hVs:V.heap.size=w.heap.size+1:=by rw [hV];simp
 have rV:RW V w.heap.size 0 (b2 (wd v 0) (wd v 64)):=by rw [hV];exact RW.fresh _ _ _
 have bV:Below w.heap.size w V:=by rw [hV];exact (Below.refl _ _).alloc (Nat.le_refl _) _
 have hZ:=RowAt.zero V 16 5
 have bZ:Below V.heap.size V (V.alloc (.cells (zb 16) 5)):=(Below.refl _ _).alloc (Nat.le_refl _) _
 rw [←hV]
 rw [hVs] at hZ
 have rZ:=rV.still bZ
 have bZ':Below w.heap.size w (V.alloc (.cells (zb 16) 5)):=below_next bV bZ
 clear hV hVs rV bV hmk bZ
 generalize V.alloc (.cells (zb 16) 5)=V2 at *
 go_loopw [8] (fun i wr=>∃ k:Nat,k≤16∧i = .int .i64 k∧RowAt .u8 wr (w.heap.size+1) 0 16 (pr B (fun _=>0) k)∧RW wr w.heap.size 0 (b2 (wd v 0) (wd v 64))∧Below w.heap.size w wr) (fun i _=>16 - (intOf i).toNat)
 case atStart=>exact ⟨0,Nat.zero_le _,rfl,hZ,rZ,bZ'⟩
 case round =>
  clear hZ rZ bZ'
  obtain ⟨k,hk,rfl,hA,r,b⟩:=hrel
  by_cases hlt:k<16
  · obtain ⟨a1,a2⟩:=hA k hlt
    rw [Nat.zero_add] at a1 a2
    have hs:=hA.next hlt (v:=(B k:Int)) rfl
    obtain ⟨q,hq⟩:∃ q,q=k / 8:=⟨_,rfl⟩
    obtain ⟨sh,hsh⟩:∃ sh,sh=56 - 8*(k%8):=⟨_,rfl⟩
    obtain ⟨x,hx⟩:∃ x,x=wd v (64*q):=⟨_,rfl⟩
    have hc:wr.cell? ⟨w.heap.size,q,none⟩=some (.int .u64 x):=by
     have h:=r.range q (.int .u64 x) (by
      rcases (show q=0∨q=1 by omega) with rfl | rfl <;> rw [hx] <;> rfl)
     rwa [Nat.zero_add] at h
    have cs1:=cs k hlt
    have hb:=hwb k
    rw [←hq,←hx,←hsh] at hb
    rw [←hsh] at cs1
    have hxl:x<18446744073709551616:=by rw [hx];exact hwl _
    have t1:(k:Int).tdiv 8=(q:Int):=by rw [Int.tdiv_eq_ediv_of_nonneg (by omega)];omega
    have t2:(k:Int) / 8=(q:Int):=by omega
    have t6:IntKind.i64.wrap ((k:Int).tdiv 8)=(q:Int):=by rw [t1];simp only [IntKind.wrap_i64];omega
    have t7:IntKind.i64.wrap (q:Int)=(q:Int):=by simp only [IntKind.wrap_i64];omega
    have t3:(0:Int)≤(q:Int)∧(q:Int)<2:=by omega
    have t4:(0:Int)≤(k:Int)∧(k:Int)<16:=by omega
    have t5:(0:Int)≤(sh:Int)∧(sh:Int)<64:=by omega
    have t8:IntKind.u8.wrap ((x:Int) / 2 ^ sh)=(B k:Int):=by
     rw [←hb]
     show ((x:Int) / 2 ^ sh)%256=_
     simp
    have n1:¬w.heap.size+1=w.heap.size:=by omega
    clear hq hsh hx cs hwb hwl hb hxl
    go_wp2
    have hS0:wr.drew.cell? ⟨w.heap.size,q,none⟩=some (.int .u64 x):=hc
    have hS1:∀ v:Value,(wr.drew.setCell ⟨w.heap.size+1,k,none⟩ v).cell? ⟨w.heap.size,q,none⟩=some (.int .u64 x):=fun v=>(World.cell?_of_block (Below.heap_setCell _ ⟨w.heap.size+1,k,none⟩ v w.heap.size (by show w.heap.size≠w.heap.size+1;omega))).trans hc
    go_region_held3 (fun w'=>w'.cell? ⟨w.heap.size,q,none⟩=some (.int .u64 x)) (first | assumption | exact hS1 _) (first | (go_at_call 237;refine (cs1 _).mono ?_;clear cs1;rintro e w1 ⟨rfl,rfl⟩))
    go_wp2
    go_roundw
    case rel=>exact ⟨k+1,by omega,by go_num,hs.drew,((r.far (w.heap.size+1) k [.int .u8 (B k)] (.inl (by omega)))).drew,(b.setCell (Nat.le_succ _) _).drew⟩
    case measure=>simp [intOf];omega
  · obtain rfl:k=16:=by omega
    replace hA:=hA.congr (fun j hj=>pr_full B (fun _=>0) hj)
    clear cs hwb hwl
    go_wp2
    go_ret
    exact ⟨_,rfl,Nat.le_succ _,hA,b⟩
end Go.Proofs.YtibdhadbflfdpaaGreatDoor
namespace Go.Proofs.YtibdhadbflfdpaaGreatDoor
open Go.RowKit
theorem RW.set0 {w:World} {g a b:Nat} (r:RW w g 0 (b2 a b)) (y:Nat):RW (w.setCell ⟨g,0,none⟩ (.int .u64 y)) g 0 (b2 y b):=by
 have l:RW w g 0 [.int .u64 a]:=RW.left (ds:=[.int .u64 b]) r
 have q:RW w g (0+1) [.int .u64 b]:=RW.right (cs:=[.int .u64 a]) r
 exact (l.stored [.int .u64 y] rfl).join (q.far g 0 [.int .u64 y] (.inr (.inr (Nat.le_refl _))))
theorem RW.set1 {w:World} {g a b:Nat} (r:RW w g 0 (b2 a b)) (y:Nat):RW (w.setCell ⟨g,1,none⟩ (.int .u64 y)) g 0 (b2 a y):=by
 have l:RW w g 0 [.int .u64 a]:=RW.left (ds:=[.int .u64 b]) r
 have q:RW w g (0+1) [.int .u64 b]:=RW.right (cs:=[.int .u64 a]) r
 exact (l.far g 1 [.int .u64 y] (.inr (.inl (Nat.le_refl _)))).join (q.stored [.int .u64 y] rfl)
abbrev RV (w:World) (g:Nat) (v:V8):Prop:=RW w g 0 (b2 (wd v 0) (wd v 64))
theorem RV.next {w:World} {g:Nat} {X:Nat→Nat} {k:Nat} (r:RV w g (toV (gpadN k X))) (hX:∀ j,X j<256) (hk:k<16):RV (w.setCell ⟨g,k / 8,none⟩ (.int .u64 ((wd (toV (gpadN k X)) (64*(k / 8)) ||| X k*2 ^ (56 - 8*(k%8))%18446744073709551616:Nat):Int))) g (toV (gpadN (k+1) X)):=by
 rw [←pad_word X hX k hk]
 unfold RV
 by_cases h:k<8
 · rw [show k / 8=0 by omega,pad_other X k 64 hk (.inr ⟨rfl,h⟩)]
   exact r.set0 _
 · rw [show k / 8=1 by omega,pad_other X k 0 hk (.inl ⟨rfl,by omega⟩)]
   exact r.set1 _
theorem RW.cellAt {w:World} {g a b q:Nat} (r:RW w g 0 (b2 a b)) (x:Nat) (hx:q=0∧x=a∨q=1∧x=b):w.cell? ⟨g,q,none⟩=some (.int .u64 x)∧w.frozen? ⟨g,q,none⟩=false:=by
 have h1:=r.range q (.int .u64 x) (by rcases hx with ⟨rfl,rfl⟩ | ⟨rfl,rfl⟩ <;> rfl)
 have h2:=(r.there q (by show q<2;omega)).2
 rw [Nat.zero_add] at h1 h2
 exact ⟨h1,h2⟩
set_option maxRecDepth 20000 in
set_option maxHeartbeats 2000000 in
theorem gblockOf_any (v:Value) (n:Nat) (X:Nat→Nat) (hn:n≤16) (hX:∀ j,X j<256) (w:World) (hv:BytesIn w v n X) :
 Calls Tryz.prog 203 #[v] w fun e w'=>e = .returned (blV (toV (gpadN n X)))∧Below w.heap.size w w':=by
 have cs:=fun k hk W=>shiftOf_any k hk W
 obtain ⟨xv,cv,rfl,-,-,-⟩:=hv.src
 have r0:RW ((w.alloc (.cells #[.int .u64 0,.int .u64 0] 228)).alloc (.cells #[.int .u64 0,.int .u64 0] 228)) w.heap.size 0 (b2 0 0):=(RW.fresh w (b2 0 0) 228).still ((Below.refl _ _).alloc (Nat.le_refl _) _)
 have r1:=RW.fresh (w.alloc (.cells #[.int .u64 0,.int .u64 0] 228)) (b2 0 0) 228
 have b1:Below w.heap.size w ((w.alloc (.cells #[.int .u64 0,.int .u64 0] 228)).alloc (.cells #[.int .u64 0,.int .u64 0] 228)):=((Below.refl _ _).alloc (Nat.le_refl _) _).alloc (by simp) _
 rw [World.size_alloc] at r1
 have r1':RV ((w.alloc (.cells #[.int .u64 0,.int .u64 0] 228)).alloc (.cells #[.int .u64 0,.int .u64 0] 228)) (w.heap.size+1) (toV (gpadN 0 X)):=by
  rw [pad_none];unfold RV;rw [wd_zero,wd_zero];exact r1
 obtain ⟨F,hF⟩:∃ F,F=toV (gpadN n X):=⟨_,rfl⟩
 rw [←hF]
 have HF:=Hid.mk' hF
 unfold blV
 obtain ⟨fx,hx⟩:∃ x,x=wd F 0:=⟨_,rfl⟩
 obtain ⟨fy,hy⟩:∃ y,y=wd F 64:=⟨_,rfl⟩
 rw [←hx,←hy]
 have Hx:=Hid.mk' hx
 have Hy:=Hid.mk' hy
 clear hx hy
 clear r1 hF
 go_enter Tryz.func203,Tryz.ntmps203
 go_wp2
 generalize (w.alloc (.cells #[.int .u64 0,.int .u64 0] 228)).alloc (.cells #[.int .u64 0,.int .u64 0] 228)=V at *
 go_loopw [8] (fun i wr=>∃ k:Nat,k≤n∧i = .int .i64 k∧RV wr (w.heap.size+1) (toV (gpadN k X))∧RW wr w.heap.size 0 (b2 0 0)∧Below w.heap.size w wr) (fun i _=>n - (intOf i).toNat)
 case atStart=>exact ⟨0,Nat.zero_le _,rfl,r1',r0,b1⟩
 case round =>
  clear r1' r0 b1
  obtain ⟨k,hk,rfl,hA,r,b⟩:=hrel
  by_cases hlt:k<n
  · clear Hx Hy
    obtain ⟨bb,ob,cb,hvt,hbb,-,hcell⟩:=hv.resolve_left (fun ⟨_,_,h⟩=>by omega)
    cases hvt
    have hlt':(k:Int)<(n:Int):=by omega
    have hs:=hA.next hX (show k<16 by omega)
    obtain ⟨q,hq⟩:∃ q,q=k / 8:=⟨_,rfl⟩
    obtain ⟨sh,hsh⟩:∃ sh,sh=56 - 8*(k%8):=⟨_,rfl⟩
    obtain ⟨x,hx⟩:∃ x,x=wd (toV (gpadN k X)) (64*q):=⟨_,rfl⟩
    obtain ⟨hc,hcf⟩:=hA.cellAt (q:=q) x (by
     rcases (show q=0∨q=1 by omega) with rfl | rfl
     · exact .inl ⟨rfl,hx⟩
     · exact .inr ⟨rfl,hx⟩)
    have cs1:=cs k (by omega)
    rw [←hsh] at cs1
    have hxl:x<18446744073709551616:=by rw [hx];exact wd_lt _ _
    rw [←hq,←hx,←hsh] at hs
    have ho:=u64_or_nat x (X k*2 ^ sh%18446744073709551616) hxl (Nat.mod_lt _ (by decide))
    obtain ⟨y,hy⟩:∃ y,y=x ||| X k*2 ^ sh%18446744073709551616:=⟨_,rfl⟩
    rw [←hy] at hs ho
    rw [show ((X k*2 ^ sh%18446744073709551616:Nat):Int)=IntKind.u64.wrap (IntKind.u64.wrap (X k:Int)*2 ^ sh) by
     rw [show IntKind.u64.wrap (X k:Int)=(X k:Int) from (by
      show (X k:Int)%18446744073709551616=_
      have:=hX k
      omega)]
     show _=(X k:Int)*2 ^ sh%18446744073709551616
     simp] at ho
    have rk:wr.cell? ⟨bb,ob+k,none⟩=some (.int .u8 (X k)):=(b.cell (p:=⟨bb,ob+k,none⟩) hbb).trans (hcell k hlt)
    have hxk:=hX k
    have t1:(k:Int).tdiv 8=(q:Int):=by rw [Int.tdiv_eq_ediv_of_nonneg (by omega)];omega
    have t2:(k:Int) / 8=(q:Int):=by omega
    have t6:IntKind.i64.wrap ((k:Int).tdiv 8)=(q:Int):=by rw [t1];simp only [IntKind.wrap_i64];omega
    have t7:IntKind.i64.wrap (q:Int)=(q:Int):=by simp only [IntKind.wrap_i64];omega
    have t3:(0:Int)≤(q:Int)∧(q:Int)<2:=by omega
    have t4:(0:Int)≤(k:Int)∧(k:Int)<(n:Int):=by omega
    have t5:(0:Int)≤(sh:Int)∧(sh:Int)<64:=by omega
    clear hq hsh hx cs hxl hv hy
    go_wp2
    go_region_with (go_at_call 237;refine (cs1 _).mono ?_;clear cs1;rintro e w1 ⟨rfl,rfl⟩)
    all_goals
     go_wp2
     go_roundw
     case rel=>exact ⟨k+1,hlt,by go_num,hs.drew,(r.far (w.heap.size+1) q [.int .u64 y] (.inl (by omega))).drew,(b.setCell (Nat.le_succ _) _).drew⟩
     case measure=>simp [intOf];omega
  · obtain rfl:k=n:=by omega
    unfold RV at hA
    rw [←HF.out,←Hx.out,←Hy.out] at hA
    clear cs HF hv hX Hx Hy
    have t0:wr.there w.heap.size 0 (b2 fx fy).toArray.size:=r.there
    go_wp2_with (first
     | (refine wpList_load_mid rfl 228 _ rfl (w.heap.size+1) 0 rfl (b2 fx fy) _ hA.range Tryz.underlying228 rfl info2 ?_)
     | (refine wpList_store_mid rfl 228 _ _ rfl w.heap.size 0 (b2 fx fy).toArray rfl rfl t0 (info2a fx fy) (one2 fx fy) ?_))
    (try simp only [Exit.inBlock,Exit.then])
    refine bodyPost_ret (results_cell_mid Tryz.results203 _ _ w.heap.size 0 (b2 fx fy) _ rfl (r.stored (b2 fx fy) rfl).range Tryz.underlying228 rfl info2) rfl ⟨rfl,?_⟩
    exact below_setCells (Nat.le_refl _) _ _ _ b
end Go.Proofs.YtibdhadbflfdpaaGreatDoor
namespace Go.Proofs.YtibdhadbflfdpaaGreatDoor
open Go.RowKit Go.Shelf
attribute [local go_sem] Oper.semAt_some
set_option maxHeartbeats 1000000 in
theorem blocks_any (xo:Option Addr) (n c:Nat) (w:World) :
 Calls Tryz.prog 231 #[.slice xo n c] w fun e w'=>e = .returned (.func (.func 259) #[] #[.pointer (some ⟨w.heap.size,0,none⟩)])∧w'=w.alloc (.cells #[.slice xo n c] 84):=by
 go_enter Tryz.func231,Tryz.ntmps231
 go_wp2
 go_ret
 exact ⟨rfl,rfl⟩
def nb (n:Nat):Nat:=(n+15) / 16
def blkT (n:Nat) (X:Nat→Nat) (k:Nat):V8:=toV (fun j=>gpadN n X (16*k+j))
theorem blkT_min (n:Nat) (X:Nat→Nat) (k m:Nat) (hm:m=16∧16*k+16≤n∨16*k+m=n∧m≤16):toV (gpadN m (fun j=>X (16*k+j)))=blkT n X k:=by
 unfold blkT
 exact toV_S fun j hj=>by
  unfold gpadN
  by_cases h:j<m
  · rw [if_pos h,if_pos (by omega)]
  · rw [if_neg h,if_neg (by omega)]
set_option maxRecDepth 100000 in
set_option maxHeartbeats 4000000 in
theorem giter_in (n:Nat) (l pb lb L:Nat) (N:Nat→Nat) (X:Nat→Nat→Nat) (hX:∀ i j,X i j<256) (U:Nat→Value) (Inv:Nat→Nat→World→Prop)
 (hlist:∀ i k W,Inv i k W→W.cell? ⟨pb,0,none⟩=some (.slice (some ⟨lb,0,none⟩) L L))
 (hcell:∀ i k W,Inv i k W→∀ j,j<L→W.cell? ⟨lb,j,none⟩=some (U j))
 (hbytes:∀ i k W,Inv i k W→∀ j,j<L→BytesIn W (U j) (N j) (X j))
 (hN:∀ j,N j<4611686018427387904) (hLn:L<1000)
 (hkeep:∀ i k W W',Inv i k W→Below W.heap.size W W'→Inv i k W')
 (hnext:∀ i W,Inv i (nb (N i)) W→Inv (i+1) 0 W)
 (hY:∀ i k W1,i<L→16*k<N i→Inv i k W1→YieldAt Fence.wide (n - 1) Tryz.prog l #[blV (blkT (N i) (X i) k)] W1 fun e W'=>e = .returned (.bool true)∧Inv i (k+1) W')
 (W:World) (h0:Inv 0 0 W) :
 CallsIn Fence.wide n Tryz.prog 259 #[.func (.yield l) #[] #[],.pointer (some ⟨pb,0,none⟩)] W fun e W'=>(∃ v,e = .returned v)∧Inv L 0 W':=by
 have c0:=hlist 0 0 W h0
 refine callsIn_of_wp Tryz.func259 rfl trivial ?_ rfl
 simp only [Tryz.ntmps259,List.size_toArray,List.length_cons,List.length_nil,Nat.reduceAdd,Nat.reduceSub,Array.replicate_succ,Array.replicate_zero,List.push_toArray,List.append_toArray,List.nil_append,List.cons_append]
 gi_wp2
 clear c0
 gi_loopw [8] (fun s wr=>∃ i:Nat,i≤L∧s = .int .i64 i∧Inv i 0 wr) (fun s _=>L - (intOf s).toNat)
 case atStart=>exact ⟨0,Nat.zero_le _,rfl,h0⟩
 case round =>
  clear h0
  obtain ⟨i,hi,rfl,hI⟩:=hrel
  by_cases hiL:i<L
  · have cl:=hcell i 0 wr hI i hiL
    have hb0:=hbytes i 0 wr hI i hiL
    have hYi:=fun k W1=>hY i k W1 hiL
    have hlt':(i:Int)<(L:Int):=by omega
    have hi0:(0:Int)≤(i:Int)∧(i:Int)<(L:Int):=by omega
    have hNi:=hN i
    obtain ⟨xo,cu,hU,-,hcap,-⟩:=hb0.src
    rw [hU] at cl
    have hbi:∀ k W,Inv i k W→BytesIn W (.slice xo (N i) cu) (N i) (X i):=fun k W h=>by rw [←hU];exact hbytes i k W h i hiL
    have hXi:=hX i
    have hki:=hkeep i
    have hni:=hnext i
    generalize N i=M at *
    generalize X i=Y at *
    clear hY hb0 hU hbytes hX hN hkeep hnext hcell hlist
    gi_wp2
    gi_loopw [5] (fun s wq=>∃ k A:Nat,A=16*k∧A<M+16∧s = .int .i64 A∧Inv i k wq) (fun s _=>M+16 - (intOf s).toNat)
    case atStart=>exact ⟨0,0,rfl,by omega,rfl,hI⟩
    case round =>
     clear hI cl
     obtain ⟨k,A,hA,hAl,rfl,hI⟩:=hrel
     by_cases hlt:A<M
     · obtain ⟨bb,ob,cb,hv,hbb,-,hc⟩:=(hbi k wr hI).resolve_left (fun ⟨_,_,h⟩=>by omega)
       cases hv
       have hAM:(A:Int)<(M:Int):=by omega
       have a1:(0:Int)≤(A:Int):=by omega
       have e1:IntKind.i64.wrap ((A:Int)+16)=(A:Int)+16:=by simp only [IntKind.wrap_i64];omega
       obtain ⟨m,hm,hmc⟩:∃ m,(m=16∧A+16≤M∨A+m=M∧m<16)∧m≤16:=by
        by_cases h:A+16≤M
        · exact ⟨16,.inl ⟨rfl,h⟩,Nat.le_refl _⟩
        · exact ⟨M - A,.inr ⟨by omega,by omega⟩,by omega⟩
       have eb:toV (gpadN m (fun j=>Y (A+j)))=blkT M Y k:=by rw [hA];exact blkT_min M Y k m (by omega)
       have cb:=gblockOf_any (.slice (some ⟨bb,ob+A,none⟩) m (cu - A)) m (fun j=>Y (A+j)) hmc (fun j=>hXi _) wr (.inr ⟨_,_,_,rfl,hbb,by omega,fun j hj=>by
        have:=hc (A+j) (by omega)
        rwa [←Nat.add_assoc] at this⟩)
       rw [eb] at cb
       have hk16:16*k<M:=by omega
       have hyy:=fun W1=>hYi k W1 hk16
       have hkk:=hki k wr
       unfold blV at *
       generalize wd (blkT M Y k) 0=fx at *
       generalize wd (blkT M Y k) 64=fy at *
       have hcu:¬cu=A:=by omega
       have hA2:A+16=16*(k+1):=by omega
       have hA3:A+16<M+16:=by omega
       have HA:=Hid.mk' hA2
       clear hA hA2 eb hbi hc hYi hki hni hXi hk16
       rcases hm with ⟨rfl,hm⟩ | ⟨hm,hm16⟩
       · have hmi:(A:Int)+16≤(M:Int):=by omega
         have e2:A+16 - A=16:=by omega
         have e4:(A:Int)+16≤(cu:Int):=by omega
         gi_wp2_with (refine ⟨trivial,(fun h=>by cases h),?_⟩;gi_at_call 203;refine (callsIn_wide.2 cb).mono ?_;clear cb;rintro e w1 ⟨rfl,hb1⟩;(replace hI:=hkk w1 hI hb1);(obtain ⟨fn,tmps,assign,body,hy,hR⟩:=hyy w1 hI))
         refine ⟨(fun h=>by cases h),hR.mono ?_⟩
         rintro e W' ⟨rfl,hI'⟩
         clear hy hR hyy hkk hI
         gi_wp2
         go_roundw
         case rel=>exact ⟨k+1,A+16,HA.out,hA3,by go_num,hI'⟩
         case measure=>simp [intOf];omega
       · have hmi:¬(A:Int)+16≤(M:Int):=by omega
         have hmj:(M:Int)<(A:Int)+16:=by omega
         have hmk:(M:Int)≤(A:Int)+16:=by omega
         have e2:M - A=m:=by omega
         have e4:(M:Int)≤(cu:Int):=by omega
         have e5:(A:Int)≤(M:Int):=by omega
         clear hm hm16
         gi_wp2_with (refine ⟨trivial,(fun h=>by cases h),?_⟩;gi_at_call 203;refine (callsIn_wide.2 cb).mono ?_;clear cb;rintro e w1 ⟨rfl,hb1⟩;(replace hI:=hkk w1 hI hb1);(obtain ⟨fn,tmps,assign,body,hy,hR⟩:=hyy w1 hI))
         refine ⟨(fun h=>by cases h),hR.mono ?_⟩
         rintro e W' ⟨rfl,hI'⟩
         clear hy hR hyy hkk hI
         gi_wp2
         go_roundw
         case rel=>exact ⟨k+1,A+16,HA.out,hA3,by go_num,hI'⟩
         case measure=>simp [intOf];omega
     · obtain rfl:k=nb M:=by unfold nb;omega
       replace hI:=hni wr hI
       have hlt':¬(A:Int)<(M:Int):=by omega
       clear hA hni hYi hbi
       gi_wp2
       go_roundw
       case rel=>exact ⟨i+1,hiL,by go_num,hI⟩
       case measure=>simp [intOf];omega
  · obtain rfl:i=L:=by omega
    have hlt':¬(i:Int)<(i:Int):=by omega
    clear hY hbytes hX hN hkeep hnext hcell hlist
    gi_wp2
    refine bodyPost_end (results_none rfl _ _ _) rfl ?_
    exact ⟨⟨_,rfl⟩,hI⟩
end Go.Proofs.YtibdhadbflfdpaaGreatDoor
namespace Go.Proofs.YtibdhadbflfdpaaGreatDoor
open Go.RowKit
theorem index_2 (x y k:Nat) (hk:k<2) (W:World):(Instr.index 228 (.agg #[.int .u64 x,.int .u64 y]) (.int .i64 k)).run Tryz.prog W = .ok (.int .u64 (if k=0 then x else y:Nat)) W:=by
 rcases (show k=0∨k=1 by omega) with rfl | rfl
 · kernel_rfl
 · kernel_rfl
theorem neg01 (b:Bool):IntKind.u64.wrap (-(if b then 1 else 0:Int))=(if b then 18446744073709551615 else 0:Nat):=by cases b <;> rfl
theorem and_all (x:Nat) (hx:x<18446744073709551616) (b:Bool):bits .and .u64 (x:Int) ((if b then 18446744073709551615 else 0:Nat):Int)=((if b then x else 0:Nat):Int):=by
 rw [u64_and_nat x _ hx (by split <;> decide)]
 cases b
 · simp
 · congr 1
   show x &&& (2 ^ 64 - 1)=x
   rw [Nat.and_two_pow_sub_one_eq_mod]
   exact Nat.mod_eq_of_lt hx
theorem step_words (a b:V8) (i:Nat):wd (gT b (i+1) a) 0=wd (gT b i a) 0 ^^^ (if b.getLsbD i then wd (gXp i a) 0 else 0)∧wd (gT b (i+1) a) 64=wd (gT b i a) 64 ^^^ (if b.getLsbD i then wd (gXp i a) 64 else 0):=by
 have h:∀ o,wd (gT b (i+1) a) o=wd (gT b i a) o ^^^ (if b.getLsbD i then wd (gXp i a) o else 0):=fun o=>by
  show wd (gT b i a ^^^ (if b.getLsbD i then gXp i a else vZ)) o=_
  rw [wd_xor]
  by_cases h:b.getLsbD i
  · rw [if_pos h,if_pos h]
  · rw [if_neg h,if_neg h,wd_zero]
 exact ⟨h 0,h 64⟩
theorem x_hi (v:V8):bits .xor .u64 ((wd v 0:Int) / 2) (bits .and .u64 16212958658533785600 (IntKind.u64.wrap (-bits .and .u64 (wd v 64:Int) 1)))=((wd (gX v) 0:Nat):Int):=by
 have h1:bits .and .u64 (wd v 64:Int) 1=(if v.getLsbD 127 then 1 else 0:Int):=by
  rw [show (1:Int)=((1:Nat):Int) from rfl,u64_and_nat _ _ (wd_lt _ _) (by decide),wd_low]
  cases v.getLsbD 127 <;> rfl
 have hl:=wd_lt v 0
 rw [h1,neg01,show (16212958658533785600:Int)=((16212958658533785600:Nat):Int) from rfl,and_all _ (by decide),show (wd v 0:Int) / 2=((wd v 0 / 2:Nat):Int) by omega,u64_xor_nat _ _ (by omega) (by split <;> decide),gX_hi]
theorem x_lo (v:V8):bits .or .u64 ((wd v 64:Int) / 2) (IntKind.u64.wrap ((wd v 0:Int)*9223372036854775808))=((wd (gX v) 64:Nat):Int):=by
 have hl:=wd_lt v 64
 rw [show IntKind.u64.wrap ((wd v 0:Int)*9223372036854775808)=((wd v 0*9223372036854775808%18446744073709551616:Nat):Int) from (by show (wd v 0:Int)*9223372036854775808%18446744073709551616=_;omega),show (wd v 64:Int) / 2=((wd v 64 / 2:Nat):Int) by omega,u64_or_nat _ _ (by omega) (Nat.mod_lt _ (by decide)),gX_lo]
theorem x_sum (s x W:Nat) (b:Bool) (hs:s<18446744073709551616) (hx:x<18446744073709551616) (hW:W / 9223372036854775808=if b then 1 else 0):bits .xor .u64 (s:Int) (bits .and .u64 (x:Int) (IntKind.u64.wrap (-((W:Int) / 9223372036854775808))))=((s ^^^ (if b then x else 0):Nat):Int):=by
 have h:(W:Int) / 9223372036854775808=(if b then 1 else 0:Int):=by
  have:(W:Int) / 9223372036854775808=((W / 9223372036854775808:Nat):Int):=by omega
  rw [this,hW]
  cases b <;> rfl
 rw [h,neg01,and_all _ hx,u64_xor_nat _ _ hs (by
  cases b
  · exact (by decide:0<18446744073709551616)
  · exact hx)]
set_option maxRecDepth 20000 in
set_option maxHeartbeats 4000000 in
theorem gtimes_any (a b:V8) (w:World) :
 Calls Tryz.prog 261 #[blV a,blV b] w fun e w'=>e = .returned (blV (gTm a b))∧Below w.heap.size w w':=by
 unfold blV
 obtain ⟨fx,hx⟩:∃ x,x=wd (gTm a b) 0:=⟨_,rfl⟩
 obtain ⟨fy,hy⟩:∃ y,y=wd (gTm a b) 64:=⟨_,rfl⟩
 rw [←hx,←hy]
 have Hx:=Hid.mk' hx
 have Hy:=Hid.mk' hy
 clear hx hy
 obtain ⟨a0,ha0⟩:∃ x,x=wd a 0:=⟨_,rfl⟩
 obtain ⟨a1,ha1⟩:∃ x,x=wd a 64:=⟨_,rfl⟩
 obtain ⟨c0,hc0⟩:∃ x,x=wd b 0:=⟨_,rfl⟩
 obtain ⟨c1,hc1⟩:∃ x,x=wd b 64:=⟨_,rfl⟩
 rw [←ha0,←ha1,←hc0,←hc1]
 have Ha0:=Hid.mk' ha0
 have Ha1:=Hid.mk' ha1
 have Hc0:=Hid.mk' hc0
 have Hc1:=Hid.mk' hc1
 clear ha0 ha1 hc0 hc1
 obtain ⟨V,hV⟩:∃ V,V=((w.alloc (.cells #[.int .u64 a0,.int .u64 a1] 228)).alloc (.cells #[.int .u64 c0,.int .u64 c1] 228)).alloc (.cells #[.int .u64 0,.int .u64 0] 228):=⟨_,rfl⟩
 have rV:RW V (w.heap.size+1+1) 0 (b2 0 0):=by
  have:=RW.fresh ((w.alloc (.cells #[.int .u64 a0,.int .u64 a1] 228)).alloc (.cells #[.int .u64 c0,.int .u64 c1] 228)) (b2 0 0) 228
  rw [World.size_alloc,World.size_alloc] at this
  rw [hV];exact this
 have rB:RW V (w.heap.size+1) 0 (b2 c0 c1):=by
  have:=(RW.fresh (w.alloc (.cells #[.int .u64 a0,.int .u64 a1] 228)) (b2 c0 c1) 228).still ((Below.refl _ _).alloc (Nat.le_refl _) (.cells #[.int .u64 0,.int .u64 0] 228))
  rw [World.size_alloc] at this
  rw [hV];exact this
 have rA:RW V w.heap.size 0 (b2 a0 a1):=by
  rw [hV];exact ((RW.fresh w (b2 a0 a1) 228).still ((Below.refl _ _).alloc (Nat.le_refl _) _)).still ((Below.refl _ _).alloc (Nat.le_refl _) _)
 have bV:Below w.heap.size w V:=by rw [hV];exact (((Below.refl _ _).alloc (Nat.le_refl _) _).alloc (by simp) _).alloc (by simp;omega) _
 obtain ⟨q1,-⟩:=rA.cellAt (q:=0) a0 (.inl ⟨rfl,rfl⟩)
 obtain ⟨q2,-⟩:=rA.cellAt (q:=1) a1 (.inr ⟨rfl,rfl⟩)
 have HV:=Hid.mk' hV
 clear hV rA
 go_enter Tryz.func261,Tryz.ntmps261
 go_upto_region 1 with (fail)
 rw [←HV.out]
 clear HV
 replace rB:=rB.drew
 replace rV:=rV.drew
 replace bV:=bV.drew
 go_region
 clear q1 q2
 generalize V.drew=V1 at *
 have hix:=fun k hk W=>index_2 c0 c1 k hk W
 go_wp2_with (refine wpList_load_mid rfl 228 _ rfl (w.heap.size+1) 0 rfl (b2 c0 c1) _ rB.range Tryz.underlying228 rfl info2 ?_)
 go_loopw [5,6,7,8,18] (fun s5 s6 s7 s8 i wr=>∃ q:Nat,q≤2∧i = .int .i64 q∧s5 = .int .u64 (wd (gXp (64*q) a) 0)∧s6 = .int .u64 (wd (gXp (64*q) a) 64)∧s7 = .int .u64 (wd (gT b (64*q) a) 0)∧s8 = .int .u64 (wd (gT b (64*q) a) 64)∧wr=V1) (fun _ _ _ _ i _=>2 - (intOf i).toNat)
 case atStart =>
  refine ⟨0,by decide,rfl,?_,?_,?_,?_,rfl⟩
  · rw [Ha0.out];rfl
  · rw [Ha1.out];rfl
  · show Value.int .u64 0 = .int .u64 ((wd vZ 0:Nat):Int);rw [wd_zero];rfl
  · show Value.int .u64 0 = .int .u64 ((wd vZ 64:Nat):Int);rw [wd_zero];rfl
 case round =>
  obtain ⟨q,hq,rfl,rfl,rfl,rfl,rfl,rfl⟩:=hrel
  by_cases hlt:q<2
  · have hi:=fun W=>hix q hlt W
    have hwd:(if q=0 then c0 else c1)=wd b (64*q):=by
     rcases (show q=0∨q=1 by omega) with rfl | rfl
     · exact Hc0.out
     · exact Hc1.out
    rw [hwd] at hi
    have hlt':(q:Int)<2:=by omega
    clear hix Hx Hy Ha0 Ha1 Hc0 Hc1 rB rV bV hwd
    go_wp2_with (rw [hi])
    clear hi
    go_loopw [5,6,7,8,10,21] (fun s5 s6 s7 s8 s10 i wq=>∃ t:Nat,t≤64∧i = .int .i64 t∧s5 = .int .u64 (wd (gXp (64*q+t) a) 0)∧s6 = .int .u64 (wd (gXp (64*q+t) a) 64)∧s7 = .int .u64 (wd (gT b (64*q+t) a) 0)∧s8 = .int .u64 (wd (gT b (64*q+t) a) 64)∧s10 = .int .u64 ((wd b (64*q)*2 ^ t%18446744073709551616:Nat):Int)∧wq=wr) (fun _ _ _ _ _ i _=>64 - (intOf i).toNat)
    case atStart=>exact ⟨0,by decide,rfl,rfl,rfl,rfl,rfl,by rw [Nat.pow_zero,Nat.mul_one,Nat.mod_eq_of_lt (wd_lt _ _)],rfl⟩
    case round =>
     obtain ⟨t,ht,rfl,rfl,rfl,rfl,rfl,rfl,rfl⟩:=hrel
     by_cases htl:t<64
     · have htl':(t:Int)<64:=by omega
       have e1:=x_hi (gXp (64*q+t) a)
       have e2:=x_lo (gXp (64*q+t) a)
       have e3:=x_sum (wd (gT b (64*q+t) a) 0) (wd (gXp (64*q+t) a) 0) _ _ (wd_lt _ _) (wd_lt _ _) (wd_top b (64*q) t htl)
       have e4:=x_sum (wd (gT b (64*q+t) a) 64) (wd (gXp (64*q+t) a) 64) _ _ (wd_lt _ _) (wd_lt _ _) (wd_top b (64*q) t htl)
       rw [←(step_words a b (64*q+t)).1] at e3
       rw [←(step_words a b (64*q+t)).2] at e4
       have e5:IntKind.u64.wrap (((wd b (64*q)*2 ^ t%18446744073709551616:Nat):Int)*2)=((wd b (64*q)*2 ^ (t+1)%18446744073709551616:Nat):Int):=by
        rw [←wd_next]
        show ((wd b (64*q)*2 ^ t%18446744073709551616:Nat):Int)*2%18446744073709551616=_
        omega
       have hg:∀ o,wd (gXp (64*q+(t+1)) a) o=wd (gX (gXp (64*q+t) a)) o:=fun o=>rfl
       have hT:∀ o,wd (gT b (64*q+(t+1)) a) o=wd (gT b (64*q+t+1) a) o:=fun o=>rfl
       rw [←hg 0] at e1
       rw [←hg 64] at e2
       rw [←hT 0] at e3
       rw [←hT 64] at e4
       generalize wd (gXp (64*q+t) a) 0=F at *
       generalize wd (gXp (64*q+t) a) 64=S at *
       generalize wd (gT b (64*q+t) a) 0=s at *
       generalize wd (gT b (64*q+t) a) 64=s2 at *
       generalize wd b (64*q)*2 ^ t%18446744073709551616=W at *
       clear hg hT
       go_wp2
       go_roundw
       case rel=>exact ⟨t+1,htl,by go_num,rfl,rfl,rfl,rfl,rfl,True.intro⟩
       case measure=>simp [intOf];omega
     · obtain rfl:t=64:=by omega
       go_wp2
       go_roundw
       case rel=>exact ⟨q+1,hlt,by go_num,rfl,rfl,rfl,rfl,True.intro⟩
       case measure=>simp [intOf];omega
  · obtain rfl:q=2:=by omega
    have t0:wr.there (w.heap.size+1+1) 0 (b2 fx fy).toArray.size:=rV.there
    have e1:wd (gT b (64*2) a) 0=fx:=Hx.out.symm
    have e2:wd (gT b (64*2) a) 64=fy:=Hy.out.symm
    rw [e1,e2]
    clear hix e1 e2 Hx Hy Ha0 Ha1 Hc0 Hc1 rB
    go_wp2_with (refine wpList_store_mid rfl 228 _ _ rfl (w.heap.size+1+1) 0 (b2 fx fy).toArray rfl rfl t0 (info2a fx fy) (one2 fx fy) ?_)
    (try simp only [Exit.inBlock,Exit.then])
    refine bodyPost_ret (results_cell_mid Tryz.results261 _ _ (w.heap.size+1+1) 0 (b2 fx fy) _ rfl (rV.stored (b2 fx fy) rfl).range Tryz.underlying228 rfl info2) rfl ⟨rfl,?_⟩
    exact below_setCells (by omega) _ _ _ bV
end Go.Proofs.YtibdhadbflfdpaaGreatDoor
