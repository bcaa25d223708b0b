/- What the proof stands on: V7C, V6L, V7D. -/
import Derived.Test.YtkoedfmdhdikaaaDoorQAppM
import Derived.Test.YtkoedfmdhdikaaaDoorV6CM
import Derived.Test.YtkoedfmdhdikaaaDoorV6EM
import Derived.Test.YtkoedfmdhdikaaaDoorV7OM
import Derived.Deep.CutRange
namespace Go.Proofs.YtkoedfmdhdikaaaDoor
open Go.RowKit
section
variable {P:Program} {md:Region.Mode} {ops:Array Oper} {Q:Exit→Act→World→Prop} {S:World→Prop} {fuel:Nat} {listed:Array Bool} {a:Act} {w:World}
theorem zA (i:Nat) {rs:List Nat} {oi:Oper} {v:Value} (cs:Array Value) (t:TypeId) (hk:S (w.alloc (.cells cs t))) (h:wpAnyH P md ops Q S fuel (listed.setIfInBounds i true) (a.put oi.dst v) (w.alloc (.cells cs t))) (hs:AllReadyH P md ops Q S fuel listed a w rs)
 (hi:ops.toList[i]? = some oi:=by rfl) (hrun:(execOp a.eval oi).run P w = .ok (.value v) (w.alloc (.cells cs t)):=by kernel_rfl) (hw:Region.wanted oi (yielded ops a.tmps)=true:=by rfl):AllReadyH P md ops Q S fuel listed a w (i :: rs):=by
 refine AllReadyH.cons (at_list hi) (fun K hK => ?_) hs
 rw [if_pos hw]
 unfold Oper.wp
 rw [hrun,Oper.upon_value]
 exact hK.out _ _ hk (fun _=>h)
theorem zX (i:Nat) {rs:List Nat} {oi:Oper} {x y:Operand} {t1 t2:TypeId} {u v r:Value} {w':World} (ho:oi.op = .call { callee := .builtin .append,args:=#[x,y],argTypes:=#[t1,t2] }) (hx:a.eval x=u) (hy:a.eval y=v) (hrun:(Builtin.append_ #[t1,t2] oi.type #[u,v]).run P w = .ok r w') (hk:S w') (h:wpAnyH P md ops Q S fuel (listed.setIfInBounds i true) (a.put oi.dst r) w') (hs:AllReadyH P md ops Q S fuel listed a w rs)
 (hi:ops.toList[i]? = some oi:=by rfl) (hw:Region.wanted oi (yielded ops a.tmps)=true:=by rfl):AllReadyH P md ops Q S fuel listed a w (i :: rs):=by
 refine AllReadyH.cons (at_list hi) (fun K hK => ?_) hs
 rw [if_pos hw]
 unfold Oper.wp execOp
 simp only [ho,resolve,invoke,builtin,Sem.run_bind,Sem.run_pure,Result.andThen_ok,List.map_toArray,List.map_cons,List.map_nil,hx,hy,hrun]
 exact hK.out _ _ hk (fun _=>h)
end
theorem app_run (ty:TypeId) (w:World) (base:Nat) (v:Value) (n:Nat) (X:Nat→Nat) (hown:Own base w v n X) (s:Value) (m:Nat) (bs:Nat→Nat) (hs:BytesIn w s m bs) (hl:n+m≤140737488355328) (hbase:base≤w.heap.size) :
 ∃ v' w',(Builtin.append_ #[24,24] ty #[v,s]).run Tryd.prog w = .ok v' w'∧Own base w' v' (n+m) (cat n X bs)∧w.grownBy w' v.ownBlock:=by
 obtain ⟨i0,hi,hz0,hz1,hz2⟩:=info_parts Tryd.info5
 obtain ⟨xo,c,rfl,hxn,-,hsrc⟩:=hs.src
 obtain ⟨v',w',h1,h2,h3⟩:=run_append_any (P:=Tryd.prog) w 24 ty base 5 i0 (.int .u8 0) 1 Tryd.underlying24 hi hz0 hz1 hz2 rfl v n _ hown xo m c bs (hsrc w (Below.refl _ _)) hxn (by unfold maxLen;omega) (by omega) hbase
 exact ⟨v',w',h1,by unfold Own;rw [←ints_add];exact h2,h3⟩
theorem rJ2_any (g:Nat) (u v:Value) (a b:Nat) (A B:Nat→Nat) (ha:a≤65536) (hb:b≤65536) (lA:∀ j,A j<256) (lB:∀ j,B j<256) (w:World) (r:RW w g 0 [u,v]) (h1:BytesIn w u a A) (h2:BytesIn w v b B):Calls Tryd.prog 20 #[.slice (some ⟨g,0,none⟩) 2 2] w fun e w'=>∃ s,e = .returned s∧Own w.heap.size w' s (t2L a b) (t2B a A b B)∧Below w.heap.size w w' :=
 rJoin_any (some ⟨g,0,none⟩) 2 2 _ (thr a b 0) (thr A B lZ) (fun i hi=>by
  match i,hi with
  | 0,_=>exact ha
  | 1,_=>exact hb
  | i+2,hi=>omega) (by decide) (by show 0+a+b≤_;omega) w (pieces_rw [u,v] _ _ r rfl (fun i y hy=>by
  match i,hy with
  | 0,hy=>cases hy;exact h1
  | 1,hy=>cases hy;exact h2
  | i+2,hy=>simp at hy) (thr_lt lA lB lZ_lt7))
theorem pkT_left (d:PkD) (i n j:Nat) (hj:j<pkL d i n):cat (1+t2L d.an d.bn+2) (cat (1+t2L d.an d.bn) (cat 1 (litB [1]) (t2B d.an d.a d.bn d.b)) (beN i 2)) (beN n 2) j=pkT d i n j:=by
 rw [catA,catA]
 have e:=pkL_eq d i n
 show _=cat 1 (litB [1]) (cat (t2L d.an d.bn) (t2B d.an d.a d.bn d.b) (cat 2 (beN i 2) (cat 2 (beN n 2) (fun _=>0)))) j
 unfold cat
 split
 · rfl
 · split
   · rfl
   · split
     · rfl
     · rw [if_pos (by omega)]
theorem pkL_left (d:PkD) (i n:Nat):1+t2L d.an d.bn+2+2=pkL d i n:=by
 rw [pkL_eq];omega
theorem rpsk_many (xo:Option Addr) (cnt cap:Nat) (hn:100<cnt) (w:World):Calls Tryd.prog 7 #[.slice xo cnt cap] w fun e w'=>e = .returned (.tuple #[.slice none 0 0,.int .i64 1])∧w'=w:=by
 have h1:(100:Int)<(cnt:Int):=by omega
 clear hn
 go_enter Tryd.func7,Tryd.ntmps7
 go_wp2
 go_ret2
 exact ⟨rfl,rfl⟩
set_option maxRecDepth 20000 in
set_option maxHeartbeats 4000000 in
theorem rpsk_bad (xo:Option Addr) (cnt cap:Nat) (D:Nat→PkD) (hn:cnt≤100) (no:pkAll D cnt=false) (w:World) (h:PksIn w xo cnt D):Calls Tryd.prog 7 #[.slice xo cnt cap] w fun e w'=>e = .returned (.tuple #[.slice none 0 0,.int .i64 1])∧w'=w:=by
 have hn':¬(100:Int)<(cnt:Int):=by omega
 go_enter Tryd.func7,Tryd.ntmps7
 go_wp2
 go_loopw [4] (fun i wr=>∃ q:Nat,q≤cnt∧i = .int .i64 (q:Int)∧Hid (∀ i,i<q→pkOk (D i)=true)∧wr=w) (fun i _=>cnt - (intOf i).toNat)
 case atStart=>exact ⟨0,Nat.zero_le _,rfl,Hid.mk' (fun i hi=>absurd hi (Nat.not_lt_zero _)),rfl⟩
 case round =>
  obtain ⟨q,hq,rfl,hh,rfl⟩:=hrel
  by_cases hlt:q<cnt
  · obtain ⟨b,off,cs,rfl,hl,hr,hp⟩:=h q hlt
    obtain ⟨v0,v1,v2,rfl,h0,h1,h2⟩:=hp
    obtain ⟨x0,c0,rfl,-⟩:=h0.src
    obtain ⟨x1,c1,rfl,-⟩:=h1.src
    obtain ⟨x2,c2,rfl,-⟩:=h2.src
    have e0:wr.cell? ⟨b,off+q*3,none⟩=some (.slice x0 (D q).an c0):=by simpa using hr 0 _ rfl
    have e1:wr.cell? ⟨b,off+q*3+1,none⟩=some (.slice x1 (D q).bn c1):=hr 1 _ rfl
    have e2:wr.cell? ⟨b,off+q*3+2,none⟩=some (.slice x2 (D q).kn c2):=hr 2 _ rfl
    have hlt':(q:Int)<(cnt:Int):=by omega
    have hk0:(0:Int)≤(q:Int):=by omega
    have HO:Hid (pkOk (D q)=((decide ((D q).an≤255) && decide ((D q).bn≤255)) && decide ((D q).kn≤65528))):=Hid.mk' rfl
    generalize (D q).an=an at *
    generalize (D q).bn=bn at *
    generalize (D q).kn=kn at *
    clear hr h0 h1 h2
    clear h
    by_cases i0:an≤255
    · by_cases i1:bn≤255
      · by_cases i2:kn≤65528
        · have j0:¬(255:Int)<(an:Int):=by omega
          have j1:¬(255:Int)<(bn:Int):=by omega
          have j2:¬(65528:Int)<(kn:Int):=by omega
          have okq:Hid (pkOk (D q)=true):=Hid.mk' (by rw [HO.out,decide_eq_true i0,decide_eq_true i1,decide_eq_true i2];rfl)
          clear i0 i1 i2
          go_wp2
          go_roundw
          case rel =>
           refine ⟨q+1,hlt,by go_num,Hid.mk' (fun i hi => ?_),by first | rfl | trivial⟩
           rcases Nat.lt_succ_iff_lt_or_eq.1 hi with h' | rfl
           · exact hh.out i h'
           · exact okq.out
          case measure=>simp [intOf];omega
        · have j0:¬(255:Int)<(an:Int):=by omega
          have j1:¬(255:Int)<(bn:Int):=by omega
          have j2:(65528:Int)<(kn:Int):=by omega
          clear i0 i1 i2
          go_wp2
          go_ret2
          exact ⟨rfl,rfl⟩
      · have j0:¬(255:Int)<(an:Int):=by omega
        have j1:(255:Int)<(bn:Int):=by omega
        clear i0 i1
        go_wp2
        go_ret2
        exact ⟨rfl,rfl⟩
    · have j0:(255:Int)<(an:Int):=by omega
      clear i0
      go_wp2
      go_ret2
      exact ⟨rfl,rfl⟩
  · obtain rfl:q=cnt:=by omega
    exfalso
    rw [pkAll_all hh.out] at no
    cases no
set_option maxRecDepth 20000 in
set_option maxHeartbeats 8000000 in
theorem rpsk_good (xo:Option Addr) (cnt cap:Nat) (D:Nat→PkD) (hn:cnt≤100) (hB:∀ i,i<cnt→pkB (D i)) (ok:pkAll D cnt=true) (w:World) (h:PksIn w xo cnt D):Calls Tryd.prog 7 #[.slice xo cnt cap] w fun e w'=>∃ x c,e = .returned (.tuple #[.slice x 32 c,.int .i64 0])∧BytesIn w' (.slice x 32 c) 32 (pskS D cnt cnt)∧Below w.heap.size w w':=by
 have hn':¬(100:Int)<(cnt:Int):=by omega
 have hH:=Hid.mk' h
 have HB:=Hid.mk' hB
 go_enter Tryd.func7,Tryd.ntmps7
 go_wp2
 go_loopw [4] (fun i wr=>∃ q:Nat,q≤cnt∧i = .int .i64 (q:Int)∧Hid (∀ i,i<q→pkOk (D i)=true)∧wr=w) (fun i _=>cnt - (intOf i).toNat)
 case atStart=>exact ⟨0,Nat.zero_le _,rfl,Hid.mk' (fun i hi=>absurd hi (Nat.not_lt_zero _)),rfl⟩
 case round =>
  obtain ⟨q,hq,rfl,hh,rfl⟩:=hrel
  by_cases hlt:q<cnt
  · obtain ⟨b,off,cs,rfl,hl,hr,hp⟩:=h q hlt
    obtain ⟨v0,v1,v2,rfl,h0,h1,h2⟩:=hp
    obtain ⟨x0,c0,rfl,-⟩:=h0.src
    obtain ⟨x1,c1,rfl,-⟩:=h1.src
    obtain ⟨x2,c2,rfl,-⟩:=h2.src
    have e0:wr.cell? ⟨b,off+q*3,none⟩=some (.slice x0 (D q).an c0):=by simpa using hr 0 _ rfl
    have e1:wr.cell? ⟨b,off+q*3+1,none⟩=some (.slice x1 (D q).bn c1):=hr 1 _ rfl
    have e2:wr.cell? ⟨b,off+q*3+2,none⟩=some (.slice x2 (D q).kn c2):=hr 2 _ rfl
    have hlt':(q:Int)<(cnt:Int):=by omega
    have hk0:(0:Int)≤(q:Int):=by omega
    have okq:=pkOk_le (pkAll_at ok q hlt)
    obtain ⟨i0,i1,i2⟩:=okq
    have HO:Hid (pkOk (D q)=((decide ((D q).an≤255) && decide ((D q).bn≤255)) && decide ((D q).kn≤65528))):=Hid.mk' rfl
    generalize (D q).an=an at *
    generalize (D q).bn=bn at *
    generalize (D q).kn=kn at *
    clear hr h0 h1 h2
    have j0:¬(255:Int)<(an:Int):=by omega
    have j1:¬(255:Int)<(bn:Int):=by omega
    have j2:¬(65528:Int)<(kn:Int):=by omega
    clear i0 i1 i2 h hB
    go_wp2
    go_roundw
    case rel=>exact ⟨q+1,hlt,by go_num,Hid.mk' (fun i hi=>pkAll_at ok i (Nat.lt_of_lt_of_le hi hlt)),by first | rfl | trivial⟩
    case measure=>simp [intOf];omega
  · obtain rfl:q=cnt:=by omega
    clear hh hB h
    rename World=>w0
    have hm:=make_bytes w0 32 32 rfl (by decide)
    have hba:Below w0.heap.size w0 (w0.alloc (.cells (zb 32) 5)):=(Below.refl _ _).alloc (Nat.le_refl _) _
    have oz:BytesIn (w0.alloc (.cells (zb 32) 5)) (.slice (some ⟨w0.heap.size,0,none⟩) 32 32) 32 lZ:=(Own.made w0.heap.size w0 32 (by decide) (Nat.le_refl _)).bytesIn
    go_wp2_with (rw [hm])
    clear hm
    have hH:=hH.out
    have hB:=HB.out
    clear HB hq
    generalize w0.alloc (.cells (zb 32) 5)=wz at *
    go_loopw [5,6,7,8,9] (fun s i _ _ _ wt=>∃ (p:Nat) (x:Option Addr) (c:Nat),p≤q∧i = .int .i64 (p:Int)∧s = .slice x 32 c∧BytesIn wt (.slice x 32 c) 32 (pskS D q p)∧Below w0.heap.size w0 wt) (fun _ i _ _ _ _=>q - (intOf i).toNat)
    case atStart=>exact ⟨0,_,_,Nat.zero_le _,rfl,rfl,oz,hba⟩
    case round =>
     clear oz hba
     obtain ⟨p,x5,d5,hp,rfl,rfl,B5,hb⟩:=hrel
     by_cases hlt:p<q
     · obtain ⟨b,off,cs,rfl,hl,hr,hpk⟩:=hH p hlt
       obtain ⟨v0,v1,v2,rfl,h0,h1,h2⟩:=hpk
       obtain ⟨x0,c0,rfl,-⟩:=h0.src
       obtain ⟨x1,c1,rfl,-⟩:=h1.src
       obtain ⟨x2,c2,rfl,-⟩:=h2.src
       have e0:wr.cell? ⟨b,off+p*3,none⟩=some (.slice x0 (D p).an c0):=(hb.cell (p:=⟨b,off+p*3,none⟩) hl).trans (by simpa using hr 0 _ rfl)
       have e1:wr.cell? ⟨b,off+p*3+1,none⟩=some (.slice x1 (D p).bn c1):=(hb.cell (p:=⟨b,off+p*3+1,none⟩) hl).trans (hr 1 _ rfl)
       have e2:wr.cell? ⟨b,off+p*3+2,none⟩=some (.slice x2 (D p).kn c2):=(hb.cell (p:=⟨b,off+p*3+2,none⟩) hl).trans (hr 2 _ rfl)
       replace hl:=Nat.lt_of_lt_of_le hl hb.size
       replace h0:=h0.keep hb
       replace h1:=h1.keep hb
       replace h2:=h2.keep hb
       have hlt':(p:Int)<(q:Int):=by omega
       have hk0:(0:Int)≤(p:Int):=by omega
       have okp:=pkAll_at ok p hlt
       have hBp:=hB p hlt
       obtain ⟨i0,i1,i2⟩:=pkOk_le okp
       have hTL:=pkT_left (D p) p q
       have hLL:=pkL_left (D p) p q
       have hle:=pkL_le okp p q
       have eS:pskS D q (p+1)=xtN 32 (exN 32 (xtN 32 lZ (D p).kn (D p).k) lDps (pkL (D p) p q) (pkT (D p) p q) 32) 32 (pskS D q p):=rfl
       have cJ:=fun (W:World) (g:Nat) (hW:Below wr.heap.size wr W) (r:RW W g 0 [.slice x0 (D p).an c0,.slice x1 (D p).bn c1])=>rJ2_any g (.slice x0 (D p).an c0) (.slice x1 (D p).bn c1) (D p).an (D p).bn (D p).a (D p).b (by omega) (by omega) hBp.1 hBp.2.1 W r (h0.keep hW) (h1.keep hW)
       have nI:=fun (W:World)=>rbytes11_any p 2 (by decide) W
       have nN:=fun (W:World)=>rbytes11_any q 2 (by decide) W
       have cE1:=fun (W:World) (v:Value) (hW:Below wr.heap.size wr W) (a1:BytesIn W v 32 lZ)=>rXt_any v (.slice x2 (D p).kn c2) 32 (D p).kn lZ (D p).k lZ_lt7 hBp.2.2 (by decide) (by omega) W a1 (h2.keep hW)
       have cEx:=fun (W:World) (v u:Value) (a1:BytesIn W v 32 (xtN 32 lZ (D p).kn (D p).k)) (a2:BytesIn W u (pkL (D p) p q) (pkT (D p) p q))=>rExpand_good5 lDps (by decide) (by decide) v u 32 (pkL (D p) p q) (xtN 32 lZ (D p).kn (D p).k) (pkT (D p) p q) (xtN_lt _ _ _ _) (pkT_lt hBp p q) (by decide) (by omega) 32 (by decide) W a1 a2
       replace cEx:∀ (W:World) (v u:Value),BytesIn W v 32 (xtN 32 lZ (D p).kn (D p).k)→BytesIn W u (pkL (D p) p q) (pkT (D p) p q)→Calls Tryd.prog 22 #[v,.string { data:=#[100,101,114,105,118,101,100,32,112,115,107] },u,.int .i64 32] W _:=cEx
       have cE2:=fun (W:World) (v u:Value) (a1:BytesIn W v 32 (exN 32 (xtN 32 lZ (D p).kn (D p).k) lDps (pkL (D p) p q) (pkT (D p) p q) 32)) (a2:BytesIn W u 32 (pskS D q p))=>rXt_any v u 32 32 _ (pskS D q p) (exN_lt 32 _ lDps _ _ 32) (pskS_lt D q p) (by decide) (by decide) W a1 a2
       rw [←eS] at cE2
       clear eS hBp okp i0 i1 i2 h0 h1 hr hn ok
       obtain ⟨SN,hSN⟩:∃ S,S=pskS D q (p+1):=⟨_,rfl⟩
       rw [←hSN] at cE2
       have HSN:=Hid.mk' hSN
       clear hSN
       generalize pskS D q p=SP at *
       generalize exN 32 (xtN 32 lZ (D p).kn (D p).k) lDps (pkL (D p) p q) (pkT (D p) p q) 32=XE at *
       generalize xtN 32 lZ (D p).kn (D p).k=X1 at *
       generalize pkL (D p) p q=TL at *
       generalize pkT (D p) p q=TF at *
       generalize t2L (D p).an (D p).bn=T at *
       generalize t2B (D p).an (D p).a (D p).bn (D p).b=F at *
       generalize beN p 2=FI at *
       generalize beN q 2=FN at *
       generalize (D p).an=an at *
       generalize (D p).bn=bn at *
       generalize (D p).kn=kn at *
       generalize (D p).k=kB at *
       have HT:=Hid.mk' hTL
       have HL:=Hid.mk' hLL
       have hT3:1+T+2+2≤600:=by omega
       clear hTL hLL hle
       go_upto_region 12 with (fail)
       go_cut [7] from 45 to 87 (fun s7 wc=>Own wr.heap.size wc s7 (1+T) (cat 1 (litB [1]) F)∧Below wr.heap.size wr wc)
       case first =>
        have hdW:Below wr.heap.size wr wr.drew:=(Below.refl _ _).drew
        have hz0:=hdW.size
        have f0:=(hdW.cell (p:=⟨b,off+p*3,none⟩) hl).trans e0
        have f1:=(hdW.cell (p:=⟨b,off+p*3+1,none⟩) hl).trans e1
        replace hl:=Nat.lt_of_lt_of_le hl hz0
        refine wp_region_noPanic ?_
        refine wp_region_held_drew (S:=fun u=>Below wr.drew.heap.size wr.drew u) (by kernel_rfl) (Below.refl _ _) (fun hS => ?_)
        clear cE1 cEx cE2 nI nN h2 hb B5 e0 e1 e2
        generalize wr.drew=V at *
        refine tg 1 hS ?_
        (try simp only [pS])
        refine tg 2 hS ?_
        (try simp only [pS])
        refine tg 3 hS (v:=pA b (off+p*3)) ?_
        (try simp only [pS])
        refine tg 4 hS (v:=pA b (off+p*3)) ?_
        (try simp only [pS])
        refine tc 5 hS (fun u hu=>(hu.cell (p:=⟨b,off+p*3,none⟩) hl).trans f0) ?_
        (try simp only [pS])
        refine tg 6 hS ?_
        (try simp only [pS])
        refine tg 7 hS ?_
        (try simp only [pS])
        refine tg 8 hS (v:=pA b (off+p*3)) ?_
        (try simp only [pS])
        refine tg 9 hS (v:=pA b (off+p*3+1)) ?_
        (try simp only [pS])
        refine tc 10 hS (fun u hu=>(hu.cell (p:=⟨b,off+p*3+1,none⟩) hl).trans f1) ?_
        (try simp only [pS])
        refine wpAnyH_ready (rs:=[0,11]) (by kernel_rfl) (by simp) ?_
        refine zA 0 (v := .slice (some ⟨V.heap.size,0,none⟩) 1 1) #[.int .u8 ((1:Nat):Int)] 5 (hS.alloc hS.size _) ?_ ?_
        · have hb:Below V.heap.size V (V.alloc (.cells #[.int .u8 ((1:Nat):Int)] 5)):=(Below.refl _ _).alloc (Nat.le_refl _) _
          have oL:=own_lit1 V.heap.size V 1 hS.size
          replace hS:=below_next hS hb
          generalize V.alloc (.cells #[.int .u8 ((1:Nat):Int)] 5)=w1_0 at *
          (try simp only [pS])
          refine wpAnyH_ready (rs:=[11]) (by kernel_rfl) (by simp) ?_
          refine zG 11 (fun g => .slice (some ⟨g,0,none⟩) 2 2) [.slice x0 an c0,.slice x1 bn c1] 24 (fun u hb=>below_next hS hb) (fun w2_11 g11 lr hb rL => ?_) ?_
          · replace hS:=below_next hS hb
            (try simp only [pS])
            replace oL:=oL.below hb
            refine wpAnyH_ready (rs:=[12]) (by kernel_rfl) (by simp) ?_
            refine zC 12 (cJ w2_11 g11 (below_next hdW hS) rL) (fun e w3_12 hr => ?_) ?_
            · obtain ⟨s12,rfl,o12,hb⟩:=hr
              (obtain ⟨y12,m12,e12⟩:=o12.slice);subst e12;have BJ:=o12.bytesIn;clear o12
              replace hS:=below_next hS hb
              refine ⟨_,rfl,hS,?_⟩
              (try simp only [pS])
              replace oL:=oL.below hb
              replace rL:=rL.still hb
              obtain ⟨s13,w13,hrun,o13,hg⟩:=app_run 24 w3_12 V.heap.size _ 1 _ oL _ T F BJ (by omega) hS.size
              have hS2:=Own.grown hS hg oL (Nat.le_refl _) hS.size
              refine wpAnyH_ready (rs:=[13]) (by kernel_rfl) (by simp) ?_
              refine zX 13 rfl rfl rfl hrun hS2 ?_ AllReadyH.nil
              (try simp only [pS])
              refine tg 14 hS2 ?_
              (try simp only [pS])
              refine wpAnyH_done (by kernel_rfl) ?_ _
              refine NoPanic.normal ?_
              go_wp2
              go_meet
              case rel=>exact ⟨o13.lower hz0,below_next hdW hS2⟩
            exact AllReadyH.nil
          exact AllReadyH.nil
        refine zG 11 (fun g => .slice (some ⟨g,0,none⟩) 2 2) [.slice x0 an c0,.slice x1 bn c1] 24 (fun u hb=>below_next hS hb) (fun w1_11 g11 lr hb rL => ?_) ?_
        · replace hS:=below_next hS hb
          (try simp only [pS])
          refine wpAnyH_ready (rs:=[0,12]) (by kernel_rfl) (by simp) ?_
          refine zA 0 (v := .slice (some ⟨w1_11.heap.size,0,none⟩) 1 1) #[.int .u8 ((1:Nat):Int)] 5 (hS.alloc hS.size _) ?_ ?_
          · have hb:Below w1_11.heap.size w1_11 (w1_11.alloc (.cells #[.int .u8 ((1:Nat):Int)] 5)):=(Below.refl _ _).alloc (Nat.le_refl _) _
            have oL:=own_lit1 V.heap.size w1_11 1 hS.size
            replace hS:=below_next hS hb
            generalize w1_11.alloc (.cells #[.int .u8 ((1:Nat):Int)] 5)=w2_0 at *
            (try simp only [pS])
            replace rL:=rL.still hb
            refine wpAnyH_ready (rs:=[12]) (by kernel_rfl) (by simp) ?_
            refine zC 12 (cJ w2_0 g11 (below_next hdW hS) rL) (fun e w3_12 hr => ?_) ?_
            · obtain ⟨s12,rfl,o12,hb⟩:=hr
              (obtain ⟨y12,m12,e12⟩:=o12.slice);subst e12;have BJ:=o12.bytesIn;clear o12
              replace hS:=below_next hS hb
              refine ⟨_,rfl,hS,?_⟩
              (try simp only [pS])
              replace rL:=rL.still hb
              replace oL:=oL.below hb
              obtain ⟨s13,w13,hrun,o13,hg⟩:=app_run 24 w3_12 V.heap.size _ 1 _ oL _ T F BJ (by omega) hS.size
              have hS2:=Own.grown hS hg oL (Nat.le_refl _) hS.size
              refine wpAnyH_ready (rs:=[13]) (by kernel_rfl) (by simp) ?_
              refine zX 13 rfl rfl rfl hrun hS2 ?_ AllReadyH.nil
              (try simp only [pS])
              refine tg 14 hS2 ?_
              (try simp only [pS])
              refine wpAnyH_done (by kernel_rfl) ?_ _
              refine NoPanic.normal ?_
              go_wp2
              go_meet
              case rel=>exact ⟨o13.lower hz0,below_next hdW hS2⟩
            exact AllReadyH.nil
          refine zC 12 (cJ w1_11 g11 (below_next hdW hS) rL) (fun e w2_12 hr => ?_) ?_
          · obtain ⟨s12,rfl,o12,hb⟩:=hr
            (obtain ⟨y12,m12,e12⟩:=o12.slice);subst e12;have BJ:=o12.bytesIn;clear o12
            replace hS:=below_next hS hb
            refine ⟨_,rfl,hS,?_⟩
            (try simp only [pS])
            replace rL:=rL.still hb
            refine wpAnyH_ready (rs:=[0]) (by kernel_rfl) (by simp) ?_
            refine zA 0 (v := .slice (some ⟨w2_12.heap.size,0,none⟩) 1 1) #[.int .u8 ((1:Nat):Int)] 5 (hS.alloc hS.size _) ?_ ?_
            · have hb:Below w2_12.heap.size w2_12 (w2_12.alloc (.cells #[.int .u8 ((1:Nat):Int)] 5)):=(Below.refl _ _).alloc (Nat.le_refl _) _
              have oL:=own_lit1 V.heap.size w2_12 1 hS.size
              replace hS:=below_next hS hb
              generalize w2_12.alloc (.cells #[.int .u8 ((1:Nat):Int)] 5)=w3_0 at *
              (try simp only [pS])
              replace rL:=rL.still hb
              replace BJ:=BJ.keep hb
              obtain ⟨s13,w13,hrun,o13,hg⟩:=app_run 24 w3_0 V.heap.size _ 1 _ oL _ T F BJ (by omega) hS.size
              have hS2:=Own.grown hS hg oL (Nat.le_refl _) hS.size
              refine wpAnyH_ready (rs:=[13]) (by kernel_rfl) (by simp) ?_
              refine zX 13 rfl rfl rfl hrun hS2 ?_ AllReadyH.nil
              (try simp only [pS])
              refine tg 14 hS2 ?_
              (try simp only [pS])
              refine wpAnyH_done (by kernel_rfl) ?_ _
              refine NoPanic.normal ?_
              go_wp2
              go_meet
              case rel=>exact ⟨o13.lower hz0,below_next hdW hS2⟩
            exact AllReadyH.nil
          exact AllReadyH.nil
        exact AllReadyH.nil
       case rest =>
       rename_i s7 wc
       obtain ⟨o7,hb7⟩:=hcut
       obtain ⟨x7,c7,e7⟩:=o7.slice
       subst e7
       have s2:1+T+2≤140737488355328:=by omega
       have s3:1+T+2+2≤140737488355328:=by omega
       have z7:=hb7.size
       have e3:wc.cell? ⟨b,off+p*3+2,none⟩=some (.slice x2 kn c2):=(hb7.cell (p:=⟨b,off+p*3+2,none⟩) hl).trans e2
       have K2:=Hid.mk' e2
       clear e0 e1 e2 cJ e3
       go_upto_region 14 with (first
        | (go_at_call 21;refine (nI _).mono ?_;clear nI;rintro e w6 ⟨v6,rfl,ow6,hb6⟩;(obtain ⟨x6,d6,e6⟩:=ow6.slice);subst e6;have o6:=o7.below hb6;have b6:=below_next hb7 hb6;(obtain ⟨y6,z6,ey6,hxn6,-,src6⟩:=ow6.bytesIn.src);(obtain ⟨rfl,rfl⟩:x6=y6∧d6=z6:=(by injection ey6 with h1 h2 h3;exact ⟨h1,h3⟩));have r6:=src6 w6 (Below.refl _ _);have z6':=b6.size;clear src6 ey6 ow6 o7 hb7)
        | (at_builtin;refine wpList_append_bytes rfl (.tmp 65) (.tmp 67) rfl wr.heap.size _ _ _ rfl o6 x6 2 d6 FI rfl r6 hxn6 s2 z6' ?_;intro v8 w8 o8 g8;have b8:=Own.grown b6 g8 o6 (Nat.le_refl _) z6';(obtain ⟨y8,d8,e8⟩:=o8.slice);subst e8;clear o6 b6 r6 z6')
        | (go_at_call 21;refine (nN _).mono ?_;clear nN;rintro e w9 ⟨v9,rfl,ow9,hb9⟩;(obtain ⟨x9,d9,e9⟩:=ow9.slice);subst e9;have o9:=o8.below hb9;have b9:=below_next b8 hb9;(obtain ⟨y9,z9,ey9,hxn9,-,src9⟩:=ow9.bytesIn.src);(obtain ⟨rfl,rfl⟩:x9=y9∧d9=z9:=(by injection ey9 with h1 h2 h3;exact ⟨h1,h3⟩));have r9:=src9 w9 (Below.refl _ _);have z9':=b9.size;clear src9 ey9 ow9 o8 b8)
        | (at_builtin;refine wpList_append_bytes rfl (.tmp 68) (.tmp 71) rfl wr.heap.size _ _ _ rfl o9 x9 2 d9 FN rfl r9 hxn9 s3 z9' ?_;intro v10 w10 o10 g10;have b10:=Own.grown b9 g10 o9 (Nat.le_refl _) z9';(obtain ⟨y10,d10,e10⟩:=o10.slice);subst e10;clear o9 b9 r9 z9'))
       rw [HL.out] at o10
       have BT:=(o10.congr HT.out).bytesIn
       clear o10 z7 HT
       have hd:Below w10.heap.size w10 w10.drew:=(Below.refl _ _).drew
       replace BT:=BT.keep hd
       have b11:=below_next b10 hd
       have e2:=(b11.cell (p:=⟨b,off+p*3+2,none⟩) hl).trans K2.out
       have hl2:=Nat.lt_of_lt_of_le hl b11.size
       clear hd b10
       refine wp_region_noPanic ?_
       refine wp_region_held_drew (S:=fun u=>Below w10.drew.heap.size w10.drew u) (by kernel_rfl) (Below.refl _ _) (fun hS => ?_)
       generalize w10.drew=V at *
       refine tg 1 hS ?_
       (try simp only [pS])
       refine tg 2 hS ?_
       (try simp only [pS])
       refine tg 3 hS (v:=pA b (off+p*3)) ?_
       (try simp only [pS])
       refine tg 4 hS (v:=pA b (off+p*3+2)) ?_
       (try simp only [pS])
       refine tc 5 hS (fun u hu=>(hu.cell (p:=⟨b,off+p*3+2,none⟩) hl2).trans e2) ?_
       (try simp only [pS])
       refine tg 7 hS ?_
       (try simp only [pS])
       refine wpAnyH_ready (rs:=[0]) (by kernel_rfl) (by simp) ?_
       have hm:=make_bytes V 32 32 rfl (by decide)
       have hba:Below V.heap.size V (V.alloc (.cells (zb 32) 5)):=(Below.refl _ _).alloc (Nat.le_refl _) _
       have oz:BytesIn (V.alloc (.cells (zb 32) 5)) (.slice (some ⟨V.heap.size,0,none⟩) 32 32) 32 lZ:=(Own.made V.heap.size V 32 (by decide) (Nat.le_refl _)).bytesIn
       refine AllReadyH.cons (at_list (by rfl)) (fun K hK => ?_) AllReadyH.nil
       go_simp
       refine hK.out _ _ hba (fun _ => ?_)
       clear hK K hm
       (try simp only [pS])
       refine cl 6 (cE1 (V.alloc (.cells (zb 32) 5)) _ (below_next b11 hba) oz) ?_
       rintro e u1 ⟨y1,m1,rfl,Y1,hb1⟩
       replace BT:=(BT.keep hba).keep hb1
       replace hba:=below_next hba hb1
       refine ⟨_,rfl,hba,?_⟩
       clear hb1 oz
       (try simp only [pS])
       refine cl 8 (cEx u1 _ _ Y1 BT) ?_
       rintro e u3 ⟨s3,rfl,Y3,hb3⟩
       (obtain ⟨y3,m3,e3,-⟩:=Y3.src);subst e3
       replace hba:=below_next hba hb3
       refine ⟨_,rfl,hba,?_⟩
       clear hb3 Y1 BT
       (try simp only [pS])
       refine tg 9 hba ?_
       (try simp only [pS])
       refine tg 10 hba ?_
       (try simp only [pS])
       refine tg 11 hba ?_
       (try simp only [pS])
       refine tg 12 hba ?_
       (try simp only [pS])
       refine tg 13 hba ?_
       (try simp only [pS])
       refine wpAnyH_done (by kernel_rfl) ?_ _
       refine NoPanic.normal ?_
       have hw:=below_next b11 hba
       have y4:=cE2 u3 _ _ Y3 (B5.keep hw)
       have hw2:=below_next hb hw
       clear cE1 cEx cE2 Y3 hba b11 hw B5 hb
       go_wp2_with (go_at_call 23;refine y4.mono ?_;clear y4;rintro e u4 ⟨y4,m4,rfl,Y4,hb4⟩)
       go_roundw
       case rel=>exact ⟨p+1,_,_,hlt,by go_num,rfl,by rw [←HSN.out];exact Y4,below_next hw2 hb4⟩
       case measure=>simp [intOf];omega
     · obtain rfl:p=q:=by omega
       clear hH hB
       go_wp2
       go_ret2
       exact ⟨_,_,rfl,B5,hb⟩
end Go.Proofs.YtkoedfmdhdikaaaDoor
namespace Go.Proofs.YtkoedfmdhdikaaaDoor
open Go.RowKit
set_option maxRecDepth 20000 in
set_option maxHeartbeats 4000000 in
theorem knows16 (w:World) (hT:TabAt w):Calls Tryd.prog 9 #[] w fun e w'=>e = .returned (.bool true)∧Below w.heap.size w w':=by
 have hE:=fun (v:Value) (W:World) (hT:TabAt W) (hz:BytesIn W v 32 lZ)=>epoch_good v v 32 32 lZ lZ lZ_lt5 lZ_lt5 (by decide) (by decide) [.slice none 0 0,.int .i64 0,.slice none 0 0,.slice none 0 0] d0C ⟨lZ_lt5,lZ_lt5,lZ_lt5⟩ (by decide) W hT hz hz ⟨_,_,_,rfl,nil_bytes W lZ,nil_bytes W lZ,nil_bytes W lZ⟩
 have hne:=strB_ne (n:=32) (exN_lt 32 (exN 32 (xtN 32 lZ 32 lZ) lEpo (cxL d0C) (cxT d0C) 32) (labS 8) 0 lZ 32) (exN_lt 32 (exN 32 (xtN 32 lZ 32 lZ) lEpo (cxL d0C) (cxT d0C) 32) (labS 4) 0 lZ 32) (by decide) ic_ne
 have lB:∀ i j,seB (xtN 32 lZ 32 lZ) (exN 32 (xtN 32 lZ 32 lZ) lEpo (cxL d0C) (cxT d0C) 32) lZ i j<256:=seB_lt lZ_lt5
 have i8:seB (xtN 32 lZ 32 lZ) (exN 32 (xtN 32 lZ 32 lZ) lEpo (cxL d0C) (cxT d0C) 32) lZ 8=exN 32 (exN 32 (xtN 32 lZ 32 lZ) lEpo (cxL d0C) (cxT d0C) 32) (labS 8) 0 lZ 32:=rfl
 have i4:seB (xtN 32 lZ 32 lZ) (exN 32 (xtN 32 lZ 32 lZ) lEpo (cxL d0C) (cxT d0C) 32) lZ 4=exN 32 (exN 32 (xtN 32 lZ 32 lZ) lEpo (cxL d0C) (cxT d0C) 32) (labS 4) 0 lZ 32:=rfl
 rw [←i8,←i4] at hne
 clear i8 i4
 generalize seB (xtN 32 lZ 32 lZ) (exN 32 (xtN 32 lZ 32 lZ) lEpo (cxL d0C) (cxT d0C) 32) lZ=SB at *
 have hTag:=fun (cs:List Value) (v:Value) (W:World) (hT:TabAt W) (hx:TxRow W cs 11 (seL 32) SB) (hz:BytesIn W v 32 lZ)=>tagS_any cs (seL 32) SB lB v 32 lZ lZ_lt5 (by decide) (by decide) W hT hx hz
 have c8:=fun (W:World) (v:Value) (h:BytesIn W v 32 (SB 8))=>h.cs (lB 8)
 have c4:=fun (W:World) (v:Value) (h:BytesIn W v 32 (SB 4))=>h.cs (lB 4)
 generalize strB 32 (SB 8)=SI at *
 generalize strB 32 (SB 4)=SC at *
 have e2:(SI.toList == SC.toList)=false:=by
  rw [beq_eq_false_iff_ne]
  exact fun e=>hne (WideShapes.bytes_inj (by simpa [ByteArray.toList_eq] using e))
 have e3:(SI.toList != SC.toList)=true:=by rw [bne,e2];rfl
 have cz:=fun (W:World) (v:Value) (h:BytesIn W v 32 lZ)=>h.cs lZ_lt5
 generalize strB 32 lZ=SZ at *
 have e1:(SZ.toList == SZ.toList)=true:=beq_self_eq_true _
 have hzb:BytesIn (w.alloc (.cells (zb 32) 5)) (.slice (some ⟨w.heap.size,0,none⟩) 32 32) 32 lZ:=(Own.made w.heap.size w 32 (by decide) (Nat.le_refl _)).bytesIn
 have b1:Below w.heap.size w (w.alloc (.cells (zb 32) 5)):=(Below.refl _ _).alloc (Nat.le_refl _) _
 have hm:=make_bytes w 32 32 rfl (by decide)
 have hp:=psk_nil (w.alloc (.cells (zb 32) 5))
 have HB:=Hid.mk' hzb
 have B1:=Hid.mk' b1
 have HT:=Hid.mk' hT
 clear hzb b1 hT hne
 go_enter Tryd.func9,Tryd.ntmps9
 go_upto_region 3 with (first
  | rw [hm]
  | (go_at_call 6;refine hp.mono ?_;clear hp;rintro e w2 ⟨x2,c2,rfl,P2,hb2⟩;have Z2:=HB.out.keep hb2;have b2:=below_next B1.out hb2;have hE2:=hE _ w2 (HT.out.still b2) Z2;clear hE HB B1))
 go_upto_region 4 with (first
  | (go_at_call 12;refine hE2.mono ?_;clear hE2;rintro e w3 ⟨L,rfl,T3,hb3⟩;(obtain ⟨v0,v1,v2,v3,v4,v5,v6,v7,v8,v9,v10,rfl⟩:∃ v0 v1 v2 v3 v4 v5 v6 v7 v8 v9 v10,L=[v0,v1,v2,v3,v4,v5,v6,v7,v8,v9,v10]:=(by match L,T3.1 with | [v0,v1,v2,v3,v4,v5,v6,v7,v8,v9,v10],_=>exact ⟨_,_,_,_,_,_,_,_,_,_,_,rfl⟩));(obtain ⟨y0,n0,d0,e0⟩:=(T3.2 0 _ rfl).isSl);subst e0;(obtain ⟨y1,n1,d1,e1⟩:=(T3.2 1 _ rfl).isSl);subst e1;(obtain ⟨y2,n2,d2,e2⟩:=(T3.2 2 _ rfl).isSl);subst e2;(obtain ⟨y3,n3,d3,e3⟩:=(T3.2 3 _ rfl).isSl);subst e3;(obtain ⟨y4,n4,d4,e4⟩:=(T3.2 4 _ rfl).isSl);subst e4;(obtain ⟨y5,n5,d5,e5⟩:=(T3.2 5 _ rfl).isSl);subst e5;(obtain ⟨y6,n6,d6,e6⟩:=(T3.2 6 _ rfl).isSl);subst e6;(obtain ⟨y7,n7,d7,e7⟩:=(T3.2 7 _ rfl).isSl);subst e7;(obtain ⟨y8,n8,d8,e8⟩:=(T3.2 8 _ rfl).isSl);subst e8;(obtain ⟨y9,n9,d9,e9⟩:=(T3.2 9 _ rfl).isSl);subst e9;(obtain ⟨y10,n10,d10,e10⟩:=(T3.2 10 _ rfl).isSl);subst e10;have Z3:=Z2.keep hb3;have P3:=P2.keep hb3;have b3:=below_next b2 hb3;clear Z2 P2 b2 hb2))
 have hbs:Below w3.heap.size w3 (w3.alloc (.cells #[.slice y0 n0 d0,.slice y1 n1 d1,.slice y2 n2 d2,.slice y3 n3 d3,.slice y4 n4 d4,.slice y5 n5 d5,.slice y6 n6 d6,.slice y7 n7 d7,.slice y8 n8 d8,.slice y9 n9 d9,.slice y10 n10 d10] 43)):=(Below.refl _ _).alloc (Nat.le_refl _) _
 have k:=RW.fresh w3 [.slice y0 n0 d0,.slice y1 n1 d1,.slice y2 n2 d2,.slice y3 n3 d3,.slice y4 n4 d4,.slice y5 n5 d5,.slice y6 n6 d6,.slice y7 n7 d7,.slice y8 n8 d8,.slice y9 n9 d9,.slice y10 n10 d10] 43
 have hw:=below_next b3 hbs
 have hT:=HT.out.still hw
 have hTx:=T3.still hbs
 have bz:=Z3.keep hbs
 have tz:=cz _ _ bz
 have tp:=cz _ _ (P3.keep hbs)
 have ti:=c8 _ _ (hTx.2 8 _ rfl)
 have tc:=c4 _ _ (hTx.2 4 _ rfl)
 have l4:(n8:Int)=32:=by
  obtain ⟨xx,cc,ee,-⟩:=(hTx.2 8 _ rfl).src
  injection ee with _ e2 _
  rw [e2];rfl
 clear hbs b3 Z3 P3 T3 HT c8 c4 cz hb3
 obtain ⟨d,hd⟩:∃ d,d=w3.heap.size:=⟨_,rfl⟩
 rw [←hd] at k ⊢
 clear hd
 generalize w3.alloc (.cells #[.slice y0 n0 d0,.slice y1 n1 d1,.slice y2 n2 d2,.slice y3 n3 d3,.slice y4 n4 d4,.slice y5 n5 d5,.slice y6 n6 d6,.slice y7 n7 d7,.slice y8 n8 d8,.slice y9 n9 d9,.slice y10 n10 d10] 43)=W4 at *
 have qz:=tz.conv W4 (Below.refl _ _)
 have qp:=tp.conv W4 (Below.refl _ _)
 have qi:=ti.conv W4 (Below.refl _ _)
 have qc:=tc.conv W4 (Below.refl _ _)
 have hk8:W4.cell? ⟨d,8,none⟩=some (.slice y8 n8 d8):=by simpa using k.range 8 _ rfl
 have hk4:W4.cell? ⟨d,4,none⟩=some (.slice y4 n4 d4):=by simpa using k.range 4 _ rfl
 have ht:=hTag _ _ W4 hT hTx bz
 have hlen:([.slice y0 n0 d0,.slice y1 n1 d1,.slice y2 n2 d2,.slice y3 n3 d3,.slice y4 n4 d4,.slice y5 n5 d5,.slice y6 n6 d6,.slice y7 n7 d7,.slice y8 n8 d8,.slice y9 n9 d9,.slice y10 n10 d10]:List Value).length=11:=rfl
 clear hTag hT hTx bz tz tp ti tc
 go_wp2_with (first
  | rw [qp]
  | rw [qz]
  | rw [qi]
  | rw [qc]
  | (go_at_call 8;refine (num16_any _ _).mono ?_;rintro e wn ⟨rfl,hwn⟩;obtain rfl:=hwn.symm)
  | (refine wpList_load_on (by rfl) 43 (.tmp 4) rfl d 0 rfl [.slice y0 n0 d0,.slice y1 n1 d1,.slice y2 n2 d2,.slice y3 n3 d3,.slice y4 n4 d4,.slice y5 n5 d5,.slice y6 n6 d6,.slice y7 n7 d7,.slice y8 n8 d8,.slice y9 n9 d9,.slice y10 n10 d10] _ k.range Tryd.underlying43 rfl (infoSec hlen) ?_)
  | (go_at_call 24;refine ht.mono ?_;clear ht;rintro e w9 ⟨x9,c9,rfl,-,hb9⟩;(replace hw:=below_next hw hb9)))
 go_ret
 exact ⟨rfl,hw⟩
end Go.Proofs.YtkoedfmdhdikaaaDoor
namespace Go.Proofs.YtkoedfmdhdikaaaDoor
open Go.RowKit
theorem range3 {w:World} {b o:Nat} {v0 v1 v2:Value} (h0:w.cell? ⟨b,o,none⟩=some v0) (h1:w.cell? ⟨b,o+1,none⟩=some v1) (h2:w.cell? ⟨b,o+2,none⟩=some v2):w.rangeAt b o [v0,v1,v2]:=fun j v hv=>by
 match j,hv with
 | 0,hv=>cases hv;exact h0
 | 1,hv=>cases hv;exact h1
 | 2,hv=>cases hv;exact h2
 | j+3,hv=>simp at hv
def PkL (base:Nat) (w:World) (v:Value) (n:Nat) (L:List Value):Prop:=w.ownsRow base 28 3 v n L
theorem info_pk:(Tryd.prog.info? 28).map (fun i=>(i.zero,i.size,i.bytes))=some (some (.agg #[.slice none 0 0,.slice none 0 0,.slice none 0 0]),3,72):=by kernel_rfl
theorem und_pks:Tryd.prog.underlying 23=some (.slice 28):=by kernel_rfl
theorem PkL.nil (base:Nat) (w:World):PkL base w (.slice none 0 0) 0 []:=World.ownsRow_nil w base _ _
theorem PkL.len {base:Nat} {w:World} {v:Value} {n:Nat} {L:List Value} (h:PkL base w v n L):L.length=n*3:=h.1
theorem PkL.slice {base:Nat} {w:World} {v:Value} {n:Nat} {L:List Value} (h:PkL base w v n L):∃ x c,v = .slice x n c:=by
 rcases h.2 with ⟨rfl,rfl⟩ | ⟨g,cap,cur,rfl,_⟩
 · exact ⟨_,_,rfl⟩
 · exact ⟨_,_,rfl⟩
theorem PkL.below {base:Nat} {w w':World} {v:Value} {n:Nat} {L:List Value} (h:PkL base w v n L) (hb:Below w.heap.size w w'):PkL base w' v n L:=own_below h hb
theorem PkL.range {base:Nat} {w:World} {x:Option Addr} {n c:Nat} {L:List Value} (h:PkL base w (.slice x n c) n L) (i:Nat) (hi:i<n):∃ g v0 v1 v2,x=some ⟨g,0,none⟩∧g<w.heap.size∧L[i*3]? = some v0∧L[i*3+1]? = some v1∧L[i*3+2]? = some v2∧w.rangeAt g (0+i*3) [v0,v1,v2]:=by
 have hl:=h.len
 rcases h.2 with ⟨e,e2⟩ | ⟨g,cap,cur,e,_⟩
 · omega
 · cases e
   have e0:i*3<L.length:=by omega
   have e1:i*3+1<L.length:=by omega
   have e2:i*3+2<L.length:=by omega
   refine ⟨g,L[i*3],L[i*3+1],L[i*3+2],rfl,(World.ownsRow.lt h g rfl).2,List.getElem?_eq_getElem e0,List.getElem?_eq_getElem e1,List.getElem?_eq_getElem e2,?_⟩
   rw [Nat.zero_add]
   refine range3 ?_ ?_ ?_
   · rw [World.ownsRow.cellAt h (i*3) (by omega)];exact List.getElem?_eq_getElem e0
   · rw [World.ownsRow.cellAt h (i*3+1) (by omega)];exact List.getElem?_eq_getElem e1
   · rw [World.ownsRow.cellAt h (i*3+2) (by omega)];exact List.getElem?_eq_getElem e2
theorem own_apartP {base base':Nat} {w:World} {p v:Value} {n m:Nat} {X:Nat→Nat} {L:List Value} (hp:Own base w p n X) (hv:PkL base' w v m L):p.ownBlock=none∨p.ownBlock≠v.ownBlock:=by
 rcases hp.2 with ⟨rfl,_⟩ | ⟨g,cap,cur,rfl,_,hg,_⟩
 · exact .inl rfl
 · right
   rcases hv.2 with ⟨rfl,_⟩ | ⟨g',cap',cur',rfl,_,hg',_⟩
   · intro e;cases e
   · intro e
     have e':g=g':=by simpa [Value.ownBlock] using e
     subst e'
     rw [hg] at hg'
     cases hg'
theorem rows3 {v0 v1 v2:Value} (h0:∃ x n c,v0 = .slice x n c) (h1:∃ x n c,v1 = .slice x n c) (h2:∃ x n c,v2 = .slice x n c):∀ u∈[v0,v1,v2],u.oneCell'=true:=by
 obtain ⟨x0,n0,c0,rfl⟩:=h0
 obtain ⟨x1,n1,c1,rfl⟩:=h1
 obtain ⟨x2,n2,c2,rfl⟩:=h2
 intro u hu
 simp only [List.mem_cons,List.not_mem_nil,or_false] at hu
 rcases hu with rfl | rfl | rfl <;> rfl
theorem run_append_pk (ty:TypeId) (W:World) (base:Nat) (v:Value) (n:Nat) (L:List Value) (hown:PkL base W v n L) (v0 v1 v2:Value) (h1:∀ u∈[v0,v1,v2],u.oneCell'=true) (hn:(n+1)*72≤140737488355328) (hbase:base≤W.heap.size) :
 ∃ v' w',(Builtin.append_ #[23,23] ty #[v,.slice (some ⟨W.heap.size,0,none⟩) 1 1]).run Tryd.prog (W.alloc (.cells #[v0,v1,v2] 28)) = .ok v' w'∧PkL base w' v' (n+1) (L ++ [v0,v1,v2])∧(W.alloc (.cells #[v0,v1,v2] 28)).grownBy w' v.ownBlock:=by
 obtain ⟨i0,hi,hz0,hz1,hz2⟩:=info_parts info_pk
 have hr:=(RW.fresh W [v0,v1,v2] 28).range
 obtain ⟨v',w',e1,e2,e3,-⟩:=run_append_own (P:=Tryd.prog) (W.alloc (.cells #[v0,v1,v2] 28)) base 23 ty 28 i0 _ 3 72 und_pks hi hz0 hz1 hz2 rfl (by decide) v n L (World.ownsRow.alloc hown _) ⟨W.heap.size,0,none⟩ 1 1 [v0,v1,v2] rfl (fun j u hu=>by
  rw [Addr.add_mid]
  exact hr j u hu) h1 (by unfold maxLen;omega) (by omega) (by simp only [World.size_alloc];omega)
 exact ⟨v',w',e1,e2,e3⟩
structure PsOwn (base:Nat) (w:World) (v:Value) (n:Nat) (L:List Value) (D:Nat→PkD):Prop where
 list:PkL base w v n L
 each:∀ i,i<n→∃ v0 v1 v2,L[i*3]? = some v0∧L[i*3+1]? = some v1∧L[i*3+2]? = some v2∧Own base w v0 (D i).an (D i).a∧Own base w v1 (D i).bn (D i).b∧Own base w v2 (D i).kn (D i).k
theorem PsOwn.nil (base:Nat) (w:World) (D:Nat→PkD):PsOwn base w (.slice none 0 0) 0 [] D:=⟨PkL.nil base w,fun _ hi=>absurd hi (Nat.not_lt_zero _)⟩
theorem PsOwn.below {base:Nat} {w w':World} {v:Value} {n:Nat} {L:List Value} {D:Nat→PkD} (h:PsOwn base w v n L D) (hb:Below w.heap.size w w'):PsOwn base w' v n L D :=
 ⟨h.list.below hb,fun i hi=>by
   obtain ⟨v0,v1,v2,e0,e1,e2,o0,o1,o2⟩:=h.each i hi
   exact ⟨v0,v1,v2,e0,e1,e2,o0.below hb,o1.below hb,o2.below hb⟩⟩
theorem PsOwn.pks {base:Nat} {w:World} {x:Option Addr} {n c:Nat} {L:List Value} {D:Nat→PkD} (h:PsOwn base w (.slice x n c) n L D):PksIn w x n D:=fun i hi=>by
 obtain ⟨g,v0,v1,v2,e,hg,e0,e1,e2,hr⟩:=h.list.range i hi
 obtain ⟨u0,u1,u2,f0,f1,f2,o0,o1,o2⟩:=h.each i hi
 rw [e0] at f0;cases f0
 rw [e1] at f1;cases f1
 rw [e2] at f2;cases f2
 exact ⟨g,0,[v0,v1,v2],e,hg,hr,v0,v1,v2,rfl,o0.bytesIn,o1.bytesIn,o2.bytesIn⟩
theorem PsOwn.next {base:Nat} {w w1 w':World} {v v' v0 v1 v2:Value} {n:Nat} {L:List Value} {D:Nat→PkD} (h:PsOwn base w v n L D) (hb:Below w.heap.size w w1) (o0:Own base w v0 (D n).an (D n).a) (o1:Own base w v1 (D n).bn (D n).b) (o2:Own base w v2 (D n).kn (D n).k) (hl:PkL base w' v' (n+1) (L ++ [v0,v1,v2])) (hg:w1.grownBy w' v.ownBlock):PsOwn base w' v' (n+1) (L ++ [v0,v1,v2]) D:=by
 have hL:=h.list.below hb
 have hlen:=h.list.len
 have kp:∀ {s:Value} {m:Nat} {X:Nat→Nat},Own base w s m X→Own base w' s m X:=fun ho=>World.ownsRow.kept (ho.below hb) hg (own_apartP (ho.below hb) hL)
 refine ⟨hl,fun i hi => ?_⟩
 by_cases e:i=n
 · subst e
   refine ⟨v0,v1,v2,?_,?_,?_,kp o0,kp o1,kp o2⟩
   · rw [List.getElem?_append_right (by omega),show i*3 - L.length=0 by omega];rfl
   · rw [List.getElem?_append_right (by omega),show i*3+1 - L.length=1 by omega];rfl
   · rw [List.getElem?_append_right (by omega),show i*3+2 - L.length=2 by omega];rfl
 · obtain ⟨u0,u1,u2,f0,f1,f2,p0,p1,p2⟩:=h.each i (by omega)
   refine ⟨u0,u1,u2,?_,?_,?_,kp p0,kp p1,kp p2⟩
   · rw [List.getElem?_append_left (by omega)];exact f0
   · rw [List.getElem?_append_left (by omega)];exact f1
   · rw [List.getElem?_append_left (by omega)];exact f2
theorem copied16_own (v:Value) (n:Nat) (b:Nat→Nat) (hn:n<140737488355000) (w:World) (hv:BytesIn w v n b):Calls Tryd.prog 5 #[v] w fun e w'=>∃ s,e = .returned s∧Own w.heap.size w' s n b∧Below w.heap.size w w':=by
 obtain ⟨x1,c1,rfl,hxn,-,hsrc⟩:=hv.src
 have hsu:=hsrc _ ((Below.refl w.heap.size w).alloc (Nat.le_refl _) (.cells #[] 5))
 clear hv hsrc
 go_enter Tryd.func5,Tryd.ntmps5
 go_wp2_with (at_builtin;refine wpList_append_empty rfl (.tmp 3) (.tmp 4) rfl w.heap.size b w.heap.size rfl rfl x1 n c1 rfl hsu hxn (by omega) (Nat.le_refl _) ?_;intro v3 w3 own3 hb3;(obtain ⟨y3,d3,e3⟩:=own3.slice);subst e3)
 go_ret
 exact ⟨_,rfl,own3,hb3⟩
end Go.Proofs.YtkoedfmdhdikaaaDoor
