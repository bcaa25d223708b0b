/- What the proof stands on: T4I, T4J, T4L. -/
import Derived.Test.YtddkbmnkbfciaaaGreatDoorEqNM
import Derived.Test.YtddkbmnkbfciaaaGreatDoorT4EM
import Derived.Maps.AppendAt
namespace Go.Proofs.YtddkbmnkbfciaaaGreatDoor
open Go.RowKit Go.Shelf
attribute [local go_sem] Oper.semAt_some
theorem ZO.own {base:Nat} {w:World} {v:Value} {l:List Int} (h:OwnZ base w v l):ZO (fun b=>base≤b) w v l:=by
 rcases h.2 with ⟨e,hl⟩ | ⟨g,cap,cur,e,hg,hh,hc,-,hs,ht⟩
 · subst e
   have:l=[]:=by simpa using hl
   subst this
   exact ZO.nil _ _
 · subst e
   refine ⟨_,cap,rfl,hc,(fun h=>by cases h),fun i z hz=>⟨g,0,rfl,hg,(Array.getElem?_eq_some_iff.1 hh).1,?_⟩⟩
   have hi:i<l.length:=(List.getElem?_eq_some_iff.1 hz).1
   have:=World.ownsRow.cellAt h i (by omega)
   rw [Nat.zero_add,this]
   simp [hz]
theorem ZO.keep {ok:Nat→Prop} {w w':World} {v:Value} {l:List Int} (h:ZO ok w v l) (hb:Below w.heap.size w w'):ZO ok w' v l:=h.same hb.size (fun b hl _=>hb.block b hl)
theorem wpListIn_load_wd {P:Program} {n:Nat} {ops:Array Oper} {rest:List Oper} {op:Oper} {a:Act} {w:World} {Q:Exit→Act→World→Prop} (hw:Region.wanted op (yielded ops a.tmps)=true) (ty:TypeId) (x:Operand) (ho:op.op = .load ty x)
 (b o:Nat) (hx:a.eval x = .pointer (some ⟨b,o,none⟩)) (cs:List Value) (d:TypeDesc) (hc:w.rangeAt b o cs)
 (hu:P.underlying ty=some d) (hd:d.isRow=true) (hi:(P.info? ty).map (·.size)=some cs.length)
 (h:wpListIn Fence.wide n P ops Q rest (a.put op.dst (.agg cs.toArray)) w):wpListIn Fence.wide n P ops Q (op :: rest) a w :=
 wpListIn_step fun K hK=>by
  simp only [hw,if_true]
  refine ⟨fun _ _=>trivial,?_⟩
  have hsem:(op.semAt Fence.wide.round a.eval)=execOp a.eval op:=rfl
  rw [hsem]
  unfold execOp
  simp only [ho,hx,Instr.loadAt,Instr.sureAddr,Sem.run_bind,Sem.run_pure,Result.andThen_ok,run_loadVar_mid w b o ty cs d hc hu hd hi]
  exact hK _ _ h
theorem upF_len7 (l:Int):∀ (f x:Nat),(upF l f x).length≤f
 | 0,_=>Nat.le_refl _
 | f+1,x=>by
  unfold upF
  split
  · rename_i p _;have:=upF_len7 l f p;simp;omega
  · simp
theorem pathL_len (i l:Int):(pathL i l).length≤7:=by
 unfold pathL
 split
 · exact upF_len7 _ _ _
 · simp
theorem parentsAbove_any (tb:Nat) (i:Int) (w:World):Calls Tryz.prog 97 #[pA tb 0,.int .i64 i] w fun e w'=>e = .returned (.func (.func 165) #[] #[pA (w.heap.size+1) 0,pA w.heap.size 0])∧w'=(w.alloc (.cells #[pA tb 0] 23)).alloc (.cells #[.int .i64 i] 3):=by
 go_enter Tryz.func97,Tryz.ntmps97
 go_wp2
 go_ret
 exact ⟨rfl,rfl⟩
def HasP (ib pb tb mb n:Nat) (i:Int) (xs:List Int) (V:Nat→Option Value) (k:Nat) (W:World):Prop:=HasT pb tb mb n W∧W.cell? ⟨ib,0,none⟩=some (.int .i64 i)∧DbT W∧∀ x,xs[k]? = some x→∃ f,MpAt W mb f∧f x=V k
set_option maxRecDepth 100000 in
set_option maxHeartbeats 4000000 in
theorem parentsAbove_it (ib pb tb mb n:Nat) (i:Int) (V:Nat→Option Value) (hV:∀ k,Shp (V k)) :
 Iter Tryz.prog 165 #[pA ib 0,pA pb 0] (pathL i n).length (fun k=>(prV (V k)).map fun A=>#[.int .i64 (((pathL i n)[k]?).getD 0),.agg A]) (HasP ib pb tb mb n i (pathL i n) V):=by
 intro l B Inv Brk hI hBr hH hsk hY M W hBW hM h0
 obtain ⟨⟨c1,c2,c3⟩,c4,hT,-⟩:=hH 0 M W (Nat.zero_le _) h0
 have cw:=iPathO_any i n W.drew (hT.keep ((Below.refl _ _).drew))
 have hxl:=pathL_len i n
 generalize pathL i n=xs at *
 have hS0:Below W.heap.size W W.drew:=(Below.refl _ _).drew
 have c1':∀ u,Below W.heap.size W u→u.cell? ⟨pb,0,none⟩=some (pA tb 0):=fun u hu=>(hu.cell (p:=⟨pb,0,none⟩) (block_lt_of_cell c1)).trans c1
 have c2':∀ u,Below W.heap.size W u→u.cell? ⟨tb,0,none⟩=some (.int .i64 (n:Int)):=fun u hu=>(hu.cell (p:=⟨tb,0,none⟩) (block_lt_of_cell c2)).trans c2
 have c4':∀ u,Below W.heap.size W u→u.cell? ⟨ib,0,none⟩=some (.int .i64 i):=fun u hu=>(hu.cell (p:=⟨ib,0,none⟩) (block_lt_of_cell c4)).trans c4
 clear c1 c2 c3 c4
 obtain ⟨nn,-⟩:∃ nn:Nat,True:=⟨1,trivial⟩
 refine (callsIn_wide (n:=nn)).1 ?_
 refine callsIn_of_wp Tryz.func165 rfl trivial ?_ rfl
 simp only [Tryz.ntmps165,List.size_toArray,List.length_cons,List.length_nil,Nat.reduceAdd,Nat.reduceSub,Array.replicate_succ,Array.replicate_zero,List.push_toArray,List.append_toArray,List.nil_append,List.cons_append]
 gi_wp2
 refine wpIn_heldW (S:=fun u=>Below W.heap.size W u) (by kernel_rfl) (by kernel_rfl) hS0 (fun hS => ?_)
 refine tc 0 hS c4' ?_
 (try simp only [pS])
 refine tc 1 hS c1' ?_
 (try simp only [pS])
 refine tg 2 hS ?_
 (try simp only [pS])
 refine tg 3 hS ?_
 (try simp only [pS])
 refine tc 4 hS c2' ?_
 (try simp only [pS])
 refine tg 7 hS ?_
 (try simp only [pS])
 refine cl 5 cw ?_
 rintro e W1 ⟨v,rfl,hv,hb1⟩
 refine ⟨_,rfl,hS0.trans hb1,?_⟩
 replace hb1:=below_next hS0 hb1
 replace hv:OwnZ W.heap.size W1 v xs:=hv
 obtain ⟨xa,ca,rfl⟩:=hv.slice
 have hz:=ZO.own hv
 clear hv cw hS0 hS c1' c2' c4' hT
 refine tg 6 hb1 ?_
 (try simp only [pS])
 refine wpAnyH_done (by kernel_rfl) ?_ _
 refine OnlyN.normal ?_
 have hw1:=hb1.size
 have hI1:=hI 0 M W W1 h0 (Loc.of_below hb1)
 replace hz:ZO (fun b=>W.heap.size≤b∧b<W1.heap.size∧¬M b) W1 (.slice xa xs.length ca) xs:=hz.wide (fun b hb h=>⟨h,hb,fun h'=>by have:=hM b h';omega⟩)
 clear h0 hM hb1
 gi_wp2
 gi_loopw [15] (fun s wr=>∃ k:Nat,k≤xs.length∧s = .int .i64 (k:Int)∧W1.heap.size≤wr.heap.size∧∃ M,Inv k M wr∧ZO (fun b=>W.heap.size≤b∧b<W1.heap.size∧¬M b) wr (.slice xa xs.length ca) xs) (fun s _=>xs.length - (intOf s).toNat)
 case atStart=>exact ⟨0,Nat.zero_le _,rfl,Nat.le_refl _,M,hI1,hz⟩
 case round =>
  clear hI1 hz
  obtain ⟨k,hk,rfl,hsz,M,hI0,hz⟩:=hrel
  by_cases hlt:k<xs.length
  · obtain ⟨⟨c1,c2,c3⟩,-,-,hm⟩:=hH k M wr hk hI0
    obtain ⟨x,hx⟩:∃ x,xs[k]? = some x:=⟨_,List.getElem?_eq_getElem hlt⟩
    obtain ⟨f,hmp,hf⟩:=hm x hx
    have hlk:=look_any hmp x
    rw [hf] at hlk
    have hlt':(k:Int)<(xs.length:Int):=by omega
    have hz':=hz
    obtain ⟨xa',ca',e,hca,-,hzc⟩:=hz'
    cases e
    obtain ⟨g,o,rfl,-,-,hgc⟩:=hzc k x hx
    have hk0:(0:Int)≤(k:Int):=by omega
    have hYk:=fun X a h=>hY k M X a hlt h
    rw [hx] at hYk
    simp only [Option.getD_some] at hYk
    clear hY hH hmp hzc hm hf
    rcases hV k with hv | ⟨A,hv,-,-⟩ | ⟨A,hv,hAn,hA1⟩
    · have hn0:(V k).getD .nilIface = .nilIface:=by rw [hv];rfl
      rw [hn0] at hlk
      have hnx:=hsk k M wr hlt (by rw [hv];rfl) hI0
      have cl:=parentOf_nil wr
      obtain ⟨Z,hZ⟩:∃ Z,Z=zPr.toArray:=⟨_,rfl⟩
      have h6:Z.size=3:=by rw [hZ];rfl
      have h1:Z.all (·.oneCell')=true:=by rw [hZ,List.all_toArray];simp [zPr,Value.oneCell']
      rw [←hZ] at cl
      have hi:=iszP Z h6
      clear hZ hYk hn0 hv hsk hI0
      gi_wp2_with (first
       | (refine ⟨trivial,(fun h=>by cases h),?_⟩;gi_at_call 92;refine (callsIn_wide.2 cl).mono ?_;clear cl;rintro e V4 ⟨rfl,hb4⟩)
       | (refine wpListIn_store_mid rfl 121 _ _ rfl _ 0 Z rfl rfl (thPr4 _ Z h6) hi h1 ?_)
       | (refine wpListIn_skip rfl rfl ?_))
      have bV:=below_next hb4 (stPr4 V4 Z h6 rfl).2
      have hbs:=bV.size
      go_roundw
      case rel=>exact ⟨k+1,by omega,by go_num,by omega,M,hI _ _ _ _ hnx (Loc.of_below bV),hz.keep bV⟩
      case measure=>simp [intOf];omega
    · have hn0:(V k).getD .nilIface = .iface 117 (.agg A):=by rw [hv];rfl
      rw [hn0] at hlk
      have hnx:=hsk k M wr hlt (by rw [hv];rfl) hI0
      have cl:=parentOf_leaf A wr
      obtain ⟨Z,hZ⟩:∃ Z,Z=zPr.toArray:=⟨_,rfl⟩
      have h6:Z.size=3:=by rw [hZ];rfl
      have h1:Z.all (·.oneCell')=true:=by rw [hZ,List.all_toArray];simp [zPr,Value.oneCell']
      rw [←hZ] at cl
      have hi:=iszP Z h6
      clear hZ hYk hn0 hv hsk hI0
      gi_wp2_with (first
       | (refine ⟨trivial,(fun h=>by cases h),?_⟩;gi_at_call 92;refine (callsIn_wide.2 cl).mono ?_;clear cl;rintro e V4 ⟨rfl,hb4⟩)
       | (refine wpListIn_store_mid rfl 121 _ _ rfl _ 0 Z rfl rfl (thPr4 _ Z h6) hi h1 ?_)
       | (refine wpListIn_skip rfl rfl ?_))
      have bV:=below_next hb4 (stPr4 V4 Z h6 rfl).2
      have hbs:=bV.size
      go_roundw
      case rel=>exact ⟨k+1,by omega,by go_num,by omega,M,hI _ _ _ _ hnx (Loc.of_below bV),hz.keep bV⟩
      case measure=>simp [intOf];omega
    · have hn0:(V k).getD .nilIface = .iface 121 (.agg A):=by rw [hv];rfl
      rw [hn0] at hlk
      replace hYk:=fun X=>hYk X _ (by rw [hv];rfl)
      have hi:=iszP A hAn
      have hal:A.toList.length=A.size:=by simp
      have cl:=parentOf_par A hAn hA1 wr
      clear hn0 hv hsk
      gi_wp2_with (first
       | (refine ⟨trivial,(fun h=>by cases h),?_⟩;gi_at_call 92;refine (callsIn_wide.2 cl).mono ?_;clear cl;rintro e V4 ⟨rfl,hb4⟩)
       | (refine wpListIn_store_mid rfl 121 _ _ rfl _ 0 A rfl rfl (thPr4 _ A hAn) hi hA1 ?_;obtain ⟨X,hX⟩:∃ X,X=(V4.alloc (.cells #[.slice none 0 0,.slice none 0 0,.slice none 0 0] 121)).setCells V4.heap.size 0 A.toList:=⟨_,rfl⟩;rw [←hX];obtain ⟨rX,bX⟩:=stPr4 V4 A hAn hX;clear hX;have bV:=below_next hb4 bX;have hIX:=hI k M wr X hI0 (Loc.of_below bV);have rX0:=rX.range;obtain ⟨fn,tmps,assign,body,hy,hR⟩:=hYk X hIX (by have:=bV.size;omega))
       | (refine wpListIn_load_wd rfl 121 _ rfl _ 0 rfl _ _ rX0 Tryz.underlying121 rfl (by rw [hal];exact hi) ?_;simp only [Array.toArray_toList];clear rX0 rX))
      refine ⟨(fun h=>by cases h),(roundIn_deep hR).mono ?_⟩
      have hbs:=bV.size
      replace hz:=hz.keep bV
      rintro e W' ⟨hF,M2,hM2,⟨rfl,hI'⟩ | ⟨rfl,hB'⟩⟩
      · clear hy hR
        have hfs:=hF.size
        gi_wp2
        go_roundw
        case rel=>exact ⟨k+1,by omega,by go_num,by omega,M2,hI',(hz.same hF.size (fun b hb h=>hF.block b hb (by omega) h.2.2)).wide (fun b hb h=>⟨h.1,h.2.1,fun h'=>by rcases hM2 b h' with h2 | h2;exact h.2.2 h2;omega⟩)⟩
        case measure=>simp [intOf];omega
      · clear hy hR
        have hfs:=hF.size
        gi_wp2
        refine bodyPost_ret (results_none rfl _ _ _) rfl ?_
        exact ⟨⟨_,rfl⟩,by omega,M2,.inr hB'⟩
  · obtain rfl:k=xs.length:=by omega
    have hlt':¬((xs.length:Nat):Int)<(xs.length:Int):=by omega
    clear hY hH hsk
    gi_wp2
    refine bodyPost_end (results_none rfl _ _ _) rfl ?_
    exact ⟨⟨_,rfl⟩,by omega,M,.inl hI0⟩
end Go.Proofs.YtddkbmnkbfciaaaGreatDoor
namespace Go.Proofs.YtddkbmnkbfciaaaGreatDoor
open Go.RowKit Go.Shelf
def Lies (w:World) (v v':Value):Prop:=v'.ownBlock=v.ownBlock∨v'.ownBlock=some w.heap.size
theorem run_append_vals {P:Program} (w:World) (t ty base e:TypeId) (i:TypeInfo) (z:Value) (bytes:Nat) (ht:P.underlying t=some (.slice e)) (hi:P.info? e=some i) (hz:i.zero=some z) (hsize:i.size=1) (hby:i.bytes=bytes) (hzs:z.cells.size=1)
 (v:Value) (n:Nat) (xs:List Value) (hown:w.ownsRow base e 1 v n xs) (xo:Option Addr) (c:Nat) (ys:List Value) (hsrc:∀ j u,ys[j]? = some u→∃ g o,xo=some ⟨g,o,none⟩∧w.cell? ⟨g,o+j,none⟩=some u) (hone:∀ y∈ys,y.oneCell'=true) (hxn:xo=none→c=0)
 (h63:n+ys.length≤maxLen) (hbytes:(n+ys.length)*bytes≤140737488355328) (hbase:base≤w.heap.size) :
 ∃ v' w',(Builtin.append_ #[t,t] ty #[v,.slice xo ys.length c]).run P w = .ok v' w'∧w'.ownsRow base e 1 v' (n+ys.length) (xs ++ ys)∧w.grownBy w' v.ownBlock∧Lies w v v':=by
 cases xo with
 | none =>
  have hm:ys=[]:=by
   cases ys with
   | nil=>rfl
   | cons y r=>obtain ⟨g,o,h,_⟩:=hsrc 0 y rfl;cases h
  subst hm
  have hc:=hxn rfl
  subst hc
  refine ⟨v,w,?_,by rw [List.append_nil];exact hown,⟨rfl,rfl,rfl,Nat.le_refl _,fun _ _ _=>rfl⟩,.inl rfl⟩
  rcases hown.2 with ⟨rfl,_⟩ | ⟨g,cap,cur,rfl,_,_,hnc,_⟩
  · exact run_append_nothing w t t ty e i ht hi none 0 0 (Nat.le_refl _) _ ⟨.inl ⟨_,ht⟩,fun _=>rfl,rfl,rfl,by simp,fun _ h=>by cases h⟩
  · exact run_append_nothing w t t ty e i ht hi _ n cap hnc _ ⟨.inl ⟨_,ht⟩,fun _=>rfl,rfl,rfl,by simp,fun _ h=>by cases h⟩
 | some ad =>
  have hnews:∀ j u,ys[j]? = some u→w.cell? (ad.add j)=some u:=fun j u hu=>by
   obtain ⟨g,o,h,hc⟩:=hsrc j u hu
   cases h
   rw [Addr.add_mid];exact hc
  obtain ⟨v',w',h1,h2,h3,h4,h5⟩:=run_append_own_at (P:=P) w base t ty e i z 1 bytes ht hi hz hsize hby hzs (by decide) v n xs hown ad ys.length c ys (by rw [Nat.mul_one]) hnews hone h63 hbytes hbase
  exact ⟨v',w',h1,h2,h3,h5⟩
theorem ZO.src {ok:Nat→Prop} {w:World} {xo:Option Addr} {m c:Nat} {l:List Int} (h:ZO ok w (.slice xo m c) l):m=l.length∧(xo=none→c=0)∧∀ j u,(l.map fun z=>Value.int .i64 z)[j]? = some u→∃ g o,xo=some ⟨g,o,none⟩∧w.cell? ⟨g,o+j,none⟩=some u:=by
 obtain ⟨x,c',e,-,h1,h2⟩:=h
 cases e
 refine ⟨rfl,h1,fun j u hu => ?_⟩
 rw [List.getElem?_map] at hu
 cases hl:l[j]? with
 | none=>rw [hl] at hu;cases hu
 | some z =>
  rw [hl] at hu;cases hu
  obtain ⟨g,o,e,-,-,hc⟩:=h2 j z hl
  exact ⟨g,o,e,hc⟩
theorem run_append_zs (w:World) (ty base:Nat) (v:Value) (l1 l2:List Int) (hown:OwnZ base w v l1) {ok:Nat→Prop} (xo:Option Addr) (m c:Nat) (hsrc:ZO ok w (.slice xo m c) l2) (hl:l1.length+l2.length≤1000000) (hbase:base≤w.heap.size) :
 ∃ v' w',(Builtin.append_ #[51,51] ty #[v,.slice xo m c]).run Tryz.prog w = .ok v' w'∧OwnZ base w' v' (l1 ++ l2)∧w.grownBy w' v.ownBlock∧Lies w v v':=by
 obtain ⟨i0,hi,hz0,hz1,hz2⟩:=info_parts info_int
 obtain ⟨rfl,hxn,hs⟩:=hsrc.src
 have h:=run_append_vals (P:=Tryz.prog) w 51 ty base 3 i0 (.int .i64 0) 8 und_ints hi hz0 hz1 hz2 rfl v l1.length _ hown xo c (l2.map fun z => .int .i64 z) hs (fun y hy=>by obtain ⟨z,-,rfl⟩:=List.mem_map.1 hy;rfl) hxn (by simp;unfold maxLen;omega) (by simp;omega) hbase
 rw [List.length_map] at h
 obtain ⟨v',w',h1,h2,h3⟩:=h
 refine ⟨v',w',h1,?_,h3⟩
 unfold OwnZ
 rw [List.length_append,List.map_append];exact h2
theorem wpList_append_zs {w:World} {ops:Array Oper} {rest:List Oper} {o:Oper} {a:Act} {Q:Exit→Act→World→Prop} (hgd:o.guard=none) (s x:Operand)
 (ho:o.op = .call { callee := .builtin .append,args:=#[s,x],argTypes:=#[51,51] }) (base:Nat) (v:Value) (l1 l2:List Int) (hs:a.eval s=v) (hown:OwnZ base w v l1) {ok:Nat→Prop} (xo:Option Addr) (m c:Nat) (hx:a.eval x = .slice xo m c) (hsrc:ZO ok w (.slice xo m c) l2)
 (hl:l1.length+l2.length≤1000000) (hbase:base≤w.heap.size) (h:∀ v' w',OwnZ base w' v' (l1 ++ l2)→w.grownBy w' v.ownBlock→Lies w v v'→Below base w w'→wpList Tryz.prog ops Q rest (a.put o.dst v') w'):wpList Tryz.prog ops Q (o :: rest) a w:=by
 refine wpList_plain hgd fun K hK => ?_
 obtain ⟨v',w',h1,h2,h3,h4⟩:=run_append_zs w o.type base v l1 l2 hown xo m c hsrc hl hbase
 unfold Oper.wp execOp
 simp only [ho,resolve,invoke,builtin,Sem.run_bind,Sem.run_pure,Result.andThen_ok,List.map_toArray,List.map_cons,List.map_nil,hs,hx,h1]
 exact hK _ _ (h v' w' h2 h3 h4 (below_grown (Below.refl _ _) h3 hown (Nat.le_refl _) hbase))
theorem OwnZ.lit (base:Nat) (w:World) (h:base≤w.heap.size):OwnZ base (w.alloc (.cells #[] 3)) (.slice (some ⟨w.heap.size,0,none⟩) 0 0) []:=World.ownsRow_lit w #[] 0 h (by decide) rfl
theorem zo_one (w:World) (y:Int):ZO (fun b=>b=w.heap.size) (w.alloc (.cells #[.int .i64 y] 3)) (.slice (some ⟨w.heap.size,0,none⟩) 1 1) [y] :=
 ⟨_,1,rfl,Nat.le_refl _,(fun h=>by cases h),fun i z hz=>by
   cases i with
   | zero=>cases hz;exact ⟨_,0,rfl,rfl,by simp,by simp⟩
   | succ i=>simp at hz⟩
theorem eqnil_none (w:World):(binOp .eql 51 (.slice none 0 0) (.slice none 0 0)).run Tryz.prog w = .ok (.bool true) w:=run_eql_slice_nil w _ _ none 0 0 und_ints
theorem eqnil_some (w:World) (ad:Addr) (l c:Nat):(binOp .eql 51 (.slice (some ad) l c) (.slice none 0 0)).run Tryz.prog w = .ok (.bool false) w:=run_eql_slice_nil w _ _ (some ad) l c und_ints
theorem eqnilb_none (w:World):(binOp .eql 29 (.slice none 0 0) (.slice none 0 0)).run Tryz.prog w = .ok (.bool true) w:=run_eql_slice_nil w _ _ none 0 0 Tryz.underlying29
set_option maxRecDepth 20000 in
theorem zclone_any (v:Value) (l:List Int) (hl:l.length≤100000) {ok:Nat→Prop} (w:World) (hv:ZO ok w v l):Calls Tryz.prog 163 #[v] w fun e w'=>∃ s,e = .returned s∧OwnZ w.heap.size w' s l∧Below w.heap.size w w':=by
 obtain ⟨x,c,rfl,h0,hxn,-⟩:=id hv
 cases x with
 | none =>
  have hc:=hxn rfl
  subst hc
  have hl0:l=[]:=by
   cases l with
   | nil=>rfl
   | cons a r=>simp at h0
  subst hl0
  have hq:=eqnil_none
  simp only [List.length_nil] at *
  go_enter Tryz.func163,Tryz.ntmps163
  go_wp2
  go_ret
  exact ⟨_,rfl,OwnZ.nil _ _,Below.refl _ _⟩
 | some ad =>
  have hq:=fun w=>eqnil_some w ad l.length c
  have hv1:=hv.keep ((Below.refl w.heap.size w).alloc (Nat.le_refl _) (.cells #[] 3))
  have hlit:=OwnZ.lit w.heap.size w (Nat.le_refl _)
  go_enter Tryz.func163,Tryz.ntmps163
  go_wp2_with (at_builtin;refine wpList_append_zs rfl (.tmp 5) (.tmp 6) rfl w.heap.size _ [] l rfl hlit _ _ _ rfl hv1 (by simp;omega) (by simp) ?_;intro v3 w3 own3 _ _ hb3)
  go_ret
  exact ⟨_,rfl,own3,((Below.refl _ _).alloc (Nat.le_refl _) _).trans hb3⟩
set_option maxRecDepth 20000 in
theorem bclone_any (v:Value) (n:Nat) (X:Nat→Nat) (hn:n≤140737488355000) (w:World) (hv:BytesIn w v n X):Calls Tryz.prog 150 #[v] w fun e w'=>∃ s,e = .returned s∧Own w.heap.size w' s n X∧Below w.heap.size w w':=by
 obtain ⟨xs,cs,rfl,hxn,hcn,hsrc⟩:=hv.src
 have hsu:=hsrc _ ((Below.refl w.heap.size w).alloc (Nat.le_refl _) (.cells #[] 5))
 cases xs with
 | none =>
  have hc:=hxn rfl
  subst hc
  obtain rfl:n=0:=by omega
  have hq:=eqnilb_none
  clear hsrc hsu hv
  go_enter Tryz.func150,Tryz.ntmps150
  go_wp2
  go_ret
  exact ⟨_,rfl,Own.nil _ _ _,Below.refl _ _⟩
 | some ad =>
  clear hv hsrc
  go_enter Tryz.func150,Tryz.ntmps150
  go_wp2_with (first
   | (refine wpList_eqnil rfl _ _ _ rfl _ _ _ rfl rfl ?_)
   | (at_builtin;refine wpList_append_empty rfl (.tmp 5) (.tmp 6) rfl w.heap.size X w.heap.size rfl rfl (some ad) n cs rfl hsu (fun h=>by cases h) (by omega) (Nat.le_refl _) ?_;intro v3 w3 own3 hb3))
  go_ret
  exact ⟨_,rfl,own3,hb3⟩
end Go.Proofs.YtddkbmnkbfciaaaGreatDoor
namespace Go.Proofs.YtddkbmnkbfciaaaGreatDoor
open Go.RowKit Go.Shelf
theorem cisNaN_any (x:Int) (w:World):Calls Tryz.prog 247 #[.int .i64 x] w fun e w'=>e = .returned (.bool false)∧w'=w:=by
 go_enter Tryz.func247,Tryz.ntmps247
 go_wp2
 go_ret
 exact ⟨by simp,rfl⟩
theorem sisNaN_any (x:Int) (w:World):Calls Tryz.prog 215 #[.int .i64 x] w fun e w'=>e = .returned (.bool false)∧w'=w:=by
 go_enter Tryz.func215,Tryz.ntmps215
 go_wp2
 go_ret
 exact ⟨by simp,rfl⟩
theorem less_any (x y:Int) (w:World):Calls Tryz.prog 214 #[.int .i64 x,.int .i64 y] w fun e w'=>e = .returned (.bool (decide (x<y)))∧w'=w:=by
 have c1:=fun W=>cisNaN_any x W
 go_enter Tryz.func214,Tryz.ntmps214
 go_wp2_with (go_at_call 247;refine (c1 _).mono ?_;rintro e w1 ⟨rfl,rfl⟩)
 go_ret
 exact ⟨by simp,rfl⟩
def lesN (l:List Int) (x:Int):Nat:=(l.filter fun z=>decide (z<x)).length
def Rises (l:List Int):Prop:=∀ (i j:Nat) (a b:Int),l[i]? = some a→l[j]? = some b→i<j→a<b
theorem lesN_le (l:List Int) (x:Int):lesN l x≤l.length:=List.length_filter_le _ _
theorem Rises.tail {a:Int} {l:List Int} (h:Rises (a :: l)):Rises l:=fun i j u v hi hj hl=>h (i+1) (j+1) u v (by simpa using hi) (by simpa using hj) (by omega)
theorem Rises.head {a:Int} {l:List Int} (h:Rises (a :: l)):∀ z∈l,a<z:=fun z hz=>by
 obtain ⟨i,hi⟩:=List.getElem?_of_mem hz
 exact h 0 (i+1) a z rfl (by simpa using hi) (by omega)
theorem lesN_at {l:List Int} (h:Rises l) (x:Int):∀ {i:Nat} {z:Int},l[i]? = some z→(z<x↔i<lesN l x):=by
 induction l with
 | nil=>intro i z hz;simp at hz
 | cons a r ih =>
  intro i z hz
  have hr:=h.tail
  have hh:=h.head
  by_cases ha:a<x
  · have e:lesN (a :: r) x=lesN r x+1:=by simp [lesN,ha]
    rw [e]
    cases i with
    | zero=>simp at hz;subst hz;constructor <;> intro <;> first | omega | exact ha
    | succ i=>rw [ih hr (by simpa using hz)];omega
  · have e:lesN (a :: r) x=0:=by
     simp only [lesN,List.filter_cons,decide_eq_true_eq,if_neg ha]
     rw [List.length_eq_zero_iff,List.filter_eq_nil_iff]
     intro z hz
     have:=hh z hz
     simp;omega
    rw [e]
    cases i with
    | zero=>simp at hz;subst hz;constructor <;> intro <;> omega
    | succ i =>
     have:=hh z (List.mem_of_getElem? (i:=i) (by simpa using hz))
     constructor <;> intro <;> omega
theorem mid_facts {p q m L:Nat} (h:p<q) (hq:q≤L) (hL:L≤1000) (hm:m=(p+q) / 2):((p:Int)+(q:Int)) / 2=(m:Int)∧wrap64 ((p:Int)+(q:Int))=(p:Int)+(q:Int)∧(0:Int)≤(m:Int)∧(m:Int)<(L:Int)∧p≤m∧m<q:=by
 refine ⟨by omega,(by unfold wrap64;omega),by omega,by omega,by omega,by omega⟩
set_option maxRecDepth 20000 in
set_option maxHeartbeats 4000000 in
theorem search_any (v:Value) (l:List Int) (x:Int) (hl:l.length≤1000) (hr:Rises l) {ok:Nat→Prop} (w:World) (hv:ZO ok w v l) :
 Calls Tryz.prog 167 #[v,.int .i64 x] w fun e w'=>e = .returned (.tuple #[.int .i64 (lesN l x:Int),.bool (decide (x∈l))])∧w'=w:=by
 obtain ⟨xo,c,rfl,hc,-,hz⟩:=hv
 have hle:=lesN_le l x
 have hat:=fun i z=>@lesN_at l hr x i z
 generalize hk:lesN l x=k at *
 have cl:=less_any
 have cn:=sisNaN_any
 have hin:(decide (x∈l))=(match l[k]? with | some z=>decide (z=x) | none=>false):=by
  cases e:l[k]? with
  | none =>
   simp only [decide_eq_false_iff_not]
   intro hx
   obtain ⟨i,hi⟩:=List.getElem?_of_mem hx
   have h1:=(List.getElem?_eq_some_iff.1 hi).1
   have h2:=List.getElem?_eq_none_iff.1 e
   have:=hat i x hi
   omega
  | some z =>
   by_cases hzx:z=x
   · subst hzx;simp [List.mem_of_getElem? e]
   · simp only [hzx,decide_false,decide_eq_false_iff_not]
     intro hx
     obtain ⟨i,hi⟩:=List.getElem?_of_mem hx
     have h1:=hat i x hi
     have h2:=hat k z e
     have:i=k∨i<k∨k<i:=by omega
     rcases this with h | h | h
     · subst h;rw [e] at hi;cases hi;exact hzx rfl
     · omega
     · have:=hr k i z x e hi h;omega
 obtain ⟨bb,hbb⟩:∃ b,b=decide (x∈l):=⟨_,rfl⟩
 rw [←hbb]
 rw [hin] at hbb
 have HB:=Hid.mk' hbb
 clear hin hk hbb
 go_enter Tryz.func167,Tryz.ntmps167
 go_wp2
 go_loopw [7,8] (fun i j wr=>∃ p q:Nat,p≤k∧k≤q∧q≤l.length∧i = .int .i64 (p:Int)∧j = .int .i64 (q:Int)∧wr=w) (fun i j _=>(intOf j).toNat - (intOf i).toNat)
 case atStart=>exact ⟨0,l.length,Nat.zero_le _,hle,Nat.le_refl _,rfl,rfl,rfl⟩
 case round =>
  obtain ⟨p,q,hp,hq,hql,rfl,rfl,rfl⟩:=hrel
  by_cases hlt:p<q
  · have hlt':(p:Int)<(q:Int):=by omega
    obtain ⟨m,hm⟩:∃ m,m=(p+q) / 2:=⟨_,rfl⟩
    obtain ⟨z,hzm⟩:∃ z,l[m]? = some z:=⟨_,List.getElem?_eq_getElem (by omega)⟩
    obtain ⟨g,o,rfl,-,hg,hcell⟩:=hz m z hzm
    have hat':=hat m z hzm
    have cl':=cl z x
    obtain ⟨em,e1,h0,h1,hpm,hmq⟩:=mid_facts hlt hql hl hm
    have Hm:=Hid.mk' hm
    have Hat:=Hid.mk' hat'
    clear cl cn hz hat hat' hr hc hm
    by_cases hzx:z<x
    · go_wp2_with (go_at_call 214;refine (cl' _).mono ?_;rintro e w1 ⟨rfl,rfl⟩)
      have hmk:=Hat.out.1 hzx
      exact ⟨⟨m+1,q,hmk,hq,hql,by simp,rfl,trivial⟩,by simp [intOf];omega⟩
    · have hmk:¬m<k:=fun h=>hzx (Hat.out.2 h)
      go_wp2_with (go_at_call 214;refine (cl' _).mono ?_;rintro e w1 ⟨rfl,rfl⟩)
      exact ⟨⟨p,m,hp,by omega,by omega,rfl,rfl,trivial⟩,by simp [intOf];omega⟩
  · obtain rfl:p=k:=by omega
    obtain rfl:q=p:=by omega
    clear hat hr
    by_cases hpl:q<l.length
    · have hpl':(q:Int)<(l.length:Int):=by omega
      obtain ⟨z,hzm⟩:∃ z,l[q]? = some z:=⟨_,List.getElem?_eq_getElem hpl⟩
      obtain ⟨g,o,rfl,-,hg,hcell⟩:=hz q z hzm
      have h0:(0:Int)≤(q:Int):=by omega
      clear hz
      by_cases hzx:z=x
      · subst hzx
        go_wp2_with (go_at_call 215;refine (cn _ _).mono ?_;rintro e w1 ⟨rfl,rfl⟩)
        go_ret2
        exact ⟨by rw [HB.out,hzm];simp,rfl⟩
      · have hb:(z == x)=false:=by simpa using hzx
        go_wp2_with (go_at_call 215;refine (cn _ _).mono ?_;rintro e w1 ⟨rfl,rfl⟩)
        go_ret2
        exact ⟨by rw [HB.out,hzm];simp [hzx],rfl⟩
    · have hpl':¬(q:Int)<(l.length:Int):=by omega
      clear hz
      go_wp2_with (go_at_call 215;refine (cn _ _).mono ?_;rintro e w1 ⟨rfl,rfl⟩)
      go_ret2
      exact ⟨by rw [HB.out,List.getElem?_eq_none (by omega)];rfl,rfl⟩
end Go.Proofs.YtddkbmnkbfciaaaGreatDoor
