/- What the proof stands on: HRefSmall, HPlain, HCert, HConsts, HHashM, HHmac. -/
import Derived.Test.YtbbikhlbkpjpjaaGreatDoorHEngM
import Derived.Test.YtbbikhlbkpjpjaaGreatDoorHMathM
import Derived.Test.YtbbikhlbkpjpjaaGreatDoorHWriteCM
import Derived.ArgAppend
import Derived.Deep.AppendLies
import Derived.Deep.RegionLawGrows
import Derived.Deep.Upon
namespace Go.Proofs.YtbbikhlbkpjpjaaGreatDoor
open Go.RowKit
structure Lists32 (w:World) (g0 g1 g2 g3:Nat):Prop where
 a0:w.cell? ⟨g0,0,none⟩=some (.int .i64 7)
 a1:w.cell? ⟨g0,1,none⟩=some (.int .i64 18)
 a2:w.cell? ⟨g0,2,none⟩=some (.int .i64 3)
 b0:w.cell? ⟨g1,0,none⟩=some (.int .i64 17)
 b1:w.cell? ⟨g1,1,none⟩=some (.int .i64 19)
 b2:w.cell? ⟨g1,2,none⟩=some (.int .i64 10)
 c0:w.cell? ⟨g2,0,none⟩=some (.int .i64 2)
 c1:w.cell? ⟨g2,1,none⟩=some (.int .i64 13)
 c2:w.cell? ⟨g2,2,none⟩=some (.int .i64 22)
 d0:w.cell? ⟨g3,0,none⟩=some (.int .i64 6)
 d1:w.cell? ⟨g3,1,none⟩=some (.int .i64 11)
 d2:w.cell? ⟨g3,2,none⟩=some (.int .i64 25)
theorem Lists32.below {w w':World} {g0 g1 g2 g3:Nat} (h:Lists32 w g0 g1 g2 g3) (hb:Below w.heap.size w w'):Lists32 w' g0 g1 g2 g3:=by
 have k:∀ {g j:Nat} {v:Value},w.cell? ⟨g,j,none⟩=some v→w'.cell? ⟨g,j,none⟩=some v:=fun {g j v} e=>(hb.cell (p:=⟨g,j,none⟩) (block_lt_of_cell e)).trans e
 exact ⟨k h.a0,k h.a1,k h.a2,k h.b0,k h.b1,k h.b2,k h.c0,k h.c1,k h.c2,k h.d0,k h.d1,k h.d2⟩
def ZBox32 (W:World) (B g0 g1 g2 g3:Nat):Prop:=W.cell? ⟨B,0,none⟩=some (.int .i64 32)∧W.cell? ⟨B,1,none⟩=some (.int .i64 64)∧W.cell? ⟨B,2,none⟩=some (.int .i64 64)∧W.cell? ⟨B,3,none⟩=some (.slice (some ⟨g0,0,none⟩) 3 3)∧W.cell? ⟨B,4,none⟩=some (.slice (some ⟨g1,0,none⟩) 3 3)∧W.cell? ⟨B,5,none⟩=some (.slice (some ⟨g2,0,none⟩) 3 3)∧W.cell? ⟨B,6,none⟩=some (.slice (some ⟨g3,0,none⟩) 3 3)
theorem ZBox32.below {w w':World} {B g0 g1 g2 g3:Nat} (h:ZBox32 w B g0 g1 g2 g3) (hb:Below w.heap.size w w'):ZBox32 w' B g0 g1 g2 g3:=by
 have k:∀ {g j:Nat} {v:Value},w.cell? ⟨g,j,none⟩=some v→w'.cell? ⟨g,j,none⟩=some v:=fun {g j v} e=>(hb.cell (p:=⟨g,j,none⟩) (block_lt_of_cell e)).trans e
 obtain ⟨h0,h1,h2,h3,h4,h5,h6⟩:=h
 exact ⟨k h0,k h1,k h2,k h3,k h4,k h5,k h6⟩
structure Lists64 (w:World) (g0 g1 g2 g3:Nat):Prop where
 a0:w.cell? ⟨g0,0,none⟩=some (.int .i64 1)
 a1:w.cell? ⟨g0,1,none⟩=some (.int .i64 8)
 a2:w.cell? ⟨g0,2,none⟩=some (.int .i64 7)
 b0:w.cell? ⟨g1,0,none⟩=some (.int .i64 19)
 b1:w.cell? ⟨g1,1,none⟩=some (.int .i64 61)
 b2:w.cell? ⟨g1,2,none⟩=some (.int .i64 6)
 c0:w.cell? ⟨g2,0,none⟩=some (.int .i64 28)
 c1:w.cell? ⟨g2,1,none⟩=some (.int .i64 34)
 c2:w.cell? ⟨g2,2,none⟩=some (.int .i64 39)
 d0:w.cell? ⟨g3,0,none⟩=some (.int .i64 14)
 d1:w.cell? ⟨g3,1,none⟩=some (.int .i64 18)
 d2:w.cell? ⟨g3,2,none⟩=some (.int .i64 41)
theorem Lists64.below {w w':World} {g0 g1 g2 g3:Nat} (h:Lists64 w g0 g1 g2 g3) (hb:Below w.heap.size w w'):Lists64 w' g0 g1 g2 g3:=by
 have k:∀ {g j:Nat} {v:Value},w.cell? ⟨g,j,none⟩=some v→w'.cell? ⟨g,j,none⟩=some v:=fun {g j v} e=>(hb.cell (p:=⟨g,j,none⟩) (block_lt_of_cell e)).trans e
 exact ⟨k h.a0,k h.a1,k h.a2,k h.b0,k h.b1,k h.b2,k h.c0,k h.c1,k h.c2,k h.d0,k h.d1,k h.d2⟩
def ZBox64 (W:World) (B g0 g1 g2 g3:Nat):Prop:=W.cell? ⟨B,0,none⟩=some (.int .i64 64)∧W.cell? ⟨B,1,none⟩=some (.int .i64 128)∧W.cell? ⟨B,2,none⟩=some (.int .i64 80)∧W.cell? ⟨B,3,none⟩=some (.slice (some ⟨g0,0,none⟩) 3 3)∧W.cell? ⟨B,4,none⟩=some (.slice (some ⟨g1,0,none⟩) 3 3)∧W.cell? ⟨B,5,none⟩=some (.slice (some ⟨g2,0,none⟩) 3 3)∧W.cell? ⟨B,6,none⟩=some (.slice (some ⟨g3,0,none⟩) 3 3)
theorem ZBox64.below {w w':World} {B g0 g1 g2 g3:Nat} (h:ZBox64 w B g0 g1 g2 g3) (hb:Below w.heap.size w w'):ZBox64 w' B g0 g1 g2 g3:=by
 have k:∀ {g j:Nat} {v:Value},w.cell? ⟨g,j,none⟩=some v→w'.cell? ⟨g,j,none⟩=some v:=fun {g j v} e=>(hb.cell (p:=⟨g,j,none⟩) (block_lt_of_cell e)).trans e
 obtain ⟨h0,h1,h2,h3,h4,h5,h6⟩:=h
 exact ⟨k h0,k h1,k h2,k h3,k h4,k h5,k h6⟩
end Go.Proofs.YtbbikhlbkpjpjaaGreatDoor
namespace Go.Proofs.YtbbikhlbkpjpjaaGreatDoor
open Go.RowKit
theorem fill_congr {m sz:Nat} {bs cs:Nat→Nat}:∀ i,(∀ j,j<i→bs j=cs j)→fill m sz bs i=fill m sz cs i
 | 0,_=>rfl
 | i+1,h=>by unfold fill;rw [fill_congr i (fun j hj=>h j (by omega)),h i (by omega)]
theorem blockS_congr {r:Ru} {K:Nat→Nat} {bs cs:Nat→Nat} {s:St} (h:∀ j,j<2*r.m→bs j=cs j):blockS r K bs s=blockS r K cs s:=by
 unfold blockS;rw [fill_congr _ h]
theorem loopS_congr {r:Ru} {K:Nat→Nat} {s:St} {bs cs:Nat→Nat}:∀ i,(∀ j,j<i*(2*r.m)→bs j=cs j)→loopS r K s bs i=loopS r K s cs i
 | 0,_=>rfl
 | i+1,h=>by
  unfold loopS
  have hs:(i+1)*(2*r.m)=i*(2*r.m)+2*r.m:=Nat.succ_mul i (2*r.m)
  rw [loopS_congr i (fun j hj=>h j (by omega))]
  exact blockS_congr fun j hj=>h _ (by omega)
theorem loopS_add {r:Ru} {K:Nat→Nat} {s:St} {bs:Nat→Nat} (i:Nat):∀ k,loopS r K s bs (i+k)=loopS r K (loopS r K s bs i) (fun j=>bs (i*(2*r.m)+j)) k
 | 0=>rfl
 | k+1=>by
  show blockS r K (fun j=>bs ((i+k)*(2*r.m)+j)) (loopS r K s bs (i+k))=blockS r K (fun j=>bs (i*(2*r.m)+(k*(2*r.m)+j))) _
  rw [loopS_add i k]
  exact blockS_congr fun j _=>by rw [Nat.add_mul,Nat.add_assoc]
theorem divmod {x a b t:Nat} (h:x=a*b+t) (ht:t<b):x / b=a∧x%b=t:=by
 subst h
 have hb:0<b:=by omega
 exact ⟨by rw [Nat.add_comm,Nat.add_mul_div_right _ _ hb,Nat.div_eq_of_lt ht,Nat.zero_add],by rw [Nat.add_comm,Nat.add_mul_mod_self_right,Nat.mod_eq_of_lt ht]⟩
structure Holds (r:Ru) (K:Nat→Nat) (s0:St) (n:Nat) (bs:Nat→Nat) (s:St) (R:Nat→Nat):Prop where
 st:s=loopS r K s0 bs (n / (2*r.m))
 rest:∀ j,j<n%(2*r.m)→R j=bs (n / (2*r.m)*(2*r.m)+j)
theorem Holds.none (r:Ru) (K:Nat→Nat) (s0:St) (bs R:Nat→Nat):Holds r K s0 0 bs s0 R:=⟨by rw [Nat.zero_div];rfl,fun j h=>by rw [Nat.zero_mod] at h;omega⟩
theorem Holds.congr {r:Ru} {K:Nat→Nat} {s0:St} {n:Nat} {bs cs:Nat→Nat} {s:St} {R:Nat→Nat} (h:Holds r K s0 n bs s R) (e:∀ j,j<n→bs j=cs j):Holds r K s0 n cs s R:=by
 have h1:=Nat.div_add_mod n (2*r.m)
 rw [Nat.mul_comm] at h1
 exact ⟨h.st.trans (loopS_congr _ fun j hj=>e j (by omega)),fun j hj=>(h.rest j hj).trans (e _ (by omega))⟩
theorem Holds.write {r:Ru} {K:Nat→Nat} {s0:St} {n:Nat} {bs:Nat→Nat} {s:St} {R:Nat→Nat} (hm:0<r.m) (h:Holds r K s0 n bs s R) (m:Nat) (b2:Nat→Nat) :
 Holds r K s0 (n+m) (cat n bs b2) (writeE r K s R n m b2).1 (writeE r K s R n m b2).2:=by
 obtain ⟨hst,hrest⟩:=h
 obtain ⟨B,hB⟩:∃ B,B=2*r.m:=⟨_,rfl⟩
 have hB0:0<B:=by omega
 have hn:=Nat.div_add_mod n B
 have ht:=Nat.mod_lt n hB0
 rw [←hB] at hst hrest
 obtain ⟨a,ha⟩:∃ a,a=n / B:=⟨_,rfl⟩
 obtain ⟨t,htt⟩:∃ t,t=n%B:=⟨_,rfl⟩
 rw [←ha] at hst hrest hn
 rw [←htt] at hrest hn ht
 rw [Nat.mul_comm] at hn
 have hpre:loopS r K s0 (cat n bs b2) a=s:=by
  rw [hst]
  refine loopS_congr _ fun j hj => ?_
  rw [←hB] at hj
  show (if j<n then bs j else _)=_
  rw [if_pos (by omega)]
 -- what tailE makes,where a whole block's end is reached at place p (a multiple of B) of all bytes
 have tail:∀ (p c m':Nat) (s':St) (R':Nat→Nat) (b':Nat→Nat),p=c*B→s'=loopS r K s0 (cat n bs b2) c→(∀ j,cat n bs b2 (p+j)=b' j)→p+m'=n+m →
  Holds r K s0 (n+m) (cat n bs b2) (tailE r K s' R' m' b').1 (tailE r K s' R' m' b').2:=by
  intro p c m' s' R' b' hp hs' hb' hpm
  have hm':=Nat.div_add_mod m' B
  have hu:=Nat.mod_lt m' hB0
  rw [Nat.mul_comm] at hm'
  obtain ⟨e1,e2⟩:=divmod (x:=n+m) (a:=c+m' / B) (b:=B) (t:=m'%B) (by rw [Nat.add_mul];omega) hu
  refine ⟨?_,?_⟩
  · rw [←hB,e1,loopS_add,←hB,←hp,←hs']
    show loopS r K s' b' (m' / (2*r.m))=_
    rw [←hB]
    exact loopS_congr _ fun j _=>(hb' j).symm
  · intro j hj
    rw [←hB,e2] at hj
    rw [←hB,e1]
    show over R' 0 (m'%(2*r.m)) (fun j=>b' (m' / (2*r.m)*(2*r.m)+j)) j=_
    rw [←hB]
    unfold over
    rw [if_pos ⟨Nat.zero_le _,by omega⟩,Nat.sub_zero]
    show b' (m' / B*B+j)=_
    rw [←hb',Nat.add_mul,hp,Nat.add_assoc]
 unfold writeE
 rw [←hB,←htt]
 by_cases h0:t=0
 · rw [if_pos h0]
   refine tail n a m s R b2 (by omega) hpre.symm (fun j => ?_) rfl
   unfold cat
   rw [if_neg (by omega),show n+j - n=j by omega]
 · rw [if_neg h0]
   by_cases h1:t+m<B
   · rw [if_pos h1]
     obtain ⟨e1,e2⟩:=divmod (x:=n+m) (a:=a) (b:=B) (t:=t+m) (by omega) h1
     refine ⟨?_,?_⟩
     · rw [←hB,e1];exact hpre.symm
     · intro j hj
       rw [←hB,e2] at hj
       rw [←hB,e1]
       show over R t m b2 j=_
       unfold over cat
       by_cases h2:j<t
       · rw [if_neg (by omega),if_pos (by omega)];exact hrest j h2
       · rw [if_pos (by omega),if_neg (by omega)];congr 1;omega
   · rw [if_neg h1]
     refine tail (n+(B - t)) (a+1) (m - (B - t)) _ _ _ (by rw [Nat.succ_mul];omega) ?_ (fun j => ?_) (by omega)
     · show _=blockS r K (fun j=>cat n bs b2 (a*(2*r.m)+j)) (loopS r K s0 (cat n bs b2) a)
       rw [hpre]
       refine blockS_congr fun j hj => ?_
       rw [←hB] at hj ⊢
       unfold over cat
       by_cases h2:j<t
       · rw [if_neg (by omega),if_pos (by omega)];exact hrest j h2
       · rw [if_pos (by omega),if_neg (by omega)];congr 1;omega
     · unfold cat
       rw [if_neg (by omega)];congr 1;omega
def specS (r:Ru) (K q:Nat→Nat) (n:Nat) (bs:Nat→Nat):St:=loopS r K (firstS r q) (cat n bs (padF r n)) ((n+padN r n) / (2*r.m))
theorem Holds.end {r:Ru} {K q:Nat→Nat} {n:Nat} {bs:Nat→Nat} {s:St} {R:Nat→Nat} (hm:0<r.m) (h:Holds r K (firstS r q) n bs s R):endS r K s R n=specS r K q n bs:=(h.write hm (padN r n) (padF r n)).st
theorem hashS_spec {r:Ru} (K q:Nat→Nat) (n:Nat) (bs:Nat→Nat) (hm:0<r.m):hashS r K q n bs=specS r K q n bs:=by
 have h:=(Holds.none r K (firstS r q) bs (fun _=>0)).write hm n bs
 rw [Nat.zero_add] at h
 exact Holds.end hm (h.congr fun j _=>by unfold cat;rw [if_neg (by omega),Nat.sub_zero])
end Go.Proofs.YtbbikhlbkpjpjaaGreatDoor
namespace Go.Proofs.YtbbikhlbkpjpjaaGreatDoor
open Go
def cubesL:List Nat:=[4794697086780616226,8158064640168781261,13096744586834688815,16840607885511220156,4131703408338449720,6480981068601479193,10538285296894168987,12329834152419229976,15566598209576043074,1334009975649890238,2608012711638119052,6128411473006802146,8268148722764581231,9286055187155687089,11230858885718282805,13951009754708518548,16472876342353939154,17275323862435702243,1135362057144423861,2597628984639134821,3308224258029322869,5365058923640841347,6679025012923562964,8573033837759648693,10970295158949994411,12119686244451234320,12683024718118986047,13788192230050041572,14330467153632333762,15395433587784984357,489312712824947311,1452737877330783856,2861767655752347644,3322285676063803686,5560940570517711597,5996557281743188959,7280758554555802590,8532644243296465576,9350256976987008742,10552545826968843579,11727347734174303076,12113106623233404929,14000437183269869457,14369950271660146224,15101387698204529176,15463397548674623760,17586052441742319658,1182934255886127544,1847814050463011016,2177327727835720531,2830643537854262169,3796741975233480872,4115178125766777443,5681478168544905931,6601373596472566643,7507060721942968483,8399075790359081724,8693463985226723168,9568029438360202098,10144078919501101548,10430055236837252648,11840083180663258601,13761210420658862357,14299343276471374635,14566680578165727644,15097957966210449927,16922976911328602910,17689382322260857208,500013540394364858,748580250866718886,1242879168328830382,1977374033974150939,2944078676154940804,3659926193048069267,4368137639120453308,4836135668995329356,5532061633213252278,6448918945643986474,6902733635092675308,7801388544844847127]
def squaresL:List Nat:=[7640891576956012808,13503953896175478587,4354685564936845355,11912009170470909681,5840696475078001361,11170449401992604703,2270897969802886507,6620516959819538809]
def cubeK (j:Nat):Nat:=cubesL.getD j 0
def squareK (j:Nat):Nat:=squaresL.getD j 0
end Go.Proofs.YtbbikhlbkpjpjaaGreatDoor
namespace Go.Proofs.YtbbikhlbkpjpjaaGreatDoor
open Go.RowKit
theorem cubeK_lt:∀ j,cubeK j<18446744073709551616:=fun j=>by
 unfold cubeK
 rw [List.getD_eq_getElem?_getD]
 cases h:cubesL[j]? with
 | none=>decide
 | some x =>
  have hm:x∈cubesL:=List.mem_of_getElem? h
  exact of_decide_eq_true (List.all_eq_true.1 (show cubesL.all (fun x=>decide (x<18446744073709551616))=true by kernel_rfl) x hm)
theorem squareK_lt:∀ j,squareK j<18446744073709551616:=fun j=>by
 unfold squareK
 rw [List.getD_eq_getElem?_getD]
 cases h:squaresL[j]? with
 | none=>decide
 | some x =>
  have hm:x∈squaresL:=List.mem_of_getElem? h
  exact of_decide_eq_true (List.all_eq_true.1 (show squaresL.all (fun x=>decide (x<18446744073709551616))=true by kernel_rfl) x hm)
end Go.Proofs.YtbbikhlbkpjpjaaGreatDoor
namespace Go.Proofs.YtbbikhlbkpjpjaaGreatDoor
open Go.RowKit
theorem Bytes.below {w w':World} {b:Nat} {v:Value} {n:Nat} {bs:Nat→Nat} (h:Bytes w b v n bs) (hb:Below w.heap.size w w'):Bytes w' b v n bs:=by
 rcases h with h | ⟨bb,ob,cap,rfl,h1,h2,h3⟩
 · exact .inl h
 · refine .inr ⟨bb,ob,cap,rfl,h1,h2,fun j hj => ?_⟩
   have:=h3 j hj
   exact (hb.cell (p:=⟨bb,ob+j,none⟩) (block_lt_of_cell this)).trans this
theorem Out.pre {b o n:Nat} {u v w:World} (h:Below u.heap.size u v) (hb:b<u.heap.size) (k:Out b o n v w):Out b o n u w:=(Out.of_below h hb).trans k
structure Made256 (w:World) (g:Nat) (n:Nat) (bs:Nat→Nat):Prop where
 bits:w.cell? ⟨g,0,none⟩=some (.int .i64 256)
 eng:∃ s R,EngAt .u32 w g 1 s R n∧Holds rn cubeK (firstS rn squareK) n bs s R∧s.lt 4294967296∧∀ j,R j<256
theorem Made256.lt {w:World} {g n:Nat} {bs:Nat→Nat} (h:Made256 w g n bs):g<w.heap.size:=block_lt_of_cell h.bits
theorem Made256.below {w w':World} {g n:Nat} {bs:Nat→Nat} (h:Made256 w g n bs) (hb:Below w.heap.size w w'):Made256 w' g n bs:=by
 obtain ⟨s,R,h1,h2,h3,h4⟩:=h.eng
 exact ⟨(hb.cell (p:=⟨g,0,none⟩) h.lt).trans h.bits,s,R,h1.below hb,h2,h3,h4⟩
theorem Made256.congr {w:World} {g n:Nat} {bs cs:Nat→Nat} (h:Made256 w g n bs) (e:∀ j,j<n→bs j=cs j):Made256 w g n cs:=by
 obtain ⟨s,R,h1,h2,h3,h4⟩:=h.eng
 exact ⟨h.bits,s,R,h1,h2.congr e,h3,h4⟩
theorem Made256.out {b o m:Nat} {w w':World} {g n:Nat} {bs:Nat→Nat} (h:Made256 w g n bs) (hb:Out b o m w w') (hne:g≠b):Made256 w' g n bs:=by
 obtain ⟨s,R,h1,h2,h3,h4⟩:=h.eng
 exact ⟨(hb.cell' h.lt hne).trans h.bits,s,R,⟨hb.row h1.st hne,hb.row h1.rest hne,(hb.cell' h.lt hne).trans h1.cnt,(hb.frozen' h.lt hne).trans h1.cntf⟩,h2,h3,h4⟩
theorem newMade256 (w:World) (hT:HTab w cubeK squareK) (bs:Nat→Nat):Calls Tryz.prog 146 #[.int .i64 256] w fun e w'=>∃ g,e = .returned (.pointer (some ⟨g,0,none⟩))∧w.heap.size≤g∧Made256 w' g 0 bs∧Below w.heap.size w w':=by
 refine (new256_any squareK hT.qlt w hT.squares hT.narrow).mono ?_
 rintro e w' ⟨g,rfl,hg,h1,h2,hb⟩
 exact ⟨g,rfl,hg,⟨h1,_,_,h2,Holds.none _ _ _ _ _,firstS_lt rn squareK (by decide) hT.qlt,fun _=>Nat.zero_lt_succ _⟩,hb⟩
set_option maxRecDepth 20000 in
set_option maxHeartbeats 1000000 in
theorem hwrite256_any (g c n:Nat) (v:Value) (bs b2:Nat→Nat) (hb2:∀ j,b2 j<256) (w:World) (hM:Made256 w g c bs) (hT:HTab w cubeK squareK) (h3:5<g) (hv:Bytes w g v n b2) (hcn:c+n<4611686018427387904) :
 Calls Tryz.prog 147 #[.pointer (some ⟨g,0,none⟩),v] w fun e w'=>e = .returned (.int .i64 0)∧Made256 w' g (c+n) (cat c bs b2)∧Out g 1 137 w w':=by
 obtain ⟨hbits,s,R,hE,hH,hs,hR⟩:=hM
 have hgl:g<w.heap.size:=block_lt_of_cell hbits
 have hd:Below w.heap.size w w.drew:=(Below.refl _ _).drew
 have hTd:=hT.below hd hT.size
 have hw:=write32_any cubeK hT.Klt s hs R hR g 1 c n v b2 hb2 w.drew (hE.below hd) hTd.cubes (by omega) (hv.below hd) hcn
 have hX:=writeE_lt (r:=rn) (K:=cubeK) (c:=c) (n:=n) hs hR hb2
 have hHw:=hH.write (by decide) n b2
 obtain ⟨X,hXe⟩:∃ X,X=writeE rn cubeK s R c n b2:=⟨_,rfl⟩
 rw [←hXe] at hw hX hHw
 have hm:=made_yes g 256 (by decide) w hbits
 obtain ⟨p0,p1,p2,p3,p4,p5,p6,p7,p8,p9,p10,p11,p12,p13⟩:=hT.narrow
 clear hT hTd hv hE hH hXe
 go_enter Tryz.func147,Tryz.ntmps147
 go_wp2_with (go_at_call 161;refine hm.mono ?_;rintro e w' ⟨rfl,hw'⟩;subst hw')
 go_region_with (go_at_call 144;refine hw.mono ?_;rintro e w5 ⟨rfl,hE5,hO5⟩)
 all_goals
  go_wp2
  go_ret
  have hO:Out g 1 137 _ w5:=Out.pre hd hgl hO5
  exact ⟨rfl,⟨(hO.cell 0 (by omega)).trans hbits,X.1,X.2,hE5,hHw,hX.1,hX.2⟩,hO⟩
set_option maxRecDepth 20000 in
set_option maxHeartbeats 1000000 in
theorem hsum256_any (g c:Nat) (bs:Nat→Nat) (w:World) (hM:Made256 w g c bs) (hT:HTab w cubeK squareK) (hc:c<2305843009213693952) :
 Calls Tryz.prog 148 #[.pointer (some ⟨g,0,none⟩)] w fun e w'=>∃ ga,e = .returned (.slice (some ⟨ga,0,none⟩) 32 32)∧w.heap.size≤ga∧RowAt .u8 w' ga 0 32 (outB 32 (specS rn cubeK squareK c bs))∧Below w.heap.size w w':=by
 obtain ⟨hbits,s,R,hE,hH,hs,hR⟩:=hM
 have hgl:g<w.heap.size:=block_lt_of_cell hbits
 have hd:Below w.heap.size w w.drew:=(Below.refl _ _).drew
 have hTd:=hT.below hd hT.size
 have hsum:=sum32_any cubeK hT.Klt s hs R hR c hc w.drew hTd.cubes
 rw [hH.end (by decide)] at hsum
 have hm:=made_yes g 256 (by decide) w hbits
 obtain ⟨p0,p1,p2,p3,p4,p5,p6,p7,p8,p9,p10,p11,p12,p13⟩:=hT.narrow
 have hr:∀ w':World,Below w.heap.size w w'→w'.rangeAt g 1 (engVals .u32 s R c):=fun w' h=>(hE.below h).range
 have hS:∀ w':World,Below w.heap.size w w'→∀ b o,b<w.heap.size→w'.cell? ⟨b,o,none⟩=w.cell? ⟨b,o,none⟩:=fun w' h b o hb=>h.cell (p:=⟨b,o,none⟩) hb
 have h0:2<w.heap.size:=by have:=hT.size;omega
 have hi':(Tryz.prog.info? 185).map (·.size)=some (engVals .u32 s R c).length:=by rw [engVals_len];kernel_rfl
 obtain ⟨Y,hY⟩:∃ Y,Y=specS rn cubeK squareK c bs:=⟨_,rfl⟩
 rw [←hY] at hsum ⊢
 clear hT hTd hE hH hY
 go_enter Tryz.func148,Tryz.ntmps148
 go_wp2_with (go_at_call 161;refine hm.mono ?_;rintro e w' ⟨rfl,hw'⟩;subst hw')
 refine wp_region_held_drew (S:=fun w2=>Below w'.heap.size w' w2) (by kernel_rfl) hd (fun hHeld => ?_)
 refine wpAnyH_take (i:=0) (v := .pointer (some ⟨g,0,none⟩)) rfl (by kernel_rfl) (by kernel_rfl) (by kernel_rfl) (fun _ _ _ h=>h) (Or.inl ⟨by rfl,fun w2 _=>by go_simp⟩) hHeld ?_
 refine wpAnyH_take (i:=1) (v := .pointer (some ⟨g,0,none⟩)) rfl (by kernel_rfl) (by kernel_rfl) (by kernel_rfl) (fun _ _ _ h=>h) (Or.inl ⟨by rfl,fun w2 _=>by go_simp⟩) hHeld ?_
 refine wpAnyH_take (i:=2) (v := .pointer (some ⟨g,1,none⟩)) rfl (by kernel_rfl) (by kernel_rfl) (by kernel_rfl) (fun _ _ _ h=>h) (Or.inl ⟨by rfl,fun w2 _=>by go_simp⟩) hHeld ?_
 refine wpAnyH_take (i:=3) (v := .agg (engVals .u32 s R c).toArray) rfl (by kernel_rfl) (by kernel_rfl) (by kernel_rfl) (fun _ _ _ h=>h) (yieldsIf_load_mid (by rfl) 185 _ rfl g 1 rfl _ _ hr Tryz.underlying185 rfl hi') hHeld ?_
 refine wpAnyH_take (i:=4) (v:=(.agg #[.int .i64 32,.int .i64 64,.int .u64 7,.int .u64 18,.int .u64 3,.int .u64 17,.int .u64 19,.int .u64 10,.int .u64 2,.int .u64 13,.int .u64 22,.int .u64 6,.int .u64 11,.int .u64 25])) rfl (by kernel_rfl) (by kernel_rfl) (by kernel_rfl) (fun _ _ _ h=>h) (Or.inl ⟨by rfl,fun w2 hSw=>by go_simp⟩) hHeld ?_
 refine wpAnyH_ready (rs:=[5]) (by kernel_rfl) (by simp) ?_
 refine AllReadyH.cons rfl (fun K hK => ?_) AllReadyH.nil
 go_simp
 go_at_call 145
 refine hsum.mono ?_
 rintro e w5 ⟨ga,rfl,hga,hrow,hb5⟩
 have hbn:=below_next hd hb5
 go_simp
 refine hK.out _ _ hbn (fun hHeld2 => ?_)
 refine wpAnyH_take (i:=6) (v := .slice (some ⟨ga,0,none⟩) 32 32) rfl (by kernel_rfl) (by kernel_rfl) (by kernel_rfl) (fun _ _ _ h=>h) (Or.inl ⟨by rfl,fun w2 _=>by go_simp⟩) hHeld2 ?_
 refine wpAnyH_done (by kernel_rfl) ?_ _
 go_simp
 go_wp2
 go_ret
 exact ⟨ga,rfl,hga,hrow,hbn⟩
structure Made512 (w:World) (g:Nat) (n:Nat) (bs:Nat→Nat):Prop where
 bits:w.cell? ⟨g,0,none⟩=some (.int .i64 512)
 eng:∃ s R,EngAt .u64 w g 138 s R n∧Holds rw6 cubeK (firstS rw6 squareK) n bs s R∧s.lt 18446744073709551616∧∀ j,R j<256
theorem Made512.lt {w:World} {g n:Nat} {bs:Nat→Nat} (h:Made512 w g n bs):g<w.heap.size:=block_lt_of_cell h.bits
theorem Made512.below {w w':World} {g n:Nat} {bs:Nat→Nat} (h:Made512 w g n bs) (hb:Below w.heap.size w w'):Made512 w' g n bs:=by
 obtain ⟨s,R,h1,h2,h3,h4⟩:=h.eng
 exact ⟨(hb.cell (p:=⟨g,0,none⟩) h.lt).trans h.bits,s,R,h1.below hb,h2,h3,h4⟩
theorem Made512.congr {w:World} {g n:Nat} {bs cs:Nat→Nat} (h:Made512 w g n bs) (e:∀ j,j<n→bs j=cs j):Made512 w g n cs:=by
 obtain ⟨s,R,h1,h2,h3,h4⟩:=h.eng
 exact ⟨h.bits,s,R,h1,h2.congr e,h3,h4⟩
theorem Made512.out {b o m:Nat} {w w':World} {g n:Nat} {bs:Nat→Nat} (h:Made512 w g n bs) (hb:Out b o m w w') (hne:g≠b):Made512 w' g n bs:=by
 obtain ⟨s,R,h1,h2,h3,h4⟩:=h.eng
 exact ⟨(hb.cell' h.lt hne).trans h.bits,s,R,⟨hb.row h1.st hne,hb.row h1.rest hne,(hb.cell' h.lt hne).trans h1.cnt,(hb.frozen' h.lt hne).trans h1.cntf⟩,h2,h3,h4⟩
end Go.Proofs.YtbbikhlbkpjpjaaGreatDoor
namespace Go.Proofs.YtbbikhlbkpjpjaaGreatDoor
open Go.RowKit
def Parts (w:World) (gp cnt m:Nat) (t:Nat→Nat):Prop:=∃ (pvs:Nat→Value) (L:Nat→Nat),L 0=0∧L cnt=m∧∀ i,i<cnt→w.cell? ⟨gp,i,none⟩=some (pvs i)∧L i≤L (i+1)∧L (i+1)≤m∧BytesIn w (pvs i) (L (i+1) - L i) (fun j=>t (L i+j))
theorem Parts.below {w w':World} {gp cnt m:Nat} {t:Nat→Nat} (h:Parts w gp cnt m t) (hb:Below w.heap.size w w'):Parts w' gp cnt m t:=by
 obtain ⟨pvs,L,h0,h1,h2⟩:=h
 exact ⟨pvs,L,h0,h1,fun i hi=>⟨(hb.cell (p:=⟨gp,i,none⟩) (block_lt_of_cell (h2 i hi).1)).trans (h2 i hi).1,(h2 i hi).2.1,(h2 i hi).2.2.1,(h2 i hi).2.2.2.still hb⟩⟩
theorem parts_one (w:World) (v:Value) (n:Nat) (bs:Nat→Nat) (ty:TypeId) (h:BytesIn w v n bs):Parts (w.alloc (.cells #[v] ty)) w.heap.size 1 n bs:=by
 refine ⟨fun _=>v,fun i=>if i=0 then 0 else n,rfl,rfl,fun i hi => ?_⟩
 have:i=0:=by omega
 subst this
 refine ⟨by simp,Nat.zero_le _,Nat.le_refl _,?_⟩
 have:=h.still ((Below.refl _ _).alloc (Nat.le_refl _) (.cells #[v] ty))
 simpa using this
def xorG (kv:Nat→Nat) (p k:Nat):Nat→Nat:=fun j=>if j<k then kv j ^^^ p else kv j
theorem xorG_step (kv:Nat→Nat) (p k j:Nat):upd (xorG kv p k) k (kv k ^^^ p) j=xorG kv p (k+1) j:=by
 unfold upd xorG
 by_cases e:j=k
 · subst e;rw [if_pos rfl,if_pos (by omega)]
 · rw [if_neg e]
   by_cases e2:j<k
   · rw [if_pos e2,if_pos (by omega)]
   · rw [if_neg e2,if_neg (by omega)]
def padH (kv:Nat→Nat) (p m:Nat) (t:Nat→Nat):Nat→Nat:=outB 32 (specS rn cubeK squareK (64+m) (cat 64 (fun j=>kv j ^^^ p) t))
set_option maxRecDepth 20000 in
set_option maxHeartbeats 2000000 in
theorem hpadded_any (kv:Nat→Nat) (hkv:∀ j,kv j<256) (p:Nat) (hp:p<256) (gp cnt cap m:Nat) (t:Nat→Nat) (ht:∀ j,t j<256) (hm:m<2305843009213693000) (w:World) (hT:HTab w cubeK squareK) (hP:Parts w gp cnt m t) (hcnt:cnt<1000000) :
 Calls Tryz.prog 130 #[.agg (ints .u8 64 kv).toArray,.int .u8 p,.slice (some ⟨gp,0,none⟩) cnt cap] w
  fun e w'=>∃ g,e = .returned (.slice (some ⟨g,0,none⟩) 32 32)∧w.heap.size≤g∧RowAt .u8 w' g 0 32 (padH kv p m t)∧Below w.heap.size w w':=by
 have h3:=hT.size
 have hnew:=fun W (h:Below w.heap.size w W)=>newMade256 W (hT.below h h3) (cat 64 (fun j=>kv j ^^^ p) t)
 have hrow0:=row_fresh .u8 w 64 kv 164
 obtain ⟨pvs,L,hL0,hLm,hcell⟩:=hP
 go_enter Tryz.func130,Tryz.ntmps130
 go_wp2
 go_loopw [11] (fun i wr=>∃ k:Nat,k≤64∧i = .int .i64 k∧RowAt .u8 wr w.heap.size 0 64 (xorG kv p k)∧Below w.heap.size w wr) (fun i _=>64 - (intOf i).toNat)
 case atStart=>exact ⟨0,Nat.zero_le _,rfl,hrow0.congr (fun j _=>by simp [xorG]),(Below.refl _ _).alloc (Nat.le_refl _) _⟩
 case round =>
  clear hrow0
  obtain ⟨k,hk,rfl,hrow,hb⟩:=hrel
  by_cases hlt:k<64
  · obtain ⟨rk,rf⟩:=hrow k hlt
    rw [Nat.zero_add] at rk rf
    have ek:xorG kv p k k=kv k:=by simp [xorG]
    rw [ek] at rk
    clear hnew hcell
    go_wp2
    go_roundw
    case rel =>
     have h1:=hrow.set (i:=k) hlt (v:=bits .xor .u8 (kv k:Int) (p:Int)) (u:=kv k ^^^ p) (u8_xor_nat _ _ (hkv k) hp)
     rw [Nat.zero_add] at h1
     exact ⟨k+1,by omega,by go_num,h1.congr (fun j _=>xorG_step kv p k j),hb.setCell (Nat.le_refl _) _⟩
    case measure=>simp [intOf];omega
  · have hke:k=64:=by omega
    rw [hke] at hrow
    clear hke
    have hn:=hnew wr hb
    have hwl:w.heap.size<wr.heap.size:=block_lt_of_cell (hrow 0 (by decide)).1
    clear hnew
    go_wp2_with (first
     | (go_at_call 146;refine hn.mono ?_;clear hn;rintro e w1 ⟨g,rfl,hg,hM,hb1⟩;(have hbw1:Below w.heap.size w w1:=hb.trans (hb1.mono hb.size));have hs1:=hb1.size;have hw1:=hwrite256_any g 0 64 (.slice (some ⟨w.heap.size,0,none⟩) 64 64) _ (fun j=>kv j ^^^ p) (fun j=>Nat.xor_lt_two_pow (n:=8) (hkv j) hp) w1 hM (hT.below hbw1 h3) (by omega) (.inr ⟨w.heap.size,0,64,rfl,by omega,Nat.le_refl _,fun j hj=>by have h:=((hrow.below hb1 hwl) j hj).1;rw [h];simp [xorG,hj]⟩) (by decide))
     | (go_at_call 147;refine hw1.mono ?_;clear hw1;rintro e w2 ⟨rfl,hM2,hO2⟩))
    have hbw2:Below w.heap.size w w2:=hbw1.trans (hO2.below (by omega) (by omega))
    obtain ⟨B,hB⟩:∃ B,B=cat 64 (fun j=>kv j ^^^ p) t:=⟨_,rfl⟩
    have hM3:Made256 w2 g (64+L 0) B:=by
     rw [hL0,hB]
     exact hM2.congr (fun j hj=>by
      rw [show cat 0 (cat 64 (fun j=>kv j ^^^ p) t) (fun j=>kv j ^^^ p) j=kv j ^^^ p by unfold cat;simp]
      rw [cat_left (by omega)])
    have HB:Hid (padH kv p m t=outB 32 (specS rn cubeK squareK (64+m) B)):=(by rw [hB];rfl:padH kv p m t=outB 32 (specS rn cubeK squareK (64+m) B))
    have hBr:∀ j,B (64+j)=t j:=fun j=>by rw [hB];exact cat_right j
    have hd:decide ((k:Int)<64)=false:=decide_eq_false (by omega)
    rw [hd]
    clear hd hM2 hM hO2 hbw1 hb1 hrow hb hlt hk hB
    go_loopw [27] (fun i wq=>∃ q:Nat,q≤cnt∧i = .int .i64 q∧Made256 wq g (64+L q) B∧Below w.heap.size w wq) (fun i _=>cnt - (intOf i).toNat)
    case atStart=>exact ⟨0,Nat.zero_le _,rfl,hM3,hbw2⟩
    case round =>
     clear hM3 hbw2
     obtain ⟨q,hq,rfl,hMq,hbq⟩:=hrel
     have hsq:=hbq.size
     by_cases hlt:q<cnt
     · obtain ⟨c1,c2,c3,c4⟩:=hcell q hlt
       have rq:wr.cell? ⟨gp,q,none⟩=some (pvs q):=(hbq.cell (p:=⟨gp,q,none⟩) (block_lt_of_cell c1)).trans c1
       have hw:=hwrite256_any g (64+L q) (L (q+1) - L q) (pvs q) B (fun j=>t (L q+j)) (fun j=>ht _) wr hMq (hT.below hbq h3) (by omega) (c4.away hbq (by omega)) (by omega)
       have hgl:=hMq.lt
       obtain ⟨pv,hpv⟩:∃ pv,pv=pvs q:=⟨_,rfl⟩
       rw [←hpv] at rq hw
       have hqi:(0:Int)≤(q:Int)∧(q:Int)<cnt:=by omega
       clear hpv hcell
       go_wp2_with (go_at_call 147;refine hw.mono ?_;rintro e w3 ⟨rfl,hM3,hO3⟩)
       go_roundw
       case rel =>
        have hM4:Made256 w3 g (64+L (q+1)) B:=by
         rw [show 64+L (q+1)=64+L q+(L (q+1) - L q) by omega]
         exact hM3.congr (fun j hj=>by
          by_cases e:j<64+L q
          · rw [cat_left e]
          · unfold cat
            rw [if_neg e]
            show t (L q+(j - (64+L q)))=B j
            rw [←hBr]
            congr 1;omega)
        exact ⟨q+1,by omega,by go_num,hM4,hbq.trans (hO3.below (by omega) (by omega))⟩
       case measure=>simp [intOf];omega
     · have hqe:q=cnt:=by omega
       rw [hqe,hLm] at hMq
       clear hqe
       have hsum:=hsum256_any g (64+m) B wr hMq (hT.below hbq h3) (by omega)
       go_wp2_with (go_at_call 148;refine hsum.mono ?_;rintro e w4 ⟨ga,rfl,hga,hrow,hb4⟩)
       go_ret
       rw [HB.out]
       exact ⟨ga,rfl,by omega,hrow,hbq.trans (hb4.mono hbq.size)⟩
theorem padH_lt (kv:Nat→Nat) (p m:Nat) (t:Nat→Nat) (j:Nat):padH kv p m t j<256:=Nat.mod_lt _ (by decide)
theorem info64:(Tryz.prog.info? 164).map (·.size)=some 64:=by kernel_rfl
def tagH (kv:Nat→Nat) (m:Nat) (t:Nat→Nat):Nat→Nat:=padH kv 92 32 (padH kv 54 m t)
theorem tagH_lt (kv:Nat→Nat) (m:Nat) (t:Nat→Nat) (j:Nat):tagH kv m t j<256:=padH_lt _ _ _ _ _
set_option maxRecDepth 20000 in
set_option maxHeartbeats 2000000 in
theorem tag_any (kv:Nat→Nat) (hkv:∀ j,kv j<256) (gp cnt cap m:Nat) (t:Nat→Nat) (ht:∀ j,t j<256) (hm:m<2305843009213693000) (w:World) (hT:HTab w cubeK squareK) (hP:Parts w gp cnt m t) (hcnt:cnt<1000000) :
 Calls Tryz.prog 117 #[.agg (ints .u8 64 kv).toArray,.slice (some ⟨gp,0,none⟩) cnt cap] w
  fun e w'=>∃ g,e = .returned (.slice (some ⟨g,0,none⟩) 32 32)∧w.heap.size≤g∧RowAt .u8 w' g 0 32 (tagH kv m t)∧Below w.heap.size w w':=by
 have h3:=hT.size
 have hrow0:=row_fresh .u8 w 64 kv 164
 have hbw:Below w.heap.size w (w.alloc (.cells (ints .u8 64 kv).toArray 164)):=(Below.refl _ _).alloc (Nat.le_refl _) _
 obtain ⟨W,hW⟩:∃ W,W=w.alloc (.cells (ints .u8 64 kv).toArray 164):=⟨_,rfl⟩
 have HW:Hid (W=w.alloc (.cells (ints .u8 64 kv).toArray 164)):=hW
 have hWs:w.heap.size<W.heap.size:=by rw [hW];simp
 rw [←hW] at hrow0 hbw
 have hd:Below W.heap.size W W.drew:=(Below.refl _ _).drew
 have hbd:Below w.heap.size w W.drew:=hbw.trans (hd.mono (by omega))
 have hr:∀ w':World,Below W.heap.size W w'→w'.rangeAt w.heap.size 0 (ints .u8 64 kv):=fun w' h=>(hrow0.below h hWs).range
 have hi':(Tryz.prog.info? 164).map (·.size)=some (ints .u8 64 kv).length:=by rw [ints_len];exact info64
 have c1:=hpadded_any kv hkv 54 (by decide) gp cnt cap m t ht hm W.drew (hT.below hbd h3) (hP.below hbd) hcnt
 have c2:∀ (W5:World) (ga:Nat),Below W.heap.size W W5→RowAt .u8 W5 ga 0 32 (padH kv 54 m t)→Calls Tryz.prog 130 #[.agg (ints .u8 64 kv).toArray,.int .u8 92,.slice (some ⟨W5.heap.size,0,none⟩) 1 1] (W5.alloc (.cells #[.slice (some ⟨ga,0,none⟩) 32 32] 22)) fun e w'=>∃ g,e = .returned (.slice (some ⟨g,0,none⟩) 32 32)∧(W5.alloc (.cells #[.slice (some ⟨ga,0,none⟩) 32 32] 22)).heap.size≤g∧RowAt .u8 w' g 0 32 (tagH kv m t)∧Below (W5.alloc (.cells #[.slice (some ⟨ga,0,none⟩) 32 32] 22)).heap.size (W5.alloc (.cells #[.slice (some ⟨ga,0,none⟩) 32 32] 22)) w':=fun W5 ga hb hrow=>by
  have hb2:Below w.heap.size w (W5.alloc (.cells #[.slice (some ⟨ga,0,none⟩) 32 32] 22)):=(hbw.trans (hb.mono (by omega))).alloc (by have:=hb.size;omega) _
  exact hpadded_any kv hkv 92 (by decide) W5.heap.size 1 1 32 _ (padH_lt _ _ _ _) (by decide) _ (hT.below hb2 h3) (parts_one W5 _ 32 _ _ (.inr ⟨ga,0,32,rfl,block_lt_of_cell (hrow 0 (by decide)).1,Nat.le_refl _,fun j hj=>(hrow j hj).1⟩)) (by decide)
 obtain ⟨X,hX⟩:∃ X,X=padH kv 54 m t:=⟨_,rfl⟩
 rw [←hX] at c1 c2
 clear hW hX hT hP
 go_enter Tryz.func117,Tryz.ntmps117
 go_wp2
 rw [←HW.out]
 refine wp_region_held_drew (S:=fun w2=>Below W.heap.size W w2) (by kernel_rfl) hd (fun hHeld => ?_)
 refine wpAnyH_take (i:=0) (v := .agg (ints .u8 64 kv).toArray) rfl (by kernel_rfl) (by kernel_rfl) (by kernel_rfl) (fun _ _ _ h=>h) (yieldsIf_load_mid (by rfl) 164 _ rfl w.heap.size 0 rfl _ _ hr Tryz.underlying164 rfl hi') hHeld ?_
 refine wpAnyH_take (i:=1) (v := .agg (ints .u8 64 kv).toArray) rfl (by kernel_rfl) (by kernel_rfl) (by kernel_rfl) (fun _ _ _ h=>h) (yieldsIf_load_mid (by rfl) 164 _ rfl w.heap.size 0 rfl _ _ hr Tryz.underlying164 rfl hi') hHeld ?_
 refine wpAnyH_take (i:=2) (v := .slice (some ⟨gp,0,none⟩) cnt cap) rfl (by kernel_rfl) (by kernel_rfl) (by kernel_rfl) (fun _ _ _ h=>h) (Or.inl ⟨by rfl,fun w2 _=>by go_simp⟩) hHeld ?_
 refine wpAnyH_ready (rs:=[3]) (by kernel_rfl) (by simp) ?_
 refine AllReadyH.cons rfl (fun K hK => ?_) AllReadyH.nil
 go_simp
 go_at_call 130
 refine c1.mono ?_
 rintro e w5 ⟨ga,rfl,hga,hrow,hb5⟩
 have hbn:=below_next hd hb5
 go_simp
 refine hK.out _ _ hbn (fun hHeld2 => ?_)
 clear hK K
 refine wpAnyH_ready (rs:=[4]) (by kernel_rfl) (by simp) ?_
 refine AllReadyH.cons rfl (fun K hK => ?_) AllReadyH.nil
 go_simp
 refine hK.out _ _ (hbn.alloc hbn.size _) (fun hHeld3 => ?_)
 clear hK K
 refine wpAnyH_ready (rs:=[5]) (by kernel_rfl) (by simp) ?_
 refine AllReadyH.cons rfl (fun K hK => ?_) AllReadyH.nil
 go_simp
 go_at_call 130
 refine (c2 w5 ga hbn hrow).mono ?_
 rintro e w6 ⟨gb,rfl,hgb,hrowb,hb6⟩
 have hbm:=below_next (hbn.alloc hbn.size _) hb6
 go_simp
 refine hK.out _ _ hbm (fun hHeld4 => ?_)
 clear hK K
 refine wpAnyH_take (i:=6) (v := .slice (some ⟨gb,0,none⟩) 32 32) rfl (by kernel_rfl) (by kernel_rfl) (by kernel_rfl) (fun _ _ _ h=>h) (Or.inl ⟨by rfl,fun w2 _=>by go_simp⟩) hHeld4 ?_
 refine wpAnyH_done (by kernel_rfl) ?_ _
 go_simp
 go_wp2
 go_ret
 have hz:=hbn.size
 simp only [World.size_alloc] at hgb
 exact ⟨gb,rfl,by omega,hrowb,hbw.trans (hbm.mono (by omega))⟩
theorem zero64 (w:World):Sem.run Tryz.prog (zeroValue 164) w = .ok (.agg (zb 64)) w:=by kernel_rfl
def keyB (n:Nat) (bs:Nat→Nat):Nat→Nat:=fun j=>if n≤64 then (if j<n then bs j else 0) else (if j<32 then outB 32 (specS rn cubeK squareK n bs) j else 0)
theorem keyB_lt {n:Nat} {bs:Nat→Nat} (h:∀ j,bs j<256):∀ j,keyB n bs j<256:=fun j=>by
 unfold keyB
 split
 · split
   · exact h j
   · decide
 · split
   · exact Nat.mod_lt _ (by decide)
   · decide
theorem lay64 (W0:World) (n:Nat) (bs:Nat→Nat) (hn:n≤64) :
 RowAt .u8 ((W0.alloc (.cells (zb 64) 164)).setCells W0.heap.size 0 (ints .u8 n bs)) W0.heap.size 0 64 (fun j=>if j<n then bs j else 0):=by
 have h0:RowAt .u8 (W0.alloc (.cells (zb 64) 164)) W0.heap.size 0 64 (fun _=>0):=RowAt.fresh (fun j hj=>zb_at 64 j hj)
 have h1:=h0.splice 0 n bs (by omega)
 rw [Nat.add_zero] at h1
 refine h1.congr (fun j hj => ?_)
 unfold over
 by_cases e:j<n
 · rw [if_pos ⟨Nat.zero_le _,by omega⟩,if_pos e,Nat.sub_zero]
 · rw [if_neg (by omega),if_neg e]
theorem there64 (W0:World):(W0.alloc (.cells (zb 64) 164)).there W0.heap.size 0 64:=fun j hj=>by
 have h0:RowAt .u8 (W0.alloc (.cells (zb 64) 164)) W0.heap.size 0 64 (fun _=>0):=RowAt.fresh (fun j hj=>zb_at 64 j hj)
 exact ⟨by rw [(h0 j hj).1];rfl,(h0 j hj).2⟩
end Go.Proofs.YtbbikhlbkpjpjaaGreatDoor
