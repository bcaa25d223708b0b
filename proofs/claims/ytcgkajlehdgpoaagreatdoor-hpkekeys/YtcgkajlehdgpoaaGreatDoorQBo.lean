/- What keys are derived and shared: the program and the reference answer the same. -/
import Derived.Test.YtcgkajlehdgpoaaGreatDoorQRCM
namespace Go.Proofs.YtcgkajlehdgpoaaGreatDoor
open Go.RowKit
abbrev AnsE (f:FuncId) (args:Array Value) (w:World) (L:Nat) (A:Nat→Nat) (M:Nat) (B:Nat→Nat) (E:Int):Prop :=
 Calls Tryz.prog f args w fun e w'=>∃ s p,e = .returned (.tuple #[s,p,.int .i64 E])∧BytesIn w' s L A∧BytesIn w' p M B∧Below w.heap.size w w'
abbrev AnsD (f:FuncId) (args:Array Value) (w:World) (L:Nat) (A:Nat→Nat) (E:Int):Prop :=
 Calls Tryz.prog f args w fun e w'=>∃ s,e = .returned (.tuple #[s,.int .i64 E])∧BytesIn w' s L A∧Below w.heap.size w w'
theorem ansE_nil {f:FuncId} {args:Array Value} {w:World} {E:Int} (c:Calls Tryz.prog f args w fun e w'=>e = .returned (.tuple #[.slice none 0 0,.slice none 0 0,.int .i64 E])∧Below w.heap.size w w'):AnsE f args w 0 lZ 0 lZ E :=
 c.mono fun _ _ ⟨he,hb⟩=>⟨_,_,he,BytesIn.nil0 _ _,BytesIn.nil0 _ _,hb⟩
theorem ansD_nil {f:FuncId} {args:Array Value} {w:World} {E:Int} (c:Calls Tryz.prog f args w fun e w'=>e = .returned (.tuple #[.slice none 0 0,.int .i64 E])∧Below w.heap.size w w'):AnsD f args w 0 lZ E :=
 c.mono fun _ _ ⟨he,hb⟩=>⟨_,he,BytesIn.nil0 _ _,hb⟩
theorem encap_both (pn m:Nat) (x ikm:Nat→Nat) (hx:∀ j,x j<256) (hikm:∀ j,ikm j<256) (hm:m+300<140737488355000):∃ L A M B E,(∀ j,A j<256)∧(∀ j,B j<256)∧(∀ u v W,HTab W cubeK squareK→BytesIn W u pn x→BytesIn W v m ikm→AnsE 11 #[u,v] W L A M B E)∧(∀ u v W,BytesIn W u pn x→BytesIn W v m ikm→AnsE 12 #[u,v] W L A M B E)∧((¬E=0∧L=0∧M=0)∨(E=0∧L=32∧M=32)):=by
 by_cases hp:pn=32
 · subst hp
   by_cases h0:sdN (dsN m ikm) x=0
   · exact ⟨0,lZ,0,lZ,30,lZ_lt,lZ_lt,fun u v W hT hu hv=>ansE_nil (cEncap_stop u v m ikm hikm hm 30 (by decide) W hT hv (fun s W' hb hs=>csh_none s u _ x (dsN_lt _ _) hx h0 W' hs (hu.keep hb))),fun u v W hu hv=>ansE_nil (rEncap_none u v m x ikm hx hikm hm h0 W hu hv),.inl ⟨by decide,rfl,rfl⟩⟩
   · exact ⟨32,_,32,_,0,shN2_lt _ _ _,puN_lt _,fun u v W hT hu hv=>cEncap_some u v m x ikm hx hikm hm h0 W hT hu hv,fun u v W hu hv=>rEncap_some u v m x ikm hx hikm hm h0 W hu hv,.inr ⟨rfl,rfl,rfl⟩⟩
 · exact ⟨0,lZ,0,lZ,1,lZ_lt,lZ_lt,fun u v W hT hu hv=>ansE_nil (cEncap_stop u v m ikm hikm hm 1 (by decide) W hT hv (fun s W' hb hs=>csh_arg s u 32 pn _ x (dsN_lt _ _) (by omega) W' hs (hu.keep hb))),fun u v W hu hv=>ansE_nil (rEncap_arg u v pn x hp W hu),.inl ⟨by decide,rfl,rfl⟩⟩
theorem decap_both (n m:Nat) (k x:Nat→Nat) (hk:∀ j,k j<256) (hx:∀ j,x j<256):∃ L A E,(∀ j,A j<256)∧(∀ u v W,HTab W cubeK squareK→BytesIn W u n k→BytesIn W v m x→AnsD 13 #[u,v] W L A E)∧(∀ u v W,BytesIn W u n k→BytesIn W v m x→AnsD 14 #[u,v] W L A E)∧((¬E=0∧L=0)∨(E=0∧L=32)):=by
 by_cases hp:n=32∧m=32
 · obtain ⟨rfl,rfl⟩:=hp
   by_cases h0:sdN k x=0
   · exact ⟨0,lZ,30,lZ_lt,fun u v W hT hu hv=>ansD_nil (cDecap_stop u v 30 (by decide) W (csh_none u v k x hk hx h0 W hu hv)),fun u v W hu hv=>ansD_nil (rDecap_none u v k x hk hx h0 W hu hv),.inl ⟨by decide,rfl⟩⟩
   · exact ⟨32,_,0,shN2_lt _ _ _,fun u v W hT hu hv=>cDecap_some u v k x hk hx h0 W hT hu hv,fun u v W hu hv=>rDecap_some u v k x hk hx h0 W hu hv,.inr ⟨rfl,rfl⟩⟩
 · exact ⟨0,lZ,1,lZ_lt,fun u v W hT hu hv=>ansD_nil (cDecap_stop u v 1 (by decide) W (csh_arg u v n m k x hk hp W hu hv)),fun u v W hu hv=>ansD_nil (rDecap_arg u v n m k x hp W hu hv),.inl ⟨by decide,rfl⟩⟩
end Go.Proofs.YtcgkajlehdgpoaaGreatDoor
