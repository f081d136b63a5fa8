import Derived.Test.YtciihepbeacppaaGreatM01
namespace Go.Proofs.YtciihepbeacppaaGreat
open Go.RowKit
set_option linter.unusedVariables false
def addS (nd:Nd) (s:PS):PS:={ s with nodes:=s.nodes ++ [{ nd with nx:=s.nodes.length + 1 }] }
theorem slice_of_own {w:World} {B:Nat} {e:TypeId} {sz n:Nat} {v:Value} {xs:List Value} (h:w.ownsRow B e sz v n xs):∃ ao cap,v = .slice ao n cap:=by
 rcases h.2 with ⟨rfl,rfl⟩ | ⟨g,cap,cur,rfl,_⟩ <;> exact ⟨_,_,rfl⟩
theorem Nd.one (a:Nd):∀ u∈a.cells,u.oneCell' = true:=by
 intro u hu;simp [Nd.cells] at hu;rcases hu with rfl | rfl | rfl | rfl | rfl | rfl <;> rfl
theorem cellsR {w:World} {r:Nat} {a b c d e f:Value} {t:TypeId} (h:w.heap[r]? = some (.cells #[a,b,c,d,e,f] t (0,0))) :
  (w.cell? ⟨r,0,none⟩ = some a∧w.cell? ⟨r,1,none⟩ = some b∧w.cell? ⟨r,2,none⟩ = some c∧w.cell? ⟨r,3,none⟩ = some d∧w.cell? ⟨r,4,none⟩ = some e∧w.cell? ⟨r,5,none⟩ = some f) ∧
  w.frozen? ⟨r,0,none⟩ = false∧w.frozen? ⟨r,1,none⟩ = false∧w.frozen? ⟨r,2,none⟩ = false∧w.frozen? ⟨r,3,none⟩ = false∧w.frozen? ⟨r,4,none⟩ = false∧w.frozen? ⟨r,5,none⟩ = false :=
 ⟨(cells6 h).1,(cells6 h).2 0,(cells6 h).2 1,(cells6 h).2 2,(cells6 h).2 3,(cells6 h).2 4,(cells6 h).2 5⟩
section
variable {B:Nat} {WV:Value} {w:World} {P:Nat} {ws:List ByteArray} {s:PS} {F:List Nat} {wv vv hv nv:Value}
set_option maxRecDepth 100000 in
set_option maxHeartbeats 2000000 in
theorem add_any (nd:Nd) (h:IsQ B WV w P ws s F) (hn:s.nodes.length≤100000) :
  Calls Tryz.prog 123 #[.pointer (some ⟨P,0,none⟩),.agg nd.cells.toArray] w fun e w'=>e = .returned (.int .i64 s.nodes.length)∧∃ F',IsQ B WV w' P ws (addS nd s) F'∧Stp F w F' w':=by
 obtain ⟨i0,hi,hz0,hz1,hz2⟩:=info_parts Tryz.infoNode
 have HQ:=hide h
 obtain ⟨n0,n1,n2,n3,n4,n5⟩:=nd
 obtain ⟨w0,hw0⟩:∃ w0,w0 = w.alloc (.cells #[.int .i64 n0,.int .i64 n1,.int .i64 n2,.int .i64 n3,.int .i64 ((s.nodes.length:Int) + 1),.int .i64 n5] 186):=⟨_,rfl⟩
 have h0:IsQ B WV w0 P ws s F:=by rw [hw0];exact h.alloc _
 have HS0:Hid (Stp F w F w0):=hide (by rw [hw0];exact (Stp.refl F w).alloc _)
 have hr0:w0.heap[w.heap.size]? = some (.cells #[.int .i64 n0,.int .i64 n1,.int .i64 n2,.int .i64 n3,.int .i64 ((s.nodes.length:Int) + 1),.int .i64 n5] 186 (0,0)):=by rw [hw0];exact heap_alloc_new w _
 have HW0:=hide hw0
 have hrl:w.heap.size < w0.heap.size:=by rw [hw0];simp
 have HN0:Hid (w.heap.size ∉ F):=hide (fun hm=>by have:=(h.m.mem _ hm).2;omega)
 clear hw0
 obtain ⟨wv,vv,hv,nv,hpv⟩:=h.m.named
 obtain ⟨_,_,_,_,c5,fz⟩:=hpv.readsV
 obtain ⟨ao,cap,rfl⟩:=slice_of_own hpv.2.2.2.2.2.1
 have hPw:P < w.heap.size:=(h.m.mem P h.m.memP).2
 have f5:=fz 5
 clear h h0 fz
 simp only [Nd.cells]
 go_enter Tryz.func123,Tryz.ntmps123
 go_wp2_with fail
 rw [← uh HW0]
 have hpv0:IsPv B WV w0 P ws s F wv vv hv (.slice ao s.nodes.length cap):=by rw [uh HW0];exact hpv.alloc _
 clear c5 f5
 obtain ⟨_,_,_,_,c5,fz⟩:=hpv0.readsV
 have f5:=fz 5
 obtain ⟨⟨q0,q1,q2,q3,q4,q5⟩,_⟩:=cellsR hr0
 have HR0:=hide hr0
 have hPl:P < w0.heap.size:=by omega
 have hBs:B≤w0.heap.size:=by have:=(hpv0.is.mem P hpv0.is.memP).1;omega
 have HNP:Hid ((Value.slice ao s.nodes.length cap).ownBlock≠some P):=hide (fun e=>hpv0.apart.1 P (by simp [e]) rfl)
 have HROW:=hide hpv0.2.2.2.2.2.1
 have hal:∀ (b j k:Nat) (o:Obj) (v:Value),b < w0.heap.size→w0.cell? ⟨b,j,none⟩ = some v→((w0.drewN k).alloc o).cell? ⟨b,j,none⟩ = some v:=fun b j k o v hb hv=>(World.cell?_of_block (a:=⟨b,j,none⟩) (Below.heap_alloc (w0.drewN k) o b hb)).trans hv
 have c5a:=fun k o=>hal P 5 k o _ hPl c5
 have q0a:=fun k o=>hal _ 0 k o _ hrl q0
 have q1a:=fun k o=>hal _ 1 k o _ hrl q1
 have q2a:=fun k o=>hal _ 2 k o _ hrl q2
 have q3a:=fun k o=>hal _ 3 k o _ hrl q3
 have q4a:=fun k o=>hal _ 4 k o _ hrl q4
 have q5a:=fun k o=>hal _ 5 k o _ hrl q5
 have HV0:=hide hpv0
 clear hal fz hpv0 hr0 hpv
 go_region_law (refine step_app1 _ rfl (.tmp 18) (.tmp 20) 103 rfl B 186 i0 _ 6 48 Tryz.underlying103 hi hz0 hz1 hz2 rfl (by decide) (.slice ao s.nodes.length cap) s.nodes.length (ndCells s.nodes) (by simp [Act.eval]) (own_da (uh HROW) _ _) ⟨w0.heap.size,0,none⟩ 1 [.int .i64 n0,.int .i64 n1,.int .i64 n2,.int .i64 n3,.int .i64 ((s.nodes.length:Int) + 1),.int .i64 n5] (by simp [Act.eval]) rfl (new_cells (w0.drewN _) _ rfl _ _) (Nd.one ⟨n0,n1,n2,n3,s.nodes.length + 1,n5⟩) (by omega) (by omega) (le_da hBs _ _) ?_;intro g2 cap2 w2 hown2 hgrow2 hblk2;have c5':=grown_cell hgrow2 hPl (uh HNP) 5 c5;have f5':=grown_frozen hgrow2 hPl (uh HNP) 5 f5;obtain ⟨F',hI',hS'⟩:=IsPv.pushNodes ⟨n0,n1,n2,n3,s.nodes.length + 1,n5⟩ ((uh HV0).drewN _) hgrow2 hown2 hblk2;have HI':=hide hI';have HS':=hide hS';clear hown2 hgrow2 hblk2 hI' hS')
 all_goals
  go_wp2_with fail
  go_ret
  exact ⟨rfl,F',⟨uh HI',(uh HQ).f⟩,((uh HS0).drewN _).trans (uh HS')⟩
end
def kNew:ByteArray:=⟨#[110,101,119]⟩
def kDot:ByteArray:=⟨#[46]⟩
def kN:ByteArray:=⟨#[110]⟩
def kSkip:ByteArray:=⟨#[115,107,105,112]⟩
def kFree:ByteArray:=⟨#[102,114,101,101]⟩
def coT (ws:List ByteArray) (s:PS):PS:=if acB ws kNe s then s.adv else exS ws kEq s
def coO (ws:List ByteArray) (s:PS):Nat:=if acB ws kNe s then 9 else 8
def coS (ws:List ByteArray) (s:PS):PS:=if acB ws kStar s then s.adv else valS ws (coT ws (vaS ws s))
def coN (ws:List ByteArray) (s:PS):Nd :=
 if acB ws kStar s then ⟨7,0,0,0,0,0⟩ else ⟨coO ws (vaS ws s),vaI ws s,valK ws (coT ws (vaS ws s)),valI ws (coT ws (vaS ws s)),0,0⟩
def tsP (ws:List ByteArray) (s:PS):PS:=exS ws kClose (coS ws (exS ws kOpen s))
def tsS (ws:List ByteArray) (s:PS):PS:=addS (coN ws (exS ws kOpen s)) (tsP ws s)
def asD (ws:List ByteArray) (s:PS):Bool:=valK ws s == 1 && acB ws kDot (valS ws s)
def asS (ws:List ByteArray) (s:PS):PS:=if acB ws kNew s then s.adv else if asD ws s then exS ws kN (valS ws s).adv else valS ws s
def asN (ws:List ByteArray) (v:Nat) (s:PS):Nd:=if acB ws kNew s then ⟨4,v,0,0,0,0⟩ else if asD ws s then ⟨2,v,valK ws s,valI ws s,0,0⟩ else ⟨1,v,valK ws s,valI ws s,0,0⟩
def siL (ws:List ByteArray) (s:PS):PS:=exS ws kEq (exS ws kN s.adv)
def siS (ws:List ByteArray) (s:PS):PS :=
 if acB ws kSkip s then s.adv else if acB ws kFree s then vaS ws s.adv else if acB ws kDot (vaS ws s) then valS ws (siL ws (vaS ws s)) else asS ws (exS ws kEq (vaS ws s))
def siN (ws:List ByteArray) (s:PS):Nd :=
 if acB ws kSkip s then ⟨6,0,0,0,0,0⟩ else if acB ws kFree s then ⟨5,vaI ws s.adv,0,0,0,0⟩ else
 if acB ws kDot (vaS ws s) then ⟨3,vaI ws s,valK ws (siL ws (vaS ws s)),valI ws (siL ws (vaS ws s)),0,0⟩ else asN ws (vaI ws s) (exS ws kEq (vaS ws s))
section
variable {B:Nat} {WV:Value} {w:World} {P:Nat} {ws:List ByteArray} {s:PS} {F:List Nat}
set_option maxRecDepth 100000 in
set_option maxHeartbeats 2000000 in
theorem condition_any (h:IsQ B WV w P ws s F) :
  Calls Tryz.prog 247 #[.pointer (some ⟨P,0,none⟩)] w fun e w'=>e = .returned (.agg (coN ws s).cells.toArray)∧∃ F',IsQ B WV w' P ws (coS ws s) F'∧Stp F w F' w':=by
 have HQ:=hide h
 clear h
 cases hb:acB ws kStar s with
 | true =>
  have HN:Hid (coN ws s = ⟨7,0,0,0,0,0⟩):=hide (if_pos hb)
  have HS:Hid (coS ws s = s.adv):=hide (if_pos hb)
  have HE:Hid (acS ws kStar s = s.adv):=hide (if_pos hb)
  have HB:=hide hb
  clear hb
  go_enter Tryz.func247,Tryz.ntmps247
  have HA1:=fun o=>hide (accept_any kStar (by decide) ((uh HQ).alloc o))
  simp only [uh HB,uh HE] at HA1
  go_wp2_with fail
  refine (uh (HA1 _)).mono ?_
  rintro e w1 ⟨rfl,hI1,hS1⟩
  have hT1:=((Stp.refl F w).alloc _).trans hS1
  obtain ⟨hbr1,hnr1,hlr1⟩:=loc_new (uh HQ).m hS1
  have HBr1:=hide hbr1
  have HI1:=hide hI1
  have HS1:=hide hT1
  clear hI1 hS1 hT1 hbr1
  obtain ⟨⟨qr0,qr1,qr2,qr3,qr4,qr5⟩,zr0,zr1,zr2,zr3,zr4,zr5⟩:=cellsR (uh HBr1)
  clear HBr1
  go_wp2_with fail
  refine bodyPost_ret (v:=.agg #[.int .i64 7,.int .i64 0,.int .i64 0,.int .i64 0,.int .i64 0,.int .i64 0]) (by simp [results,Tryz.results247,go_sem,qr0,qr1,qr2,qr3,qr4,qr5]) rfl ⟨by rw [uh HN];rfl,F,?_,?_⟩
  ·rw [uh HS];exact (((((((uh HI1).setOther hnr1 _).setOther hnr1 _).setOther hnr1 _).setOther hnr1 _).setOther hnr1 _).setOther hnr1 _)
  ·exact (((((((uh HS1).setCell (Or.inr (Nat.le_refl _)) _).setCell (Or.inr (Nat.le_refl _)) _).setCell (Or.inr (Nat.le_refl _)) _).setCell (Or.inr (Nat.le_refl _)) _).setCell (Or.inr (Nat.le_refl _)) _).setCell (Or.inr (Nat.le_refl _)) _)
 | false =>
  have HE:Hid (acS ws kStar s = s):=hide (if_neg (by simp [hb]))
  have HN:Hid (coN ws s = ⟨coO ws (vaS ws s),vaI ws s,valK ws (coT ws (vaS ws s)),valI ws (coT ws (vaS ws s)),0,0⟩):=hide (if_neg (by simp [hb]))
  have HS:Hid (coS ws s = valS ws (coT ws (vaS ws s))):=hide (if_neg (by simp [hb]))
  have HB:=hide hb
  clear hb
  cases hb2:acB ws kNe (vaS ws s) with
  | true =>
   have HO:Hid (coO ws (vaS ws s) = 9):=hide (if_pos hb2)
   have HT:Hid (coT ws (vaS ws s) = (vaS ws s).adv):=hide (if_pos hb2)
   have HE2:Hid (acS ws kNe (vaS ws s) = (vaS ws s).adv):=hide (if_pos hb2)
   have HB2:=hide hb2
   clear hb2
   rw [uh HO,uh HT] at HN
   rw [uh HT] at HS
   go_enter Tryz.func247,Tryz.ntmps247
   have HA1:=fun o=>hide (accept_any kStar (by decide) ((uh HQ).alloc o))
   simp only [uh HB,uh HE] at HA1
   go_wp2_with fail
   refine (uh (HA1 _)).mono ?_
   rintro e w1 ⟨rfl,hI1,hS1⟩
   have hT1:=((Stp.refl F w).alloc _).trans hS1
   obtain ⟨hbr1,hnr1,hlr1⟩:=loc_new (uh HQ).m hS1
   have HBr1:=hide hbr1
   have HI1:=hide hI1
   have HS1:=hide hT1
   clear hI1 hS1 hT1 hbr1
   go_wp2_with fail
   refine (variable_any (uh HI1)).mono ?_
   rintro e w2 ⟨rfl,F2,hI2,hS2⟩
   obtain ⟨hbr2,hnr2,hlr2⟩:=loc_keep (uh HBr1) hnr1 hS2
   have HBr2:=hide hbr2
   have HI2:=hide hI2
   have HS2:=hide ((uh HS1).trans hS2)
   clear hI2 hS2 hbr2
   have HA3:=accept_any kNe (by decide) (uh HI2)
   rw [uh HB2,uh HE2] at HA3
   replace HA3:=hide HA3
   go_wp2_with fail
   refine (uh HA3).mono ?_
   rintro e w3 ⟨rfl,hI3,hS3⟩
   obtain ⟨hbr3,hnr3,hlr3⟩:=loc_keep (uh HBr2) hnr2 hS3
   have HBr3:=hide hbr3
   have HI3:=hide hI3
   have HS3:=hide ((uh HS2).trans hS3)
   clear hI3 hS3 hbr3
   go_wp2_with fail
   refine (value_any (uh HI3)).mono ?_
   rintro e w4 ⟨rfl,F4,hI4,hS4⟩
   obtain ⟨hbr4,hnr4,hlr4⟩:=loc_keep (uh HBr3) hnr3 hS4
   have HBr4:=hide hbr4
   have HI4:=hide hI4
   have HS4:=hide ((uh HS3).trans hS4)
   clear hI4 hS4 hbr4
   obtain ⟨⟨qr0,qr1,qr2,qr3,qr4,qr5⟩,zr0,zr1,zr2,zr3,zr4,zr5⟩:=cellsR (uh HBr4)
   clear HBr4
   go_wp2_with fail
   refine bodyPost_ret (v:=.agg #[.int .i64 9,.int .i64 (vaI ws s),.int .i64 (valK ws (vaS ws s).adv),.int .i64 (valI ws (vaS ws s).adv),.int .i64 0,.int .i64 0]) (by simp [results,Tryz.results247,go_sem,World.cell?_alloc_past,hlr4,qr0,qr1,qr2,qr3,qr4,qr5]) rfl ⟨by rw [uh HN];rfl,F4,?_,?_⟩
   ·rw [uh HS];exact (((((((uh HI4).setOther hnr4 _).setOther hnr4 _).setOther hnr4 _).setOther hnr4 _).setOther hnr4 _).setOther hnr4 _).alloc _
   ·exact (((((((uh HS4).setCell (Or.inr (Nat.le_refl _)) _).setCell (Or.inr (Nat.le_refl _)) _).setCell (Or.inr (Nat.le_refl _)) _).setCell (Or.inr (Nat.le_refl _)) _).setCell (Or.inr (Nat.le_refl _)) _).setCell (Or.inr (Nat.le_refl _)) _).alloc _
  | false =>
   have HO:Hid (coO ws (vaS ws s) = 8):=hide (if_neg (by simp [hb2]))
   have HT:Hid (coT ws (vaS ws s) = exS ws kEq (vaS ws s)):=hide (if_neg (by simp [hb2]))
   have HE2:Hid (acS ws kNe (vaS ws s) = vaS ws s):=hide (if_neg (by simp [hb2]))
   have HB2:=hide hb2
   clear hb2
   rw [uh HO,uh HT] at HN
   rw [uh HT] at HS
   go_enter Tryz.func247,Tryz.ntmps247
   have HA1:=fun o=>hide (accept_any kStar (by decide) ((uh HQ).alloc o))
   simp only [uh HB,uh HE] at HA1
   go_wp2_with fail
   refine (uh (HA1 _)).mono ?_
   rintro e w1 ⟨rfl,hI1,hS1⟩
   have hT1:=((Stp.refl F w).alloc _).trans hS1
   obtain ⟨hbr1,hnr1,hlr1⟩:=loc_new (uh HQ).m hS1
   have HBr1:=hide hbr1
   have HI1:=hide hI1
   have HS1:=hide hT1
   clear hI1 hS1 hT1 hbr1
   go_wp2_with fail
   refine (variable_any (uh HI1)).mono ?_
   rintro e w2 ⟨rfl,F2,hI2,hS2⟩
   obtain ⟨hbr2,hnr2,hlr2⟩:=loc_keep (uh HBr1) hnr1 hS2
   have HBr2:=hide hbr2
   have HI2:=hide hI2
   have HS2:=hide ((uh HS1).trans hS2)
   clear hI2 hS2 hbr2
   have HA3:=accept_any kNe (by decide) (uh HI2)
   rw [uh HB2,uh HE2] at HA3
   replace HA3:=hide HA3
   go_wp2_with fail
   refine (uh HA3).mono ?_
   rintro e w3 ⟨rfl,hI3,hS3⟩
   obtain ⟨hbr3,hnr3,hlr3⟩:=loc_keep (uh HBr2) hnr2 hS3
   have HBr3:=hide hbr3
   have HI3:=hide hI3
   have HS3:=hide ((uh HS2).trans hS3)
   clear hI3 hS3 hbr3
   go_wp2_with fail
   refine (expect_any kEq (by decide) (uh HI3)).mono ?_
   rintro e w4 ⟨rfl,hI4,hS4⟩
   obtain ⟨hbr4,hnr4,hlr4⟩:=loc_keep (uh HBr3) hnr3 hS4
   have HBr4:=hide hbr4
   have HI4:=hide hI4
   have HS4:=hide ((uh HS3).trans hS4)
   clear hI4 hS4 hbr4
   go_wp2_with fail
   refine (value_any (uh HI4)).mono ?_
   rintro e w5 ⟨rfl,F5,hI5,hS5⟩
   obtain ⟨hbr5,hnr5,hlr5⟩:=loc_keep (uh HBr4) hnr4 hS5
   have HBr5:=hide hbr5
   have HI5:=hide hI5
   have HS5:=hide ((uh HS4).trans hS5)
   clear hI5 hS5 hbr5
   obtain ⟨⟨qr0,qr1,qr2,qr3,qr4,qr5⟩,zr0,zr1,zr2,zr3,zr4,zr5⟩:=cellsR (uh HBr5)
   clear HBr5
   go_wp2_with fail
   refine bodyPost_ret (v:=.agg #[.int .i64 8,.int .i64 (vaI ws s),.int .i64 (valK ws (exS ws kEq (vaS ws s))),.int .i64 (valI ws (exS ws kEq (vaS ws s))),.int .i64 0,.int .i64 0]) (by simp [results,Tryz.results247,go_sem,World.cell?_alloc_past,hlr5,qr0,qr1,qr2,qr3,qr4,qr5]) rfl ⟨by rw [uh HN];rfl,F5,?_,?_⟩
   ·rw [uh HS];exact (((((((uh HI5).setOther hnr5 _).setOther hnr5 _).setOther hnr5 _).setOther hnr5 _).setOther hnr5 _).setOther hnr5 _).alloc _
   ·exact (((((((uh HS5).setCell (Or.inr (Nat.le_refl _)) _).setCell (Or.inr (Nat.le_refl _)) _).setCell (Or.inr (Nat.le_refl _)) _).setCell (Or.inr (Nat.le_refl _)) _).setCell (Or.inr (Nat.le_refl _)) _).setCell (Or.inr (Nat.le_refl _)) _).alloc _
end
section
variable {ws:List ByteArray} {s:PS}
theorem exS_nodes (k:ByteArray):(exS ws k s).nodes = s.nodes:=by unfold exS;split <;> rfl
theorem vaS_nodes:(vaS ws s).nodes = s.nodes:=by unfold vaS;split <;> rfl
theorem valS_nodes:(valS ws s).nodes = s.nodes:=by unfold valS;split;rfl;exact vaS_nodes
theorem teS_nodes:(teS ws s).nodes = s.nodes:=by unfold teS;split;rfl;exact valS_nodes
theorem coT_nodes:(coT ws s).nodes = s.nodes:=by unfold coT;split;rfl;exact exS_nodes _
theorem coS_nodes:(coS ws s).nodes = s.nodes:=by unfold coS;split;rfl;rw [valS_nodes,coT_nodes,vaS_nodes]
theorem tsP_nodes:(tsP ws s).nodes = s.nodes:=by unfold tsP;rw [exS_nodes,coS_nodes,exS_nodes]
theorem asS_nodes:(asS ws s).nodes = s.nodes:=by unfold asS;split;rfl;split;rw [exS_nodes];exact valS_nodes;exact valS_nodes
theorem siS_nodes:(siS ws s).nodes = s.nodes:=by
 unfold siS;split;rfl;split;rw [vaS_nodes];rfl;split
 ·rw [valS_nodes];unfold siL;rw [exS_nodes,exS_nodes];exact vaS_nodes
 ·rw [asS_nodes,exS_nodes,vaS_nodes]
end
section
variable {B:Nat} {WV:Value} {w:World} {P:Nat} {ws:List ByteArray} {s:PS} {F:List Nat}
set_option maxRecDepth 100000 in
set_option maxHeartbeats 2000000 in
theorem test_any (hn:s.nodes.length≤100000) (h:IsQ B WV w P ws s F) :
  Calls Tryz.prog 214 #[.pointer (some ⟨P,0,none⟩)] w fun e w'=>e = .returned (.int .i64 s.nodes.length)∧∃ F',IsQ B WV w' P ws (tsS ws s) F'∧Stp F w F' w':=by
 have HQ:=hide h
 clear h
 go_enter Tryz.func214,Tryz.ntmps214
 go_wp2_with fail
 refine (expect_any kOpen (by decide) (uh HQ)).mono ?_
 rintro e w1 ⟨rfl,hI1,hS1⟩
 have HI1:=hide hI1
 have HS1:=hide hS1
 clear hI1 hS1
 go_wp2_with fail
 refine (condition_any (uh HI1)).mono ?_
 rintro e w2 ⟨rfl,F2,hI2,hS2⟩
 have HI2:=hide hI2
 have HS2:=hide ((uh HS1).trans hS2)
 clear hI2 hS2
 obtain ⟨A0,hA0⟩:∃ A0,A0 = coN ws (exS ws kOpen s):=⟨_,rfl⟩
 have HA0:=hide hA0
 rw [← hA0]
 clear hA0
 obtain ⟨n0,n1,n2,n3,n4,n5⟩:=A0
 simp only [Nd.cells]
 go_wp2_with fail
 refine (expect_any kClose (by decide) ((uh HI2).alloc _)).mono ?_
 rintro e w3 ⟨rfl,hI3,hS3⟩
 have hT3:=((Stp.refl F2 w2).alloc _).trans hS3
 obtain ⟨hba3,hna3,hla3⟩:=loc_new (uh HI2).m hS3
 have HBa3:=hide hba3
 have HI3:=hide hI3
 have HS3:=hide ((uh HS2).trans hT3)
 clear hI3 hS3 hT3 hba3
 obtain ⟨⟨q0,q1,q2,q3,q4,q5⟩,_⟩:=cellsR (uh HBa3)
 have hadd:=add_any ⟨n0,n1,n2,n3,n4,n5⟩ (uh HI3) (by show (tsP ws s).nodes.length≤100000;rw [tsP_nodes];exact hn)
 simp only [Nd.cells] at hadd
 have HADD:=hide hadd
 clear hadd
 go_wp2_with fail
 refine (uh HADD).mono ?_
 rintro e w4 ⟨rfl,F4,hI4,hS4⟩
 have HI4:=hide hI4
 have HS4:=hide ((uh HS3).trans hS4)
 clear hI4 hS4
 go_wp2_with fail
 go_ret
 refine ⟨ret_int (by show (((tsP ws s).nodes.length:Nat):Int) = _;rw [tsP_nodes]),F4,?_,uh HS4⟩
 unfold tsS;rw [← uh HA0];exact uh HI4
set_option maxRecDepth 100000 in
set_option maxHeartbeats 2000000 in
theorem assignment_any (v:Nat) (h:IsQ B WV w P ws s F) :
  Calls Tryz.prog 216 #[.pointer (some ⟨P,0,none⟩),.int .i64 (v:Int)] w fun e w'=>e = .returned (.agg (asN ws v s).cells.toArray)∧∃ F',IsQ B WV w' P ws (asS ws s) F'∧Stp F w F' w':=by
 have HQ:=hide h
 clear h
 cases hb:acB ws kNew s with
 | true =>
  have HN:Hid (asN ws v s = ⟨4,v,0,0,0,0⟩):=hide (if_pos hb)
  have HS:Hid (asS ws s = s.adv):=hide (if_pos hb)
  have HE:Hid (acS ws kNew s = s.adv):=hide (if_pos hb)
  have HB:=hide hb
  clear hb
  go_enter Tryz.func216,Tryz.ntmps216
  have HA1:=fun o=>hide (accept_any kNew (by decide) ((uh HQ).alloc o))
  simp only [uh HB,uh HE] at HA1
  go_wp2_with fail
  refine (uh (HA1 _)).mono ?_
  rintro e w1 ⟨rfl,hI1,hS1⟩
  have hT1:=((Stp.refl F w).alloc _).trans hS1
  obtain ⟨hbr1,hnr1,hlr1⟩:=loc_new (uh HQ).m hS1
  have HBr1:=hide hbr1
  have HI1:=hide hI1
  have HS1:=hide hT1
  clear hI1 hS1 hT1 hbr1
  obtain ⟨⟨qr0,qr1,qr2,qr3,qr4,qr5⟩,zr0,zr1,zr2,zr3,zr4,zr5⟩:=cellsR (uh HBr1)
  clear HBr1
  go_wp2_with fail
  refine bodyPost_ret (v:=.agg #[.int .i64 4,.int .i64 v,.int .i64 0,.int .i64 0,.int .i64 0,.int .i64 0]) (by simp [results,Tryz.results216,go_sem,qr0,qr1,qr2,qr3,qr4,qr5]) rfl ⟨by rw [uh HN];rfl,F,?_,?_⟩
  ·rw [uh HS];exact (((((((uh HI1).setOther hnr1 _).setOther hnr1 _).setOther hnr1 _).setOther hnr1 _).setOther hnr1 _).setOther hnr1 _)
  ·exact (((((((uh HS1).setCell (Or.inr (Nat.le_refl _)) _).setCell (Or.inr (Nat.le_refl _)) _).setCell (Or.inr (Nat.le_refl _)) _).setCell (Or.inr (Nat.le_refl _)) _).setCell (Or.inr (Nat.le_refl _)) _).setCell (Or.inr (Nat.le_refl _)) _)
 | false =>
  have HE:Hid (acS ws kNew s = s):=hide (if_neg (by simp [hb]))
  have HB:=hide hb
  cases hk:(valK ws s == 1) with
  | false =>
   have HN:Hid (asN ws v s = ⟨1,v,valK ws s,valI ws s,0,0⟩):=hide (by unfold asN asD;rw [hb,hk];rfl)
   have HS:Hid (asS ws s = valS ws s):=hide (by unfold asS asD;rw [hb,hk];rfl)
   have hkf:(((valK ws s:Nat):Int) == 1) = false:=by simp at hk ⊢;omega
   clear hb hk
   go_enter Tryz.func216,Tryz.ntmps216
   have HA1:=fun o=>hide (accept_any kNew (by decide) ((uh HQ).alloc o))
   simp only [uh HB,uh HE] at HA1
   go_wp2_with fail
   refine (uh (HA1 _)).mono ?_
   rintro e w1 ⟨rfl,hI1,hS1⟩
   have hT1:=((Stp.refl F w).alloc _).trans hS1
   obtain ⟨hbr1,hnr1,hlr1⟩:=loc_new (uh HQ).m hS1
   have HBr1:=hide hbr1
   have HI1:=hide hI1
   have HS1:=hide hT1
   clear hI1 hS1 hT1 hbr1
   go_wp2_with fail
   refine (value_any (uh HI1)).mono ?_
   rintro e w2 ⟨rfl,F2,hI2,hS2⟩
   obtain ⟨hbr2,hnr2,hlr2⟩:=loc_keep (uh HBr1) hnr1 hS2
   have HBr2:=hide hbr2
   have HI2:=hide hI2
   have HS2:=hide ((uh HS1).trans hS2)
   clear hI2 hS2 hbr2
   obtain ⟨⟨qr0,qr1,qr2,qr3,qr4,qr5⟩,zr0,zr1,zr2,zr3,zr4,zr5⟩:=cellsR (uh HBr2)
   clear HBr2
   go_wp2_with fail
   refine bodyPost_ret (v:=.agg #[.int .i64 1,.int .i64 v,.int .i64 (valK ws s),.int .i64 (valI ws s),.int .i64 0,.int .i64 0]) (by simp [results,Tryz.results216,go_sem,World.cell?_alloc_past,hlr2,qr0,qr1,qr2,qr3,qr4,qr5]) rfl ⟨by rw [uh HN];rfl,F2,?_,?_⟩
   ·rw [uh HS];exact (((((((uh HI2).setOther hnr2 _).setOther hnr2 _).setOther hnr2 _).setOther hnr2 _).setOther hnr2 _).setOther hnr2 _).alloc _
   ·exact (((((((uh HS2).setCell (Or.inr (Nat.le_refl _)) _).setCell (Or.inr (Nat.le_refl _)) _).setCell (Or.inr (Nat.le_refl _)) _).setCell (Or.inr (Nat.le_refl _)) _).setCell (Or.inr (Nat.le_refl _)) _).setCell (Or.inr (Nat.le_refl _)) _).alloc _
  | true =>
   have hkt:(((valK ws s:Nat):Int) == 1) = true:=by simp at hk ⊢;omega
   cases hd:acB ws kDot (valS ws s) with
   | false =>
    have HN:Hid (asN ws v s = ⟨1,v,valK ws s,valI ws s,0,0⟩):=hide (by unfold asN asD;rw [hb,hk,hd];rfl)
    have HS:Hid (asS ws s = valS ws s):=hide (by unfold asS asD;rw [hb,hk,hd];rfl)
    have HE2:Hid (acS ws kDot (valS ws s) = valS ws s):=hide (if_neg (by simp [hd]))
    have HB2:=hide hd
    clear hb hk hd
    go_enter Tryz.func216,Tryz.ntmps216
    have HA1:=fun o=>hide (accept_any kNew (by decide) ((uh HQ).alloc o))
    simp only [uh HB,uh HE] at HA1
    go_wp2_with fail
    refine (uh (HA1 _)).mono ?_
    rintro e w1 ⟨rfl,hI1,hS1⟩
    have hT1:=((Stp.refl F w).alloc _).trans hS1
    obtain ⟨hbr1,hnr1,hlr1⟩:=loc_new (uh HQ).m hS1
    have HBr1:=hide hbr1
    have HI1:=hide hI1
    have HS1:=hide hT1
    clear hI1 hS1 hT1 hbr1
    go_wp2_with fail
    refine (value_any (uh HI1)).mono ?_
    rintro e w2 ⟨rfl,F2,hI2,hS2⟩
    obtain ⟨hbr2,hnr2,hlr2⟩:=loc_keep (uh HBr1) hnr1 hS2
    have HBr2:=hide hbr2
    have HI2:=hide hI2
    have HS2:=hide ((uh HS1).trans hS2)
    clear hI2 hS2 hbr2
    have HA3:=fun o=>hide (accept_any kDot (by decide) ((uh HI2).alloc o))
    simp only [uh HB2,uh HE2] at HA3
    go_wp2_with fail
    refine (uh (HA3 _)).mono ?_
    rintro e w3 ⟨rfl,hI3,hS3⟩
    have hT3:=((Stp.refl F2 w2).alloc _).trans hS3
    obtain ⟨hbr3,hnr3,hlr3⟩:=loc_keep (uh HBr2) hnr2 hT3
    obtain ⟨hbb3,hnb3,hlb3⟩:=loc_new (uh HI2).m hS3
    have HBr3:=hide hbr3
    have HBb3:=hide hbb3
    have HI3:=hide hI3
    have HS3:=hide ((uh HS2).trans hT3)
    clear hI3 hS3 hT3 hbr3 hbb3
    obtain ⟨⟨qr0,qr1,qr2,qr3,qr4,qr5⟩,zr0,zr1,zr2,zr3,zr4,zr5⟩:=cellsR (uh HBr3)
    clear HBr3
    obtain ⟨⟨qb0,qb1⟩,zb0,zb1⟩:=cells2 (uh HBb3)
    go_wp2_with fail
    refine bodyPost_ret (v:=.agg #[.int .i64 1,.int .i64 v,.int .i64 (valK ws s),.int .i64 (valI ws s),.int .i64 0,.int .i64 0]) (by simp [results,Tryz.results216,go_sem,qr0,qr1,qr2,qr3,qr4,qr5]) rfl ⟨by rw [uh HN];rfl,F2,?_,?_⟩
    ·rw [uh HS];exact (((((((uh HI3).setOther hnr3 _).setOther hnr3 _).setOther hnr3 _).setOther hnr3 _).setOther hnr3 _).setOther hnr3 _)
    ·exact (((((((uh HS3).setCell (Or.inr (Nat.le_refl _)) _).setCell (Or.inr (Nat.le_refl _)) _).setCell (Or.inr (Nat.le_refl _)) _).setCell (Or.inr (Nat.le_refl _)) _).setCell (Or.inr (Nat.le_refl _)) _).setCell (Or.inr (Nat.le_refl _)) _)
   | true =>
    have HN:Hid (asN ws v s = ⟨2,v,valK ws s,valI ws s,0,0⟩):=hide (by unfold asN asD;rw [hb,hk,hd];rfl)
    have HS:Hid (asS ws s = exS ws kN (valS ws s).adv):=hide (by unfold asS asD;rw [hb,hk,hd];rfl)
    have HE2:Hid (acS ws kDot (valS ws s) = (valS ws s).adv):=hide (if_pos hd)
    have HB2:=hide hd
    clear hb hk hd
    go_enter Tryz.func216,Tryz.ntmps216
    have HA1:=fun o=>hide (accept_any kNew (by decide) ((uh HQ).alloc o))
    simp only [uh HB,uh HE] at HA1
    go_wp2_with fail
    refine (uh (HA1 _)).mono ?_
    rintro e w1 ⟨rfl,hI1,hS1⟩
    have hT1:=((Stp.refl F w).alloc _).trans hS1
    obtain ⟨hbr1,hnr1,hlr1⟩:=loc_new (uh HQ).m hS1
    have HBr1:=hide hbr1
    have HI1:=hide hI1
    have HS1:=hide hT1
    clear hI1 hS1 hT1 hbr1
    go_wp2_with fail
    refine (value_any (uh HI1)).mono ?_
    rintro e w2 ⟨rfl,F2,hI2,hS2⟩
    obtain ⟨hbr2,hnr2,hlr2⟩:=loc_keep (uh HBr1) hnr1 hS2
    have HBr2:=hide hbr2
    have HI2:=hide hI2
    have HS2:=hide ((uh HS1).trans hS2)
    clear hI2 hS2 hbr2
    have HA3:=fun o=>hide (accept_any kDot (by decide) ((uh HI2).alloc o))
    simp only [uh HB2,uh HE2] at HA3
    go_wp2_with fail
    refine (uh (HA3 _)).mono ?_
    rintro e w3 ⟨rfl,hI3,hS3⟩
    have hT3:=((Stp.refl F2 w2).alloc _).trans hS3
    obtain ⟨hbr3,hnr3,hlr3⟩:=loc_keep (uh HBr2) hnr2 hT3
    obtain ⟨hbb3,hnb3,hlb3⟩:=loc_new (uh HI2).m hS3
    have HBr3:=hide hbr3
    have HBb3:=hide hbb3
    have HI3:=hide hI3
    have HS3:=hide ((uh HS2).trans hT3)
    clear hI3 hS3 hT3 hbr3 hbb3
    go_wp2_with fail
    refine (expect_any kN (by decide) (uh HI3)).mono ?_
    rintro e w4 ⟨rfl,hI4,hS4⟩
    obtain ⟨hbr4,hnr4,hlr4⟩:=loc_keep (uh HBr3) hnr3 hS4
    obtain ⟨hbb4,hnb4,hlb4⟩:=loc_keep (uh HBb3) hnb3 hS4
    have HBr4:=hide hbr4
    have HBb4:=hide hbb4
    have HI4:=hide hI4
    have HS4:=hide ((uh HS3).trans hS4)
    clear hI4 hS4 hbr4 hbb4
    obtain ⟨⟨qr0,qr1,qr2,qr3,qr4,qr5⟩,zr0,zr1,zr2,zr3,zr4,zr5⟩:=cellsR (uh HBr4)
    clear HBr4
    obtain ⟨⟨qb0,qb1⟩,zb0,zb1⟩:=cells2 (uh HBb4)
    go_wp2_with fail
    refine bodyPost_ret (v:=.agg #[.int .i64 2,.int .i64 v,.int .i64 (valK ws s),.int .i64 (valI ws s),.int .i64 0,.int .i64 0]) (by simp [results,Tryz.results216,go_sem,qr0,qr1,qr2,qr3,qr4,qr5]) rfl ⟨by rw [uh HN];rfl,F2,?_,?_⟩
    ·rw [uh HS];exact (((((((uh HI4).setOther hnr4 _).setOther hnr4 _).setOther hnr4 _).setOther hnr4 _).setOther hnr4 _).setOther hnr4 _)
    ·exact (((((((uh HS4).setCell (Or.inr (Nat.le_refl _)) _).setCell (Or.inr (Nat.le_refl _)) _).setCell (Or.inr (Nat.le_refl _)) _).setCell (Or.inr (Nat.le_refl _)) _).setCell (Or.inr (Nat.le_refl _)) _).setCell (Or.inr (Nat.le_refl _)) _)
set_option maxRecDepth 100000 in
set_option maxHeartbeats 2000000 in
theorem simple_any (h:IsQ B WV w P ws s F) :
  Calls Tryz.prog 188 #[.pointer (some ⟨P,0,none⟩)] w fun e w'=>e = .returned (.agg (siN ws s).cells.toArray)∧∃ F',IsQ B WV w' P ws (siS ws s) F'∧Stp F w F' w':=by
 have HQ:=hide h
 clear h
 cases hb:acB ws kSkip s with
 | true =>
  have HN:Hid (siN ws s = ⟨6,0,0,0,0,0⟩):=hide (if_pos hb)
  have HS:Hid (siS ws s = s.adv):=hide (if_pos hb)
  have HE:Hid (acS ws kSkip s = s.adv):=hide (if_pos hb)
  have HB:=hide hb
  clear hb
  go_enter Tryz.func188,Tryz.ntmps188
  have HA1:=fun o=>hide (accept_any kSkip (by decide) ((uh HQ).alloc o))
  simp only [uh HB,uh HE] at HA1
  go_wp2_with fail
  refine (uh (HA1 _)).mono ?_
  rintro e w1 ⟨rfl,hI1,hS1⟩
  have hT1:=((Stp.refl F w).alloc _).trans hS1
  obtain ⟨hbr1,hnr1,hlr1⟩:=loc_new (uh HQ).m hS1
  have HBr1:=hide hbr1
  have HI1:=hide hI1
  have HS1:=hide hT1
  clear hI1 hS1 hT1 hbr1
  obtain ⟨⟨qr0,qr1,qr2,qr3,qr4,qr5⟩,zr0,zr1,zr2,zr3,zr4,zr5⟩:=cellsR (uh HBr1)
  clear HBr1
  go_wp2_with fail
  refine bodyPost_ret (v:=.agg #[.int .i64 6,.int .i64 0,.int .i64 0,.int .i64 0,.int .i64 0,.int .i64 0]) (by simp [results,Tryz.results188,go_sem,qr0,qr1,qr2,qr3,qr4,qr5]) rfl ⟨by rw [uh HN];rfl,F,?_,?_⟩
  ·rw [uh HS];exact (((((((uh HI1).setOther hnr1 _).setOther hnr1 _).setOther hnr1 _).setOther hnr1 _).setOther hnr1 _).setOther hnr1 _)
  ·exact (((((((uh HS1).setCell (Or.inr (Nat.le_refl _)) _).setCell (Or.inr (Nat.le_refl _)) _).setCell (Or.inr (Nat.le_refl _)) _).setCell (Or.inr (Nat.le_refl _)) _).setCell (Or.inr (Nat.le_refl _)) _).setCell (Or.inr (Nat.le_refl _)) _)
 | false =>
  have HE:Hid (acS ws kSkip s = s):=hide (if_neg (by simp [hb]))
  have HB:=hide hb
  cases hb2:acB ws kFree s with
  | true =>
   have HN:Hid (siN ws s = ⟨5,vaI ws s.adv,0,0,0,0⟩):=hide (by unfold siN;rw [hb,hb2];rfl)
   have HS:Hid (siS ws s = vaS ws s.adv):=hide (by unfold siS;rw [hb,hb2];rfl)
   have HE2:Hid (acS ws kFree s = s.adv):=hide (if_pos hb2)
   have HB2:=hide hb2
   clear hb hb2
   go_enter Tryz.func188,Tryz.ntmps188
   have HA1:=fun o=>hide (accept_any kSkip (by decide) ((uh HQ).alloc o))
   simp only [uh HB,uh HE] at HA1
   go_wp2_with fail
   refine (uh (HA1 _)).mono ?_
   rintro e w1 ⟨rfl,hI1,hS1⟩
   have hT1:=((Stp.refl F w).alloc _).trans hS1
   obtain ⟨hbr1,hnr1,hlr1⟩:=loc_new (uh HQ).m hS1
   have HBr1:=hide hbr1
   have HI1:=hide hI1
   have HS1:=hide hT1
   clear hI1 hS1 hT1 hbr1
   have HA2:=accept_any kFree (by decide) (uh HI1)
   rw [uh HB2,uh HE2] at HA2
   replace HA2:=hide HA2
   go_wp2_with fail
   refine (uh HA2).mono ?_
   rintro e w2 ⟨rfl,hI2,hS2⟩
   obtain ⟨hbr2,hnr2,hlr2⟩:=loc_keep (uh HBr1) hnr1 hS2
   have HBr2:=hide hbr2
   have HI2:=hide hI2
   have HS2:=hide ((uh HS1).trans hS2)
   clear hI2 hS2 hbr2
   go_wp2_with fail
   refine (variable_any (uh HI2)).mono ?_
   rintro e w3 ⟨rfl,F3,hI3,hS3⟩
   obtain ⟨hbr3,hnr3,hlr3⟩:=loc_keep (uh HBr2) hnr2 hS3
   have HBr3:=hide hbr3
   have HI3:=hide hI3
   have HS3:=hide ((uh HS2).trans hS3)
   clear hI3 hS3 hbr3
   obtain ⟨⟨qr0,qr1,qr2,qr3,qr4,qr5⟩,zr0,zr1,zr2,zr3,zr4,zr5⟩:=cellsR (uh HBr3)
   clear HBr3
   go_wp2_with fail
   refine bodyPost_ret (v:=.agg #[.int .i64 5,.int .i64 (vaI ws s.adv),.int .i64 0,.int .i64 0,.int .i64 0,.int .i64 0]) (by simp [results,Tryz.results188,go_sem,qr0,qr1,qr2,qr3,qr4,qr5]) rfl ⟨by rw [uh HN];rfl,F3,?_,?_⟩
   ·rw [uh HS];exact (((((((uh HI3).setOther hnr3 _).setOther hnr3 _).setOther hnr3 _).setOther hnr3 _).setOther hnr3 _).setOther hnr3 _)
   ·exact (((((((uh HS3).setCell (Or.inr (Nat.le_refl _)) _).setCell (Or.inr (Nat.le_refl _)) _).setCell (Or.inr (Nat.le_refl _)) _).setCell (Or.inr (Nat.le_refl _)) _).setCell (Or.inr (Nat.le_refl _)) _).setCell (Or.inr (Nat.le_refl _)) _)
  | false =>
   have HE2:Hid (acS ws kFree s = s):=hide (if_neg (by simp [hb2]))
   have HB2:=hide hb2
   cases hb3:acB ws kDot (vaS ws s) with
   | true =>
    have HN:Hid (siN ws s = ⟨3,vaI ws s,valK ws (siL ws (vaS ws s)),valI ws (siL ws (vaS ws s)),0,0⟩):=hide (by unfold siN;rw [hb,hb2,hb3];rfl)
    have HS:Hid (siS ws s = valS ws (siL ws (vaS ws s))):=hide (by unfold siS;rw [hb,hb2,hb3];rfl)
    have HE3:Hid (acS ws kDot (vaS ws s) = (vaS ws s).adv):=hide (if_pos hb3)
    have HL:Hid (exS ws kEq (exS ws kN (vaS ws s).adv) = siL ws (vaS ws s)):=hide rfl
    have HB3:=hide hb3
    clear hb hb2 hb3
    go_enter Tryz.func188,Tryz.ntmps188
    have HA1:=fun o=>hide (accept_any kSkip (by decide) ((uh HQ).alloc o))
    simp only [uh HB,uh HE] at HA1
    go_wp2_with fail
    refine (uh (HA1 _)).mono ?_
    rintro e w1 ⟨rfl,hI1,hS1⟩
    have hT1:=((Stp.refl F w).alloc _).trans hS1
    obtain ⟨hbr1,hnr1,hlr1⟩:=loc_new (uh HQ).m hS1
    have HBr1:=hide hbr1
    have HI1:=hide hI1
    have HS1:=hide hT1
    clear hI1 hS1 hT1 hbr1
    have HA2:=accept_any kFree (by decide) (uh HI1)
    rw [uh HB2,uh HE2] at HA2
    replace HA2:=hide HA2
    go_wp2_with fail
    refine (uh HA2).mono ?_
    rintro e w2 ⟨rfl,hI2,hS2⟩
    obtain ⟨hbr2,hnr2,hlr2⟩:=loc_keep (uh HBr1) hnr1 hS2
    have HBr2:=hide hbr2
    have HI2:=hide hI2
    have HS2:=hide ((uh HS1).trans hS2)
    clear hI2 hS2 hbr2
    go_wp2_with fail
    refine (variable_any (uh HI2)).mono ?_
    rintro e w3 ⟨rfl,F3,hI3,hS3⟩
    obtain ⟨hbr3,hnr3,hlr3⟩:=loc_keep (uh HBr2) hnr2 hS3
    have HBr3:=hide hbr3
    have HI3:=hide hI3
    have HS3:=hide ((uh HS2).trans hS3)
    clear hI3 hS3 hbr3
    have HA4:=accept_any kDot (by decide) (uh HI3)
    rw [uh HB3,uh HE3] at HA4
    replace HA4:=hide HA4
    go_wp2_with fail
    refine (uh HA4).mono ?_
    rintro e w4 ⟨rfl,hI4,hS4⟩
    obtain ⟨hbr4,hnr4,hlr4⟩:=loc_keep (uh HBr3) hnr3 hS4
    have HBr4:=hide hbr4
    have HI4:=hide hI4
    have HS4:=hide ((uh HS3).trans hS4)
    clear hI4 hS4 hbr4
    go_wp2_with fail
    refine (expect_any kN (by decide) (uh HI4)).mono ?_
    rintro e w5 ⟨rfl,hI5,hS5⟩
    obtain ⟨hbr5,hnr5,hlr5⟩:=loc_keep (uh HBr4) hnr4 hS5
    have HBr5:=hide hbr5
    have HI5:=hide hI5
    have HS5:=hide ((uh HS4).trans hS5)
    clear hI5 hS5 hbr5
    go_wp2_with fail
    refine (expect_any kEq (by decide) (uh HI5)).mono ?_
    rintro e w6 ⟨rfl,hI6,hS6⟩
    rw [uh HL] at hI6
    obtain ⟨hbr6,hnr6,hlr6⟩:=loc_keep (uh HBr5) hnr5 hS6
    have HBr6:=hide hbr6
    have HI6:=hide hI6
    have HS6:=hide ((uh HS5).trans hS6)
    clear hI6 hS6 hbr6
    go_wp2_with fail
    refine (value_any (uh HI6)).mono ?_
    rintro e w7 ⟨rfl,F7,hI7,hS7⟩
    obtain ⟨hbr7,hnr7,hlr7⟩:=loc_keep (uh HBr6) hnr6 hS7
    have HBr7:=hide hbr7
    have HI7:=hide hI7
    have HS7:=hide ((uh HS6).trans hS7)
    clear hI7 hS7 hbr7
    obtain ⟨⟨qr0,qr1,qr2,qr3,qr4,qr5⟩,zr0,zr1,zr2,zr3,zr4,zr5⟩:=cellsR (uh HBr7)
    clear HBr7
    go_wp2_with fail
    refine bodyPost_ret (v:=.agg #[.int .i64 3,.int .i64 (vaI ws s),.int .i64 (valK ws (siL ws (vaS ws s))),.int .i64 (valI ws (siL ws (vaS ws s))),.int .i64 0,.int .i64 0]) (by simp [results,Tryz.results188,go_sem,World.cell?_alloc_past,hlr7,qr0,qr1,qr2,qr3,qr4,qr5]) rfl ⟨by rw [uh HN];rfl,F7,?_,?_⟩
    ·rw [uh HS];exact (((((((uh HI7).setOther hnr7 _).setOther hnr7 _).setOther hnr7 _).setOther hnr7 _).setOther hnr7 _).setOther hnr7 _).alloc _
    ·exact (((((((uh HS7).setCell (Or.inr (Nat.le_refl _)) _).setCell (Or.inr (Nat.le_refl _)) _).setCell (Or.inr (Nat.le_refl _)) _).setCell (Or.inr (Nat.le_refl _)) _).setCell (Or.inr (Nat.le_refl _)) _).setCell (Or.inr (Nat.le_refl _)) _).alloc _
   | false =>
    have HN:Hid (siN ws s = asN ws (vaI ws s) (exS ws kEq (vaS ws s))):=hide (by unfold siN;rw [hb,hb2,hb3];rfl)
    have HS:Hid (siS ws s = asS ws (exS ws kEq (vaS ws s))):=hide (by unfold siS;rw [hb,hb2,hb3];rfl)
    have HE3:Hid (acS ws kDot (vaS ws s) = vaS ws s):=hide (if_neg (by simp [hb3]))
    have HB3:=hide hb3
    clear hb hb2 hb3
    go_enter Tryz.func188,Tryz.ntmps188
    have HA1:=fun o=>hide (accept_any kSkip (by decide) ((uh HQ).alloc o))
    simp only [uh HB,uh HE] at HA1
    go_wp2_with fail
    refine (uh (HA1 _)).mono ?_
    rintro e w1 ⟨rfl,hI1,hS1⟩
    have hT1:=((Stp.refl F w).alloc _).trans hS1
    obtain ⟨hbr1,hnr1,hlr1⟩:=loc_new (uh HQ).m hS1
    have HBr1:=hide hbr1
    have HI1:=hide hI1
    have HS1:=hide hT1
    clear hI1 hS1 hT1 hbr1
    have HA2:=accept_any kFree (by decide) (uh HI1)
    rw [uh HB2,uh HE2] at HA2
    replace HA2:=hide HA2
    go_wp2_with fail
    refine (uh HA2).mono ?_
    rintro e w2 ⟨rfl,hI2,hS2⟩
    obtain ⟨hbr2,hnr2,hlr2⟩:=loc_keep (uh HBr1) hnr1 hS2
    have HBr2:=hide hbr2
    have HI2:=hide hI2
    have HS2:=hide ((uh HS1).trans hS2)
    clear hI2 hS2 hbr2
    go_wp2_with fail
    refine (variable_any (uh HI2)).mono ?_
    rintro e w3 ⟨rfl,F3,hI3,hS3⟩
    obtain ⟨hbr3,hnr3,hlr3⟩:=loc_keep (uh HBr2) hnr2 hS3
    have HBr3:=hide hbr3
    have HI3:=hide hI3
    have HS3:=hide ((uh HS2).trans hS3)
    clear hI3 hS3 hbr3
    have HA4:=accept_any kDot (by decide) (uh HI3)
    rw [uh HB3,uh HE3] at HA4
    replace HA4:=hide HA4
    go_wp2_with fail
    refine (uh HA4).mono ?_
    rintro e w4 ⟨rfl,hI4,hS4⟩
    obtain ⟨hbr4,hnr4,hlr4⟩:=loc_keep (uh HBr3) hnr3 hS4
    have HBr4:=hide hbr4
    have HI4:=hide hI4
    have HS4:=hide ((uh HS3).trans hS4)
    clear hI4 hS4 hbr4
    go_wp2_with fail
    refine (expect_any kEq (by decide) (uh HI4)).mono ?_
    rintro e w5 ⟨rfl,hI5,hS5⟩
    obtain ⟨hbr5,hnr5,hlr5⟩:=loc_keep (uh HBr4) hnr4 hS5
    have HBr5:=hide hbr5
    have HI5:=hide hI5
    have HS5:=hide ((uh HS4).trans hS5)
    clear hI5 hS5 hbr5
    go_wp2_with fail
    refine (assignment_any (vaI ws s) (uh HI5)).mono ?_
    rintro e w6 ⟨rfl,F6,hI6,hS6⟩
    obtain ⟨hbr6,hnr6,hlr6⟩:=loc_keep (uh HBr5) hnr5 hS6
    have HBr6:=hide hbr6
    have HI6:=hide hI6
    have HS6:=hide ((uh HS5).trans hS6)
    clear hI6 hS6 hbr6
    obtain ⟨A0,hA0⟩:∃ A0,A0 = asN ws (vaI ws s) (exS ws kEq (vaS ws s)):=⟨_,rfl⟩
    have HA0:=hide hA0
    rw [← hA0] at HN ⊢
    clear hA0
    obtain ⟨n0,n1,n2,n3,n4,n5⟩:=A0
    simp only [Nd.cells]
    obtain ⟨⟨qr0,qr1,qr2,qr3,qr4,qr5⟩,zr0,zr1,zr2,zr3,zr4,zr5⟩:=cellsR (uh HBr6)
    clear HBr6
    go_wp2_with fail
    refine bodyPost_ret (v:=.agg #[.int .i64 n0,.int .i64 n1,.int .i64 n2,.int .i64 n3,.int .i64 n4,.int .i64 n5]) (by simp [results,Tryz.results188,go_sem,qr0,qr1,qr2,qr3,qr4,qr5]) rfl ⟨by rw [uh HN];rfl,F6,?_,?_⟩
    ·rw [uh HS];exact (((((((uh HI6).setOther hnr6 _).setOther hnr6 _).setOther hnr6 _).setOther hnr6 _).setOther hnr6 _).setOther hnr6 _)
    ·exact (((((((uh HS6).setCell (Or.inr (Nat.le_refl _)) _).setCell (Or.inr (Nat.le_refl _)) _).setCell (Or.inr (Nat.le_refl _)) _).setCell (Or.inr (Nat.le_refl _)) _).setCell (Or.inr (Nat.le_refl _)) _).setCell (Or.inr (Nat.le_refl _)) _)
end
def kLB:ByteArray:=⟨#[123]⟩
def kRB:ByteArray:=⟨#[125]⟩
def kSemi:ByteArray:=⟨#[59]⟩
def kIf:ByteArray:=⟨#[105,102]⟩
def kWhile:ByteArray:=⟨#[119,104,105,108,101]⟩
def kElse:ByteArray:=⟨#[101,108,115,101]⟩
def setOt (k n:Nat) (l:List Nd):List Nd:=l.modify k (fun x=>{ x with ot:=n })
def setNx (k n:Nat) (l:List Nd):List Nd:=l.modify k (fun x=>{ x with nx:=n })
def jmp:Nd:=⟨10,0,0,0,0,0⟩
def scS (ws:List ByteArray) (s:PS):PS:=addS (siN ws s) (exS ws kSemi (siS ws s))
def brA (blk:PS→PS) (ws:List ByteArray) (s:PS):PS:=blk (tsS ws (exS ws kIf s))
def brB (t:Nat) (s:PS):PS:={ addS jmp s.adv with nodes:=setOt t (addS jmp s.adv).nodes.length (addS jmp s.adv).nodes }
def brC (j:Nat) (s:PS):PS:={ s with nodes:=setNx j s.nodes.length s.nodes }
def brS (blk:PS→PS) (ws:List ByteArray) (s:PS):PS :=
 if acB ws kElse (brA blk ws s) then brC (brA blk ws s).nodes.length (blk (brB s.nodes.length (brA blk ws s)))
 else { brA blk ws s with nodes:=setOt s.nodes.length (brA blk ws s).nodes.length (brA blk ws s).nodes }
def loA (blk:PS→PS) (ws:List ByteArray) (s:PS):PS:=blk (tsS ws (exS ws kWhile s))
def loS (blk:PS→PS) (ws:List ByteArray) (s:PS):PS :=
 { addS jmp (loA blk ws s) with nodes:=setOt s.nodes.length (addS jmp (loA blk ws s)).nodes.length (setNx (loA blk ws s).nodes.length s.nodes.length (addS jmp (loA blk ws s)).nodes) }
def cmB (blk:PS→PS) (ws:List ByteArray) (s:PS):PS:=if acB ws kIf s then brS blk ws s else if acB ws kWhile s then loS blk ws s else scS ws s
def cmS (c:PS→PS) (ws:List ByteArray):Nat→PS→PS
 | 0,s=>s
 | n + 1,s=>if s.failed || acB ws kRB s then s else cmS c ws n (c s)
def blS (ws:List ByteArray):Nat→PS→PS
 | 0,s=>s
 | f + 1,s=>exS ws kRB (cmS (cmB (blS ws f) ws) ws (ws.length + 2) (exS ws kLB s))
theorem setOt_length (k n:Nat) (l:List Nd):(setOt k n l).length = l.length:=by simp [setOt]
theorem setNx_length (k n:Nat) (l:List Nd):(setNx k n l).length = l.length:=by simp [setNx]
def fb (s:PS):Nat:=if s.failed then 1 else 0
section
variable {ws:List ByteArray} {s:PS}
theorem acB_failed (k:ByteArray) (hk:k.size≠0) (h:s.failed = true):acB ws k s = false:=by
 cases hb:acB ws k s with
 | false=>rfl
 | true=>have:=(pk_lt (ws:=ws) (s:=s) (by rw [eq_of_toList hb];exact hk)).1;rw [h] at this;cases this
theorem exS_ok (k:ByteArray) (h:(exS ws k s).failed = false):acB ws k s = true∧s.failed = false∧(exS ws k s).pos = s.pos + 1:=by
 unfold exS at *
 split at h
 ·rename_i hb;rw [if_pos hb];exact ⟨hb,h,rfl⟩
 ·cases h
theorem exS_stick (k:ByteArray) (hk:k.size≠0) (h:s.failed = true):(exS ws k s).failed = true:=by
 unfold exS;rw [acB_failed k hk h];rfl
theorem vaS_ok (h:(vaS ws s).failed = false):lowB (pk ws s) = true∧s.failed = false∧(vaS ws s).pos = s.pos + 1:=by
 unfold vaS at *
 split at h
 ·rename_i hb;rw [if_pos hb];exact ⟨hb,h,rfl⟩
 ·cases h
theorem valS_ok (h:(valS ws s).failed = false):s.failed = false∧(valS ws s).pos = s.pos + 1:=by
 unfold valS at *
 split at h
 ·rename_i hb;rw [if_pos hb];exact ⟨h,rfl⟩
 ·rename_i hb;rw [if_neg hb];exact (vaS_ok h).2
theorem coS_ok (h:(coS ws s).failed = false):s.failed = false:=by
 unfold coS at h
 split at h
 ·exact h
 ·have h1:=(valS_ok h).1
  unfold coT at h1
  split at h1
  ·exact (vaS_ok h1).2.1
  ·exact (vaS_ok (exS_ok _ h1).2.1).2.1
theorem tsS_ok (h:(tsS ws s).failed = false):s.failed = false:=(exS_ok _ (coS_ok (exS_ok _ h).2.1)).2.1
theorem asS_ok (h:(asS ws s).failed = false):s.failed = false:=by
 unfold asS at h
 split at h
 ·exact h
 ·split at h
  ·exact (valS_ok (exS_ok _ h).2.1).1
  ·exact (valS_ok h).1
theorem siS_ok (h:(siS ws s).failed = false):s.failed = false∧s.pos < (siS ws s).pos:=by
 unfold siS at *
 split at h
 ·rename_i hb;rw [if_pos hb];exact ⟨h,Nat.lt_succ_self _⟩
 ·rename_i hb
  rw [if_neg hb]
  split at h
  ·rename_i hb2;rw [if_pos hb2];exact ⟨(vaS_ok h).2.1,by rw [(vaS_ok h).2.2];show s.pos < s.pos + 1 + 1;omega⟩
  ·rename_i hb2
   rw [if_neg hb2]
   split at h
   ·rename_i hb3
    rw [if_pos hb3]
    have h1:=valS_ok h
    unfold siL at h1
    have h2:=(vaS_ok (exS_ok _ (exS_ok _ h1.1).2.1).2.1).2
    refine ⟨h2.1,?_⟩
    have e1:=valS_pos (ws:=ws) (s:=siL ws (vaS ws s))
    have e2:(vaS ws s).adv.pos≤(siL ws (vaS ws s)).pos:=Nat.le_trans (exS_pos kN) (exS_pos kEq)
    have e3:=adv_pos (s:=vaS ws s)
    omega
   ·rename_i hb3
    rw [if_neg hb3]
    have h1:=exS_ok _ (asS_ok h)
    have h2:=(vaS_ok h1.2.1).2
    refine ⟨h2.1,?_⟩
    have e1:(exS ws kEq (vaS ws s)).pos≤(asS ws (exS ws kEq (vaS ws s))).pos:=by
     unfold asS;split
     ·exact adv_pos
     ·split
      ·exact Nat.le_trans (Nat.le_trans valS_pos adv_pos) (exS_pos _)
      ·exact valS_pos
    omega
theorem coS_pos:s.pos≤(coS ws s).pos:=by
 unfold coS;split
 ·exact adv_pos
 ·refine Nat.le_trans (Nat.le_trans (vaS_pos (ws:=ws)) ?_) valS_pos
  unfold coT;split
  ·exact adv_pos
  ·exact exS_pos _
theorem tsS_pos:s.pos≤(tsS ws s).pos:=Nat.le_trans (Nat.le_trans (exS_pos kOpen) coS_pos) (exS_pos kClose)
theorem tsS_nodes:(tsS ws s).nodes.length = s.nodes.length + 1:=by
 unfold tsS addS;simp [tsP_nodes]
theorem siS_pos:s.pos≤(siS ws s).pos:=by
 unfold siS;split
 ·exact adv_pos
 ·split
  ·exact Nat.le_trans adv_pos vaS_pos
  ·split
   ·exact Nat.le_trans (Nat.le_trans (Nat.le_trans (Nat.le_trans vaS_pos adv_pos) (exS_pos kN)) (exS_pos kEq)) valS_pos
   ·refine Nat.le_trans (Nat.le_trans (vaS_pos (ws:=ws)) (exS_pos (ws:=ws) kEq)) ?_
    unfold asS;split
    ·exact adv_pos
    ·split
     ·exact Nat.le_trans (Nat.le_trans valS_pos adv_pos) (exS_pos _)
     ·exact valS_pos
structure Good (blk:PS→PS):Prop where
 pos:∀ s,s.pos≤(blk s).pos
 nodes:∀ s,s.nodes.length≤(blk s).nodes.length
 ok:∀ s,(blk s).failed = false→s.failed = false
 phi:∀ s,(blk s).nodes.length + 2 * s.pos≤s.nodes.length + 2 * (blk s).pos + fb (blk s)
theorem fb_le (s:PS):fb s≤1:=by unfold fb;split <;> omega
theorem fb_ok {s:PS} (h:s.failed = false):fb s = 0:=by unfold fb;rw [h];rfl
theorem fb_bad {s:PS} (h:s.failed = true):fb s = 1:=by unfold fb;rw [h];rfl
theorem cmB_good {blk:PS→PS} (g:Good blk):s.pos≤(cmB blk ws s).pos∧s.nodes.length≤(cmB blk ws s).nodes.length ∧
  ((cmB blk ws s).failed = false→s.failed = false∧s.pos < (cmB blk ws s).pos)∧(cmB blk ws s).nodes.length + 2 * s.pos≤s.nodes.length + 2 * (cmB blk ws s).pos + fb (cmB blk ws s):=by
 unfold cmB
 split
 ·rename_i hb
  have e1:(exS ws kIf s) = s.adv:=if_pos hb
  have a1:s.adv.pos = s.pos + 1:=rfl
  have a2:=tsS_pos (ws:=ws) (s:=s.adv)
  have a3:=tsS_nodes (ws:=ws) (s:=s.adv)
  have a4:s.adv.nodes = s.nodes:=rfl
  rw [a4] at a3
  have eA:brA blk ws s = blk (tsS ws s.adv):=by unfold brA;rw [e1]
  have p1:=g.pos (tsS ws s.adv)
  have p2:=g.nodes (tsS ws s.adv)
  have p3:=g.ok (tsS ws s.adv)
  have p4:=g.phi (tsS ws s.adv)
  rw [← eA] at p1 p2 p3 p4
  have ok1:(brA blk ws s).failed = false→s.failed = false:=fun h=>tsS_ok (s:=s.adv) (p3 h)
  unfold brS
  split
  ·rename_i hb2
   have okA:(brA blk ws s).failed = false:=(pk_lt (by rw [eq_of_toList hb2];decide)).1
   have f0:=fb_ok okA
   have b1:(brB s.nodes.length (brA blk ws s)).pos = (brA blk ws s).pos + 1:=rfl
   have b2:(brB s.nodes.length (brA blk ws s)).nodes.length = (brA blk ws s).nodes.length + 1:=by simp [brB,setOt_length,addS,PS.adv]
   have q1:=g.pos (brB s.nodes.length (brA blk ws s))
   have q2:=g.nodes (brB s.nodes.length (brA blk ws s))
   have q4:=g.phi (brB s.nodes.length (brA blk ws s))
   generalize blk (brB s.nodes.length (brA blk ws s)) = z at q1 q2 q4
   have c1:(brC (brA blk ws s).nodes.length z).pos = z.pos:=rfl
   have c2:(brC (brA blk ws s).nodes.length z).nodes.length = z.nodes.length:=by simp [brC,setNx_length]
   have c3:fb (brC (brA blk ws s).nodes.length z) = fb z:=rfl
   rw [c1,c2,c3]
   exact ⟨by omega,by omega,fun _=>⟨ok1 okA,by omega⟩,by omega⟩
  ·simp only [setOt_length]
   have c3:fb { brA blk ws s with nodes:=setOt s.nodes.length (brA blk ws s).nodes.length (brA blk ws s).nodes } = fb (brA blk ws s):=rfl
   rw [c3]
   have:=fb_le (brA blk ws s)
   exact ⟨by omega,by omega,fun h=>⟨ok1 h,by omega⟩,by omega⟩
 ·split
  ·rename_i _ hb
   have e1:(exS ws kWhile s) = s.adv:=if_pos hb
   have a1:s.adv.pos = s.pos + 1:=rfl
   have a2:=tsS_pos (ws:=ws) (s:=s.adv)
   have a3:=tsS_nodes (ws:=ws) (s:=s.adv)
   have a4:s.adv.nodes = s.nodes:=rfl
   rw [a4] at a3
   have eA:loA blk ws s = blk (tsS ws s.adv):=by unfold loA;rw [e1]
   have p1:=g.pos (tsS ws s.adv)
   have p2:=g.nodes (tsS ws s.adv)
   have p3:=g.ok (tsS ws s.adv)
   have p4:=g.phi (tsS ws s.adv)
   rw [← eA] at p1 p2 p3 p4
   have ok1:(loA blk ws s).failed = false→s.failed = false:=fun h=>tsS_ok (s:=s.adv) (p3 h)
   have c1:(loS blk ws s).pos = (loA blk ws s).pos:=rfl
   have c2:(loS blk ws s).nodes.length = (loA blk ws s).nodes.length + 1:=by simp [loS,setOt_length,setNx_length,addS]
   have c3:fb (loS blk ws s) = fb (loA blk ws s):=rfl
   have c4:(loS blk ws s).failed = (loA blk ws s).failed:=rfl
   rw [c1,c2,c3,c4]
   exact ⟨by omega,by omega,fun h=>⟨ok1 h,by omega⟩,by omega⟩
  ·have a1:=siS_pos (ws:=ws) (s:=s)
   have a2:=exS_pos (ws:=ws) (s:=siS ws s) kSemi
   have c1:(scS ws s).pos = (exS ws kSemi (siS ws s)).pos:=rfl
   have c2:(scS ws s).nodes.length = s.nodes.length + 1:=by simp [scS,addS,exS_nodes,siS_nodes]
   have c4:(scS ws s).failed = (exS ws kSemi (siS ws s)).failed:=rfl
   cases hf:(scS ws s).failed with
   | true =>
    rw [c1,c2,fb_bad hf]
    exact ⟨by omega,by omega,(fun h=>absurd h (by simp)),by omega⟩
   | false =>
    rw [c4] at hf
    have h1:=exS_ok _ hf
    have h2:=siS_ok h1.2.1
    rw [c1,c2]
    exact ⟨by omega,by omega,fun _=>⟨h2.1,by omega⟩,by omega⟩
theorem cmS_good {c:PS→PS} (hc:∀ s,s.pos≤(c s).pos∧s.nodes.length≤(c s).nodes.length∧((c s).failed = false→s.failed = false)∧(c s).nodes.length + 2 * s.pos≤s.nodes.length + 2 * (c s).pos + fb (c s)) (n:Nat) :
  ∀ s,s.pos≤(cmS c ws n s).pos∧s.nodes.length≤(cmS c ws n s).nodes.length∧((cmS c ws n s).failed = false→s.failed = false)∧(cmS c ws n s).nodes.length + 2 * s.pos≤s.nodes.length + 2 * (cmS c ws n s).pos + fb (cmS c ws n s):=by
 induction n with
 | zero=>intro s;exact ⟨Nat.le_refl _,Nat.le_refl _,id,by simp only [cmS];omega⟩
 | succ n ih =>
  intro s
  simp only [cmS]
  split
  ·exact ⟨Nat.le_refl _,Nat.le_refl _,id,by omega⟩
  ·obtain ⟨a,b,d,e⟩:=ih (c s)
   obtain ⟨a',b',d',e'⟩:=hc s
   refine ⟨by omega,by omega,fun h=>d' (d h),?_⟩
   cases hf:(c s).failed with
   | false=>rw [fb_ok hf] at e';omega
   | true =>
    have:fb (cmS c ws n (c s)) = 1:=by
     cases hg:(cmS c ws n (c s)).failed with
     | true=>exact fb_bad hg
     | false=>rw [d hg] at hf;cases hf
    have hn:cmS c ws n (c s) = c s:=by
     cases n with
     | zero=>rfl
     | succ n=>simp [cmS,hf]
    rw [hn] at e ⊢
    omega
theorem blS_good (f:Nat):Good (blS ws f):=by
 induction f with
 | zero=>exact ⟨fun _=>Nat.le_refl _,fun _=>Nat.le_refl _,fun _=>id,fun _=>by simp only [blS];omega⟩
 | succ f ih =>
  have hc:=fun n s=>cmS_good (ws:=ws) (c:=cmB (blS ws f) ws) (fun s=>⟨(cmB_good ih).1,(cmB_good ih).2.1,fun h=>((cmB_good ih).2.2.1 h).1,(cmB_good ih).2.2.2⟩) n s
  refine ⟨fun s=>?_,fun s=>?_,fun s h=>?_,fun s=>?_⟩
  ·exact Nat.le_trans (Nat.le_trans (exS_pos kLB) (hc _ _).1) (exS_pos kRB)
  ·simp only [blS,exS_nodes]
   have:=(hc (ws.length + 2) (exS ws kLB s)).2.1
   rw [exS_nodes] at this;exact this
  ·exact (exS_ok _ ((hc _ _).2.2.1 (exS_ok _ h).2.1)).2.1
  ·simp only [blS,exS_nodes]
   have h1:=(hc (ws.length + 2) (exS ws kLB s)).2.2.2
   have h2:=exS_pos (ws:=ws) (s:=s) kLB
   rw [exS_nodes] at h1
   generalize cmS (cmB (blS ws f) ws) ws (ws.length + 2) (exS ws kLB s) = z at h1 ⊢
   have h3:=exS_pos (ws:=ws) (s:=z) kRB
   cases hf:z.failed with
   | false=>rw [fb_ok hf] at h1;omega
   | true =>
    have h4:fb (exS ws kRB z) = 1:=fb_bad (exS_stick kRB (by decide) hf)
    have h5:=fb_le z
    omega
end
theorem nd_len (l:List Nd):(ndCells l).length = l.length * 6:=by
 induction l with
 | nil=>rfl
 | cons a r ih=>simp only [ndCells,List.flatMap_cons,List.length_append,List.length_cons] at *;rw [ih];simp [Nd.cells];omega
theorem nd_setOt (k n:Nat) (l:List Nd):ndCells (setOt k n l) = (ndCells l).set (k * 6 + 5) (.int .i64 n):=by
 induction l generalizing k with
 | nil=>simp [ndCells,setOt]
 | cons a r ih =>
  cases k with
  | zero=>simp [ndCells,setOt,Nd.cells]
  | succ k =>
   have:=ih k
   simp only [ndCells,setOt,List.modify_succ_cons,List.flatMap_cons] at *
   rw [this,show (k + 1) * 6 + 5 = (k * 6 + 5) + a.cells.length by simp [Nd.cells];omega,List.set_append_right _ _ (by omega)]
   simp
theorem nd_setNx (k n:Nat) (l:List Nd):ndCells (setNx k n l) = (ndCells l).set (k * 6 + 4) (.int .i64 n):=by
 induction l generalizing k with
 | nil=>simp [ndCells,setNx]
 | cons a r ih =>
  cases k with
  | zero=>simp [ndCells,setNx,Nd.cells]
  | succ k =>
   have:=ih k
   simp only [ndCells,setNx,List.modify_succ_cons,List.flatMap_cons] at *
   rw [this,show (k + 1) * 6 + 4 = (k * 6 + 4) + a.cells.length by simp [Nd.cells];omega,List.set_append_right _ _ (by omega)]
   simp
theorem own_set {w:World} {B:Nat} {e:TypeId} {sz n g cap j:Nat} {xs:List Value} (h:w.ownsRow B e sz (.slice (some ⟨g,0,none⟩) n cap) n xs) (u:Value) :
  (w.setCell ⟨g,j,none⟩ u).ownsRow B e sz (.slice (some ⟨g,0,none⟩) n cap) n (xs.set j u):=by
 refine ⟨by simpa using h.1,?_⟩
 rcases h.2 with ⟨h0,_⟩ | ⟨g',cap',cur,hv,hB,hg,hn,hm,hs,ht⟩
 ·cases h0
 ·simp only [Value.slice.injEq,Option.some.injEq,Addr.mk.injEq] at hv
  obtain ⟨⟨rfl,_⟩,_,rfl⟩:=hv
  refine .inr ⟨g,cap,cur.setIfInBounds j u,rfl,hB,set6 hg u,hn,hm,by simpa using hs,?_⟩
  rw [Array.toList_setIfInBounds,List.take_set,ht]
section
variable {B:Nat} {WV:Value} {w:World} {P:Nat} {ws:List ByteArray} {s:PS} {F:List Nat} {wv vv hv:Value} {g cap:Nat}
theorem IsPv.setNode (h:IsPv B WV w P ws s F wv vv hv (.slice (some ⟨g,0,none⟩) s.nodes.length cap)) (j:Nat) (u:Value) (l:List Nd) (hl:ndCells l = (ndCells s.nodes).set j u) (hll:l.length = s.nodes.length) :
  IsPv B WV (w.setCell ⟨g,j,none⟩ u) P ws { s with nodes:=l } F wv vv hv (.slice (some ⟨g,0,none⟩) s.nodes.length cap):=by
 have hap:=h.apart
 obtain ⟨hP,hB,h1,h2,h3,h4,hF,hN⟩:=h
 have hg:(Value.slice (some ⟨g,0,none⟩) s.nodes.length cap).ownBlock = some g:=rfl
 have hne:∀ k,k≠g→(w.setCell ⟨g,j,none⟩ u).heap[k]? = w.heap[k]?:=fun k hk=>Below.heap_setCell _ _ _ _ hk
 have ho:=hap.2.2.2 g hg
 refine ⟨by rw [hne P (fun e=>hap.1 g (by simp [hg]) e.symm)];exact hP,hB,ownsRow_of_eq h1 (fun k hk=>hne k (fun e=>ho.1 (by rw [← e];exact hk))),ownsRow_of_eq h2 (fun k hk=>hne k (fun e=>ho.2.1 (by rw [← e];exact hk))),
  ownsRow_of_eq h3 (fun k hk=>hne k (fun e=>ho.2.2 (by rw [← e];exact hk))),?_,hF,hN⟩
 exact own_cast (w:=w.setCell ⟨g,j,none⟩ u) (by have:=own_set h4 (j:=j) u;exact this) hll hl
theorem IsPv.nodeCell (h:IsPv B WV w P ws s F wv vv hv (.slice (some ⟨g,0,none⟩) s.nodes.length cap)) (j:Nat) (hj:j < s.nodes.length * 6):(∃ v,w.cell? ⟨g,j,none⟩ = some v∧v∈ndCells s.nodes)∧w.frozen? ⟨g,j,none⟩ = false:=by
 obtain ⟨hP,hB,h1,h2,h3,h4,hF,hN⟩:=h
 have hl:j < (ndCells s.nodes).length:=by rw [nd_len];exact hj
 constructor
 ·have:=h4.cells (g:=g) rfl j _ (List.getElem?_eq_getElem hl)
  rw [show (⟨g,0,none⟩:Addr).add j = ⟨g,j,none⟩ by unfold Addr.add;split <;> simp_all] at this
  exact ⟨_,this,List.getElem_mem _⟩
 ·rcases h4.2 with ⟨h0,_⟩ | ⟨g',cap',cur,hv,hB,hg,hn,hm,hs,ht⟩
  ·cases h0
  ·simp only [Value.slice.injEq,Option.some.injEq,Addr.mk.injEq] at hv
   obtain ⟨⟨rfl,_⟩,_,rfl⟩:=hv
   simp [World.frozen?,hg]
theorem nd_mem_int {l:List Nd} {v:Value} (h:v∈ndCells l):∃ n:Int,v = .int .i64 n:=by
 simp only [ndCells,List.mem_flatMap,Nd.cells] at h
 obtain ⟨a,_,h⟩:=h
 simp at h
 rcases h with h | h | h | h | h | h <;> exact ⟨_,h⟩
end
def BlkOK (B:Nat) (WV:Value) (P:Nat) (ws:List ByteArray) (blk:PS→PS) (f:Nat):Prop :=
 ∀ (w:World) (s:PS) (F:List Nat),IsQ B WV w P ws s F→(s.failed = false→ws.length < f + s.pos)→s.nodes.length + 2 * ws.length≤60000 + 2 * s.pos →
  Calls Tryz.prog 122 #[.pointer (some ⟨P,0,none⟩)] w fun e w'=>e = .returned (.tuple #[])∧∃ F',IsQ B WV w' P ws (blk s) F'∧Stp F w F' w'
section
variable {B:Nat} {WV:Value} {w:World} {P:Nat} {ws:List ByteArray} {s:PS} {F:List Nat} {wv vv hv:Value} {g cap:Nat}
theorem add_jmp (h:IsQ B WV w P ws s F) (hn:s.nodes.length≤100000) :
  Calls Tryz.prog 123 #[.pointer (some ⟨P,0,none⟩),.agg #[.int .i64 10,.int .i64 0,.int .i64 0,.int .i64 0,.int .i64 0,.int .i64 0]] w fun e w'=>e = .returned (.int .i64 s.nodes.length)∧∃ F',IsQ B WV w' P ws (addS jmp s) F'∧Stp F w F' w' :=
 add_any jmp h hn
theorem IsPv.inF {w0:World} {F0:List Nat} {n:Nat} {j:Nat} (h:IsPv B WV w P ws s F wv vv hv (.slice (some ⟨g,0,none⟩) n cap)) (hS:Stp F0 w0 F w):(⟨g,j,none⟩:Addr).block∈F0∨w0.heap.size≤(⟨g,j,none⟩:Addr).block :=
 hS.foot g (by rw [h.2.2.2.2.2.2.1];simp [Value.ownBlock])
theorem IsQ.nodesAt (h:IsQ B WV w P ws s F) (hn:0 < s.nodes.length):∃ wv vv hv g cap,IsPv B WV w P ws s F wv vv hv (.slice (some ⟨g,0,none⟩) s.nodes.length cap):=by
 obtain ⟨wv,vv,hv,nv,hpv⟩:=h.m.named
 rcases hpv.2.2.2.2.2.1.2 with ⟨_,h0⟩ | ⟨g,cap,cur,rfl,_⟩
 ·omega
 ·exact ⟨wv,vv,hv,g,cap,hpv⟩
set_option maxRecDepth 100000 in
set_option maxHeartbeats 2000000 in
theorem loop_any {blk:PS→PS} {f:Nat} (hblk:BlkOK B WV P ws blk f) (gd:Good blk) (hb:acB ws kWhile s = true) (hfu:ws.length < f + 1 + s.pos) (hphi:s.nodes.length + 2 * ws.length≤60000 + 2 * s.pos) (h:IsQ B WV w P ws s F) :
  Calls Tryz.prog 187 #[.pointer (some ⟨P,0,none⟩)] w fun e w'=>e = .returned (.tuple #[])∧∃ F',IsQ B WV w' P ws (loS blk ws s) F'∧Stp F w F' w':=by
 have HQ:=hide h
 have hp0:=h.f.2.1
 clear h
 have HE:Hid (exS ws kWhile s = s.adv):=hide (if_pos hb)
 have hpa:s.adv.pos = s.pos + 1:=rfl
 have hna:s.adv.nodes.length = s.nodes.length:=rfl
 have hts:=tsS_pos (ws:=ws) (s:=s.adv)
 have htn:=tsS_nodes (ws:=ws) (s:=s.adv)
 have h1:=gd.pos (tsS ws s.adv)
 have h2:=gd.nodes (tsS ws s.adv)
 have h3:=gd.phi (tsS ws s.adv)
 have h4:=fb_le (blk (tsS ws s.adv))
 have HLO:Hid (loA blk ws s = blk (tsS ws s.adv)):=hide (by unfold loA;rw [uh HE])
 have HBLK:=hide hblk
 clear hblk hb
 go_enter Tryz.func187,Tryz.ntmps187
 go_wp2_with fail
 refine (expect_any kWhile (by decide) (uh HQ)).mono ?_
 rintro e w1 ⟨rfl,hI1,hS1⟩
 rw [uh HE] at hI1
 have HI1:=hide hI1
 have HS1:=hide hS1
 clear hI1 hS1
 go_wp2_with fail
 refine (test_any (s:=s.adv) (by omega) (uh HI1)).mono ?_
 rintro e w2 ⟨rfl,F2,hI2,hS2⟩
 have HI2:=hide hI2
 have HS2:=hide ((uh HS1).trans hS2)
 clear hI2 hS2
 go_wp2_with fail
 refine (uh HBLK _ _ _ (uh HI2) (fun _=>by omega) (by omega)).mono ?_
 rintro e w3 ⟨rfl,F3,hI3,hS3⟩
 have HI3:=hide hI3
 have HS3:=hide ((uh HS2).trans hS3)
 clear hI3 hS3
 have hp3:=(uh HI3).f.2.1
 go_wp2_with fail
 refine (add_jmp (uh HI3) (by omega)).mono ?_
 rintro e w4 ⟨rfl,F4,hI4,hS4⟩
 have HI4:=hide hI4
 have HS4:=hide ((uh HS3).trans hS4)
 clear hI4 hS4
 obtain ⟨z,hz⟩:∃ z,z = blk (tsS ws s.adv):=⟨_,rfl⟩
 rw [← hz] at HI4 h1 h2 h3 h4 HLO ⊢
 clear hz
 have hzn:(addS jmp z).nodes.length = z.nodes.length + 1:=by simp [addS]
 obtain ⟨wv,vv,hv,g,cap,hpv⟩:=(uh HI4).nodesAt (by omega)
 obtain ⟨_,_,_,_,c5,_⟩:=hpv.readsV
 obtain ⟨⟨v4,hv4,hm4⟩,f4⟩:=hpv.nodeCell (z.nodes.length * 6 + 4) (by omega)
 obtain ⟨x4,rfl⟩:=nd_mem_int hm4
 rw [hzn] at c5
 have HPV:=hide hpv
 clear hpv hm4
 go_wp2_with fail
 have hpv5:=(uh HPV).setNode (z.nodes.length * 6 + 4) (.int .i64 (s.nodes.length:Int)) (setNx z.nodes.length s.nodes.length (addS jmp z).nodes) (nd_setNx _ _ _) (setNx_length _ _ _)
 have hst5:=(uh HS4).setCell (p:=⟨g,z.nodes.length * 6 + 4,none⟩) (w:=w4) ((uh HPV).inF (uh HS4)) (.int .i64 (s.nodes.length:Int))
 generalize w4.setCell ⟨g,z.nodes.length * 6 + 4,none⟩ (.int .i64 (s.nodes.length:Int)) = w5 at hpv5 hst5 ⊢
 clear c5 hv4 f4
 obtain ⟨y,hy⟩:∃ y:PS,y = { addS jmp z with nodes:=setNx z.nodes.length s.nodes.length (addS jmp z).nodes }:=⟨_,rfl⟩
 have hyn:y.nodes.length = z.nodes.length + 1:=by rw [hy];simp [setNx_length,addS]
 rw [← hy] at hpv5
 have HY:=hide hy
 clear hy
 rw [show (addS jmp z).nodes.length = y.nodes.length by rw [hyn,hzn]] at hpv5
 obtain ⟨_,_,_,_,c5,_⟩:=hpv5.readsV
 obtain ⟨⟨v5,hv5,hm5⟩,f5⟩:=hpv5.nodeCell (s.nodes.length * 6 + 5) (by omega)
 obtain ⟨x5,rfl⟩:=nd_mem_int hm5
 have HPV5:=hide hpv5
 have HST5:=hide hst5
 clear hpv5 hst5 hm5
 rw [hyn] at c5
 go_region
 go_end0
 have hpv6:=(uh HPV5).setNode (s.nodes.length * 6 + 5) (.int .i64 ((z.nodes.length:Int) + 1)) (setOt s.nodes.length (z.nodes.length + 1) y.nodes) (nd_setOt _ _ _) (setOt_length _ _ _)
 have hfin:loS blk ws s = { y with nodes:=setOt s.nodes.length (z.nodes.length + 1) y.nodes }:=by unfold loS;rw [uh HLO,uh HY,hzn]
 have hfit:Fit ws (loS blk ws s):=by rw [hfin,uh HY];exact (uh HI4).f
 exact ⟨rfl,F4,⟨by rw [hfin];exact hpv6.is.drew,hfit⟩,((uh HST5).setCell (p:=⟨g,s.nodes.length * 6 + 5,none⟩) ((uh HPV5).inF (uh HST5)) _).drew⟩
end
end Go.Proofs.YtciihepbeacppaaGreat
