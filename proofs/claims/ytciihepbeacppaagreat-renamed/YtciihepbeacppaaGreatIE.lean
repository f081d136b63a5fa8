import Derived.Test.YtciihepbeacppaaGreatM26
namespace Go.Proofs.YtciihepbeacppaaGreat
open Go.RowKit
set_option linter.unusedVariables false
section
variable {P:Program} (w:World)
theorem step_app2 {ops:Array Oper} {o:Oper} {a:Act} {K:Act→World→Prop} {Q:Exit→Act→World→Prop} {E:Prop}
  (hg:o.guard = none) (s x:Operand) (t:TypeId) (hop:o.op = Op.call { callee:=Callee.builtin Builtin.append,args:=#[s,x],argTypes:=#[t,t] })
  (base:Nat) (e:TypeId) (i:TypeInfo) (z:Value) (size bytes:Nat) (ht:P.underlying t = some (.slice e)) (hi:P.info? e = some i) (hz:i.zero = some z)
  (hsize:i.size = size) (hby:i.bytes = bytes) (hzs:z.cells.size = size) (hsz:0 < size)
  (v:Value) (n:Nat) (xs:List Value) (hs:a.eval s = v) (hown:w.ownsRow base e size v n xs)
  (ad:Addr) (c:Nat) (news:List Value) (hx:a.eval x = .slice (some ad) 1 c) (hl:news.length = size) (hnews:∀ j u,news[j]? = some u→w.cell? (ad.add j) = some u) (h1:∀ u∈news,u.oneCell' = true)
  (h63:n + 1≤2000000000000) (hb:bytes≤16) (hbase:base≤w.heap.size)
  (hK:∀ g cap w',w'.ownsRow base e size (.slice (some ⟨g,0,none⟩) (n + 1) cap) (n + 1) (xs ++ news)→w.grownBy w' v.ownBlock→(some g = v.ownBlock∨g = w.heap.size)→K (a.put o.dst (.slice (some ⟨g,0,none⟩) (n + 1) cap)) w') :
  if Region.wanted o (yielded ops a.tmps) = true then Oper.wp P o a w K Q else E:=by
 have hw:Region.wanted o (yielded ops a.tmps) = true:=by simp [Region.wanted,hg]
 rw [if_pos hw]
 obtain ⟨v',w',hrun,r1,r2,r3,g,cap,rfl⟩:=run_app2 (P:=P) w base t o.type e i z size bytes ht hi hz hsize hby hzs hsz v n xs hown ad c news hl hnews h1 h63 hb hbase
 unfold Oper.wp
 simp [execOp,hop,resolve,invoke,builtin,hs,hx,hrun,Result.andThen]
 exact hK g cap w' r1 r2 (by simpa [Value.ownBlock] using r3)
end
section
variable {w:World} {S:Nat} {c:Cd} {c0 hv kv wv:Value} {KV WV:List Value} {K:List (List En)} {s:Sr}
theorem vdO_app (al:List (Nat × Nat)) (p:Nat × Nat):vdO (al ++ [p]) = 1:=by unfold vdO;rw [if_neg (by simp)]
def ResP (w:World) (K:List (List En)) (r:Rs) (RB:Nat) (w':World):Prop:=∃ av kv FV L,Rz w w' RB r.vd av kv r.al FV L∧L.map (fun l=>l.map (fun x=>x.f)) = r.kn∧∀ l∈L,∀ x∈l,∃ l0∈K,∃ e∈l0,e.x = x
set_option maxRecDepth 100000 in
set_option maxHeartbeats 16000000 in
theorem result_sh (h:Sh w S c c0 hv kv wv KV WV K s) (hKl:K.length≤100000) (hbg:∀ l∈K,l.length≤big + 1) :
  Calls Tryz.prog 143 #[.pointer (some ⟨S,0,none⟩)] w fun e w'=>∃ RB,e = .returned (.pointer (some ⟨RB,0,none⟩))∧ResP w K (rsO s) RB w':=by
 obtain ⟨i0,hi0,hz0,hz1,hz2⟩:=info_parts Tryz.infoPF
 obtain ⟨j0,hj0,hy0,hy1,hy2⟩:=info_parts Tryz.infoAl
 obtain ⟨ka,kC,hkv,hkc1,hkc2⟩:=own_slc h.kr
 subst hkv
 have c8:=h.bs.cell 8 rfl
 have c3:=h.bs.cell 3 rfl
 have hSl:=h.bs.lt
 obtain ⟨POST,hPOST⟩:∃ POST:Nat→World→Prop,POST = fun RB w'=>ResP w K (rsO s) RB w':=⟨_,rfl⟩
 have HPOST:=hide hPOST
 rw [show (fun (e:Ending) (w':World)=>∃ RB,e = .returned (.pointer (some ⟨RB,0,none⟩))∧ResP w K (rsO s) RB w') = (fun e w'=>∃ RB,e = .returned (.pointer (some ⟨RB,0,none⟩))∧POST RB w') by rw [hPOST]]
 have H:=hide h
 have HBG:=hide hbg
 clear h hPOST hbg
 cases hfu:s.fu
 rotate_left
 ·rw [hfu] at c8
  have HP:Hid (POST w.heap.size (w.alloc (.cells #[Value.int .i64 2,.slice none 0 0,.slice none 0 0] 118))):=hide (by
   rw [uh HPOST]
   have e:rsO s = ⟨2,[],[]⟩:=by unfold rsO;rw [if_pos hfu]
   rw [e]
   refine ⟨vNil,vNil,[],[],⟨Bk.new w _ _,⟨rfl,.inl ⟨rfl,rfl⟩⟩,⟨rfl,.inl ⟨rfl,rfl⟩⟩,fun i hi=>by simp at hi,fun i j k hi hj=>?_,fun k hk=>?_,below_boxQ w _⟩,rfl,fun l hl=>by simp at hl⟩
   ·rcases rz_in hi with ⟨a,-⟩ | ⟨-,a⟩ | ⟨-,a⟩ | ⟨q,hq,-⟩
    ·rcases rz_in hj with ⟨b,-⟩ | ⟨-,b⟩ | ⟨-,b⟩ | ⟨q,hq,-⟩
     ·rw [a,b]
     ·cases b
     ·cases b
     ·simp at hq
    ·cases a
    ·cases a
    ·simp at hq
   ·obtain ⟨i,hi⟩:=mem_fpt.1 hk
    rcases rz_in hi with ⟨-,a⟩ | ⟨-,a⟩ | ⟨-,a⟩ | ⟨q,hq,-⟩
    ·omega
    ·cases a
    ·cases a
    ·simp at hq)
  clear hfu
  go_enter Tryz.func143,Tryz.ntmps143
  go_wp2_with fail
  go_ret
  exact ⟨_,rfl,uh HP⟩
 ·rw [hfu] at c8
  have HRS:Hid (rsO s = ⟨vdO (alK s.wr s.wr.length),alK s.wr s.wr.length,s.kn.map (fun l=>l.map (·.f))⟩):=hide (by unfold rsO;rw [if_neg (by rw [hfu];decide),alK_all];rfl)
  have hmk:=run_make_row' (P:=Tryz.prog) 116 125 (.slice none 0 0) 24 Tryz.underlying116 Tryz.infoFs rfl .i64 .i64 K.length (by omega) (by omega)
  clear hfu
  go_enter Tryz.func143,Tryz.ntmps143
  go_upto_region 4 with fail
  obtain ⟨W1,hW1⟩:∃ W1,W1 = w.alloc (.cells #[Value.int .i64 0,.slice none 0 0,.slice none 0 0] 118):=⟨_,rfl⟩
  have hbx:Below w.heap.size w W1:=by rw [hW1];exact below_boxQ w _
  have hbk:Bk W1 w.heap.size 118 [.int .i64 0,.slice none 0 0,.slice none 0 0]:=by rw [hW1];exact Bk.new w _ _
  obtain ⟨RB,hRB⟩:∃ RB,RB = w.heap.size:=⟨_,rfl⟩
  rw [← hRB] at hbk
  have hRw:w.heap.size≤RB:=by omega
  have HB1:=hide (And.intro hbx hbk)
  have d3:=(hbx.cell hSl).trans c3
  rw [← hW1,← hRB]
  clear hW1 hbx hbk hRB c8 c3
  go_cut [] (fun wx=>∃ kB,Hid (Rz w wx RB (vdO (alK s.wr 0)) vNil (.slice (some ⟨kB,0,none⟩) K.length K.length) (alK s.wr 0) (List.replicate K.length vNil) (List.replicate K.length [])))
  case first =>
   obtain ⟨hb,hbk⟩:=uh HB1
   have e1:=(hbk.alloc (.cells (madeCells #[Value.slice none 0 0] K.length) 125)).cell 2 rfl
   have z1:=(hbk.alloc (.cells (madeCells #[Value.slice none 0 0] K.length) 125)).frz 2
   have hRl:=hbk.lt
   have hrow:((W1.alloc (.cells (madeCells #[Value.slice none 0 0] K.length) 125)).setCell ⟨RB,2,none⟩ (.slice (some ⟨W1.heap.size,0,none⟩) K.length K.length)).ownsRow 0 125 1 (.slice (some ⟨W1.heap.size,0,none⟩) K.length K.length) K.length (List.replicate K.length vNil):=by
    have h2:=World.ownsRow_lit (base:=0) (e:=125) (size:=1) W1 (madeCells #[Value.slice none 0 0] K.length) K.length (Nat.zero_le _) (by simp [maxLen];omega) (by simp [madeCells])
    rw [toList_madeCells_one] at h2
    exact own_setO h2 (p:=⟨RB,2,none⟩) (by show some W1.heap.size≠some RB;intro e;injection e with e;omega) _
   have hnil:∀ j,(List.replicate K.length vNil).getD j vNil = vNil:=fun j=>by
    by_cases hj:j < K.length
    ·simp [hj]
    ·rw [List.getD_eq_getElem?_getD,List.getElem?_eq_none (by rw [List.length_replicate];omega)];rfl
   have hnil2:∀ j,(List.replicate K.length ([]:List FE)).getD j [] = []:=fun j=>by
    by_cases hj:j < K.length
    ·simp [hj]
    ·rw [List.getD_eq_getElem?_getD,List.getElem?_eq_none (by rw [List.length_replicate];omega)];rfl
   have HN:Hid (Rz w ((W1.alloc (.cells (madeCells #[Value.slice none 0 0] K.length) 125)).setCell ⟨RB,2,none⟩ (.slice (some ⟨W1.heap.size,0,none⟩) K.length K.length)) RB (vdO (alK s.wr 0)) vNil (.slice (some ⟨W1.heap.size,0,none⟩) K.length K.length) (alK s.wr 0) (List.replicate K.length vNil) (List.replicate K.length [])):=hide (by
    have hol:∀ i k,(rzO RB vNil (.slice (some ⟨W1.heap.size,0,none⟩) K.length K.length) (List.replicate K.length vNil))[i]? = some (some k)→i = 0∧k = RB∨i = 2∧k = W1.heap.size:=fun i k hi=>by
     rcases rz_in hi with a | ⟨-,a⟩ | ⟨b,a⟩ | ⟨q,hq,-,a⟩
     ·exact Or.inl a
     ·cases a
     ·exact Or.inr ⟨b,by injection a with a;exact a.symm⟩
     ·rw [hnil] at a;cases a
    refine ⟨(hbk.alloc (.cells (madeCells #[Value.slice none 0 0] K.length) 125)).set 2 _,⟨rfl,.inl ⟨rfl,rfl⟩⟩,by rw [List.length_replicate];exact hrow,fun i hi=>by rw [hnil,hnil2];exact ⟨rfl,.inl ⟨rfl,rfl⟩⟩,fun i j k hi hj=>?_,fun k hk=>?_,(hb.trans ((below_boxQ W1 _).mono hb.size)).setCell (p:=⟨RB,2,none⟩) hRw _⟩
    ·have a1:=hol i k hi
     have a2:=hol j k hj
     omega
    ·obtain ⟨i,hi⟩:=mem_fpt.1 hk
     have a1:=hol i k hi
     have:=hb.size
     omega)
   clear hb hbk hRl hrow hnil hnil2
   go_wp2_with fail
   go_meet
   exact ⟨_,HN⟩
  case rest =>
  obtain ⟨kB,hR0⟩:=hcut
  clear d3 HB1
  have HI0:Hid (Rz w wc RB (vdO (alK s.wr 0)) vNil (.slice (some ⟨kB,0,none⟩) K.length K.length) (alK s.wr 0) (List.replicate K.length vNil) (List.replicate K.length [])∧(List.replicate K.length ([]:List FE)).length = K.length∧(∀ i,i < 0→(List.replicate K.length ([]:List FE)).getD i [] = (K.getD i []).map (·.x))∧∀ i,0≤i→(List.replicate K.length ([]:List FE)).getD i [] = []):=hide ⟨uh hR0,List.length_replicate,fun i hi=>by omega,fun j _=>by
    by_cases hj:j < K.length
    ·simp [hj]
    ·rw [List.getD_eq_getElem?_getD,List.getElem?_eq_none (by rw [List.length_replicate];omega)];rfl⟩
  clear hR0
  go_wp2_with fail
  go_loopg [4] K.length (fun gn iv wx=>∃ (k:Nat) (av:Value) (FV:List Value) (L:List (List FE)),k + gn = K.length∧iv = .int .i64 k∧Hid (Rz w wx RB (vdO (alK s.wr k)) av (.slice (some ⟨kB,0,none⟩) K.length K.length) (alK s.wr k) FV L∧L.length = K.length∧(∀ i,i < k→L.getD i [] = (K.getD i []).map (·.x))∧∀ i,k≤i→L.getD i [] = []))
  case atStart=>exact ⟨0,_,_,_,by omega,rfl,HI0⟩
  case round =>
   clear HI0
   obtain ⟨k,av,FV,L,hkn,rfl,hI⟩:=hrel
   obtain ⟨G1,hG1⟩:∃ G1,G1 = gk:=⟨_,rfl⟩
   obtain ⟨h1,h2,h3,h4⟩:=uh hI
   have hsW:=(uh H).below h1.bl
   have c3:=hsW.bs.cell 3 rfl
   by_cases hlt:k < K.length
   ·have hd:decide ((k:Int) < (K.length:Int)) = true:=by simp;omega
    have HJ0:Hid (Rz w wr RB (vdO (alK s.wr k ++ alP s.wr k 2)) av (.slice (some ⟨kB,0,none⟩) K.length K.length) (alK s.wr k ++ alP s.wr k 2) FV L):=hide (by rw [alP_two,List.append_nil];exact h1)
    have HLL:=hide (And.intro h2 (And.intro h3 h4))
    obtain ⟨wB,wC,gA,cA,hwv,hWV,-,-,-⟩:=(uh H).wc hlt
    subst hwv
    have HWV:=hide hWV
    have i1:(0:Int)≤(k:Int):=by omega
    have i2:(k:Int) < (K.length:Int):=by omega
    have hal:=alK_len s.wr k
    clear h1 h2 h3 h4 hsW hI hWV
    go_wp2_with fail
    go_loopg [5] 3 (fun gn iv wx=>∃ (t:Nat) (av:Value),t + gn = 5∧2≤t∧iv = .int .i64 t∧Hid (Rz w wx RB (vdO (alK s.wr k ++ alP s.wr k t)) av (.slice (some ⟨kB,0,none⟩) K.length K.length) (alK s.wr k ++ alP s.wr k t) FV L))
    case atStart=>exact ⟨2,av,by omega,by omega,rfl,HJ0⟩
    case round =>
     clear HJ0 c3
     obtain ⟨t,av2,htn,ht2,rfl,hJ⟩:=hrel
     obtain ⟨G2,hG2⟩:∃ G2,G2 = gk:=⟨_,rfl⟩
     have hsW:=(uh H).below (uh hJ).bl
     by_cases ht:t < 5
     ·have hd2:decide ((t:Int)≤(4:Int)) = true:=by simp;omega
      obtain ⟨s4,sw,stt,-⟩:=hsW.wcs hlt (uh HWV)
      have st:=stt t ht
      clear stt
      have hstep:=alP_step s.wr k ht2 ht
      have hlen:(alK s.wr k ++ alP s.wr k t).length≤900000:=by
       rw [List.length_append]
       have:=alP_len s.wr k t
       omega
      have t1:(0:Int)≤(t:Int):=by omega
      have t2:(t:Int) < (5:Int):=by omega
      cases hfl:(s.wr.getD k []).getD t false
      ·rw [hfl] at st hstep
       rw [if_neg (by decide),List.append_nil] at hstep
       have HN:Hid (Rz w wr RB (vdO (alK s.wr k ++ alP s.wr k (t + 1))) av2 (.slice (some ⟨kB,0,none⟩) K.length K.length) (alK s.wr k ++ alP s.wr k (t + 1)) FV L):=hide (by rw [hstep];exact uh hJ)
       clear hsW hstep hfl hJ
       go_wp2_with fail
       go_roundg (G2 - 1)
       case rel=>exact ⟨t + 1,_,by omega,by omega,by go_num,HN⟩
       case measure=>omega
      ·rw [hfl] at st hstep
       rw [if_pos rfl] at hstep
       obtain ⟨al,hale⟩:∃ al,al = alK s.wr k ++ alP s.wr k t:=⟨_,rfl⟩
       rw [← hale] at hJ hlen
       have e0:=(uh hJ).bk.cell 0 rfl
       have z0:=(uh hJ).bk.frz 0
       have h5:=(uh hJ).verd
       obtain ⟨W5,hW5⟩:∃ W5,W5 = wr.setCell ⟨RB,0,none⟩ (.int .i64 1):=⟨_,rfl⟩
       rw [← hW5] at h5
       have e1:=h5.bk.cell 1 rfl
       obtain ⟨aa,ac,hav,-,-⟩:=own_slc h5.al
       subst hav
       have H5:=hide h5
       have HST:Hid (alK s.wr k ++ alP s.wr k (t + 1) = al ++ [(k,t)]):=hide (by rw [hstep,← List.append_assoc,hale])
       clear hsW hstep hfl hJ h5 hale
       go_upto_region 13 with fail
       rw [← hW5]
       clear hW5 e0 z0
       go_wp2_with (at_builtin;refine wpList_app1 _ rfl (.tmp 55) (.tmp 59) 55 rfl 0 82 j0 _ 2 16 Tryz.underlying55 hj0 hy0 hy1 hy2 rfl (by decide) _ al.length (alC al) rfl ((uh H5).al.alloc _) ⟨_,0,none⟩ 1 [.int .i64 (k:Int),.int .i64 (t:Int)] rfl rfl (new_cells _ _ (by simp) [.int .i64 (k:Int),.int .i64 (t:Int)] _) (by intro u hu;simp only [List.mem_cons,List.not_mem_nil,or_false] at hu;rcases hu with rfl | rfl <;> rfl) (by omega) (by omega) (Nat.zero_le _) ?_)
       intro g7 cap7 w7 hown7 hgrow7 hblk7
       obtain ⟨h7,hb7⟩:=((uh H5).below (below_boxQ W5 _)).alarm (p:=(k,t)) hown7 hgrow7 (by simpa using hblk7)
       have e7:=hb7.cell 1 rfl
       have z7:=hb7.frz 1
       have HN:Hid (Rz w (w7.setCell ⟨RB,1,none⟩ (.slice (some ⟨g7,0,none⟩) (al.length + 1) cap7)) RB (vdO (alK s.wr k ++ alP s.wr k (t + 1))) (.slice (some ⟨g7,0,none⟩) (al.length + 1) cap7) (.slice (some ⟨kB,0,none⟩) K.length K.length) (alK s.wr k ++ alP s.wr k (t + 1)) FV L):=hide (by rw [uh HST,vdO_app];exact h7)
       clear hown7 hgrow7 hblk7 h7 hb7 H5
       go_wp2_with fail
       go_roundg (G2 - 1)
       case rel=>exact ⟨t + 1,_,by omega,by omega,by go_num,HN⟩
       case measure=>omega
     ·have hd2:decide ((t:Int)≤(4:Int)) = false:=by simp;omega
      have ht5:t = 5:=by omega
      have hR5:Rz w wr RB (vdO (alK s.wr (k + 1))) av2 (.slice (some ⟨kB,0,none⟩) K.length K.length) (alK s.wr (k + 1)) FV L:=by
       have h9:=uh hJ
       rw [ht5,alP_five,← alK_step] at h9
       exact h9
      obtain ⟨kB',kC',hkv',ckc⟩:=hsW.kc hlt
      simp only [Value.slice.injEq,true_and] at hkv'
      obtain ⟨rfl,rfl⟩:=hkv'
      obtain ⟨l,hl⟩:∃ l,l = K.getD k []:=⟨_,rfl⟩
      have hlK:l∈K:=by rw [hl,getD_at hlt];exact List.getElem_mem hlt
      have hlb:l.length≤1000000000001:=by have h9:=uh HBG l hlK;unfold big at h9;omega
      have hke:=(uh H).ke k hlt
      rw [← hl] at hke
      obtain ⟨va,vc,hvv,hvn,hvm⟩:=own_slc hke
      rw [hvv] at ckc hke
      have s3:=hsW.bs.cell 3 rfl
      obtain ⟨L0,hL0⟩:∃ L0,L0 = L:=⟨_,rfl⟩
      have hLk:L.getD k [] = (l.take 0).map (·.x):=by rw [(uh HLL).2.2 k (Nat.le_refl _)];rfl
      have HJ0:Hid (Rz w wr RB (vdO (alK s.wr (k + 1))) av2 (.slice (some ⟨kB,0,none⟩) K.length K.length) (alK s.wr (k + 1)) FV L∧L.length = K.length∧L.getD k [] = (l.take 0).map (·.x)∧∀ i,i≠k→L.getD i [] = L0.getD i []):=hide ⟨hR5,(uh HLL).1,hLk,fun i _=>by rw [hL0]⟩
      rw [← hL0] at HLL
      have HKE:=hide hke
      have HLK:=hide (And.intro hl hlK)
      obtain ⟨AK,hAK⟩:∃ AK,AK = alK s.wr (k + 1):=⟨_,rfl⟩
      rw [← hAK] at HJ0
      have HAK:=hide hAK
      clear hJ hsW ht5 hR5 hl hlK hke hvv hL0 hLk hAK hal
      go_wp2_with fail
      go_loopg [71] l.length (fun gn iv wx=>∃ (j:Nat) (FV':List Value) (L':List (List FE)),j + gn = l.length∧iv = .int .i64 j∧Hid (Rz w wx RB (vdO AK) av2 (.slice (some ⟨kB,0,none⟩) K.length K.length) AK FV' L'∧L'.length = K.length∧L'.getD k [] = (l.take j).map (·.x)∧∀ i,i≠k→L'.getD i [] = L0.getD i []))
      case atStart=>exact ⟨0,FV,L,by omega,rfl,HJ0⟩
      case round =>
       clear HJ0 ckc s3
       obtain ⟨j,FV',L',hjn,rfl,hJ⟩:=hrel
       obtain ⟨G3,hG3⟩:∃ G3,G3 = gk:=⟨_,rfl⟩
       obtain ⟨r1,r2,r3,r4⟩:=uh hJ
       by_cases hlt2:j < l.length
       ·have hd3:decide ((j:Int) < (l.length:Int)) = true:=by simp;omega
        have hr2:=own_bw (uh HKE) r1.bl
        obtain ⟨g,cap,hgv,-,-⟩:=own_pos hr2 (by omega)
        simp only [Value.slice.injEq,true_and] at hgv
        obtain ⟨rfl,rfl⟩:=hgv
        obtain ⟨x0,x1⟩:=en_cells hr2 rfl hlt2
        have heo:=(uh H).dr l (uh HLK).2 l[j] (List.getElem_mem hlt2)
        obtain ⟨e,hee⟩:∃ e,e = l[j]:=⟨_,rfl⟩
        rw [← hee] at x0 x1 heo
        obtain ⟨W5,hW5⟩:∃ W5,W5 = wr.alloc (.cells #[Value.pointer (some ⟨e.D,0,none⟩),.bool e.d] 258):=⟨_,rfl⟩
        have hbx:Below wr.heap.size wr W5:=by rw [hW5];exact below_boxQ wr _
        have hXb:Bk W5 wr.heap.size 258 [Value.pointer (some ⟨e.D,0,none⟩),.bool e.d]:=by rw [hW5];exact Bk.new wr _ _
        obtain ⟨Y,hYe⟩:∃ Y,Y = wr.heap.size:=⟨_,rfl⟩
        rw [← hYe] at hXb
        have q1:=r1.below hbx
        have hb5:=q1.bl
        have hfo:=(hb5.cell (World.block_lt_of_cell? w _ heo.1.fo)).trans heo.1.fo
        have hrow:=q1.ke k (by omega)
        have hfl:=q1.fl
        have hst:(l.take (j + 1)).map (fun e=>e.x) = (l.take j).map (fun e=>e.x) ++ [e.x]:=by rw [List.take_succ_eq_append_getElem hlt2,List.map_append,hee];rfl
        rw [r3] at hrow
        obtain ⟨fa,fc,hfv,-,-⟩:=own_slc hrow
        obtain ⟨ML,hML⟩:∃ ML,ML = (l.take j).map (fun e=>e.x):=⟨_,rfl⟩
        rw [← hML] at hrow hfv hst r3
        have hMl:ML.length≤l.length:=by rw [hML,List.length_map,List.length_take];omega
        have b0:=hXb.cell 0 rfl
        have k2c:=q1.bk.cell 2 rfl
        have hRl:=q1.bk.lt
        have hkrow:=q1.kr
        rw [r2] at hkrow
        have hkB:=(hkrow.lt kB rfl).2
        have ckn:=hkrow.cellAt k (by omega)
        have hnk:k < FV'.length:=by omega
        rw [List.getElem?_eq_getElem hnk] at ckn
        have hgk:FV'[k] = .slice fa ML.length fc:=by rw [← hfv,getD_at hnk]
        rw [hgk] at ckn
        have hYl:=hXb.lt
        have hDl:=World.block_lt_of_cell? W5 _ hfo
        have a1:∀ (q:Nat) (o:Obj),((W5.drewN q).alloc o).cell? ⟨RB,2,none⟩ = some (.slice (some ⟨kB,0,none⟩) K.length K.length):=fun q o=>(World.cell?_of_block (a:=⟨RB,2,none⟩) (Below.heap_alloc (W5.drewN q) o _ hRl)).trans k2c
        have a2:∀ (q:Nat) (o:Obj),((W5.drewN q).alloc o).cell? ⟨kB,k,none⟩ = some (.slice fa ML.length fc):=fun q o=>(World.cell?_of_block (a:=⟨kB,k,none⟩) (Below.heap_alloc (W5.drewN q) o _ hkB)).trans ckn
        have HROW:Hid (W5.ownsRow 0 126 1 (.slice fa ML.length fc) ML.length (ML.map FE.p)):=hide (by rw [← hfv];exact hrow)
        have HFV:=hide hfv
        have HR3:=hide r3
        have HST:=hide hst
        have HQ1:=hide q1
        have HR24:=hide (And.intro r2 r4)
        obtain ⟨eA,heA⟩:∃ eA,eA = e.x.A:=⟨_,rfl⟩
        have HEA:=hide heA
        rw [← heA] at hfo
        obtain ⟨eD,heD⟩:∃ eD,eD = e.D:=⟨_,rfl⟩
        rw [← heD] at hfo b0 x0 hDl
        have HNE:Hid ((Value.slice fa ML.length fc).ownBlock≠some Y∧(Value.slice fa ML.length fc).ownBlock≠some eD∧RB≠kB∧Y≠kB∧eD≠kB):=hide (by
         have hm:∀ q,(Value.slice fa ML.length fc).ownBlock = some q→w.heap.size≤q∧q < wr.heap.size:=fun q hq=>by
          have hmem:q∈fpt (rzO RB av2 (.slice (some ⟨kB,0,none⟩) K.length K.length) FV'):=mem_fpt.2 ⟨3 + k,(rz_k hnk).trans (by rw [hfv];exact congrArg some hq)⟩
          exact ⟨r1.ge q hmem,r1.lt q hmem⟩
         have hm2:kB∈fpt (rzO RB av2 (.slice (some ⟨kB,0,none⟩) K.length K.length) FV'):=mem_fpt.2 ⟨2,rfl⟩
         have hm3:=r1.ge kB hm2
         have hm4:=r1.lt kB hm2
         have h9:=World.block_lt_of_cell? w _ heo.1.fo
         simp only at h9
         rw [← heD] at h9
         refine ⟨fun e'=>?_,fun e'=>?_,fun e'=>?_,fun e'=>?_,fun e'=>?_⟩
         ·have:=hm Y e';omega
         ·have h8:=hm eD e'
          omega
         ·have:=r1.ap 0 2 RB rfl (by rw [e'];rfl)
          omega
         ·omega
         ·omega)
        rw [← heD] at hW5
        have k1:(0:Int)≤(j:Int):=by omega
        have k2:(j:Int) < (l.length:Int):=by omega
        clear hr2 heo hee hbx hXb hrow hfv hst hML r1 r2 r3 r4 hJ q1 hb5 hkrow heA heD hfl
        go_upto_region 17 with fail
        rw [← hW5,← hYe]
        clear hW5 hYe x0 x1
        have a1:∀ (o:Obj),(W5.alloc o).cell? ⟨RB,2,none⟩ = some (.slice (some ⟨kB,0,none⟩) K.length K.length):=fun o=>(World.cell?_of_block (a:=⟨RB,2,none⟩) (Below.heap_alloc W5 o _ hRl)).trans k2c
        have a2:∀ (o:Obj),(W5.alloc o).cell? ⟨kB,k,none⟩ = some (.slice fa ML.length fc):=fun o=>(World.cell?_of_block (a:=⟨kB,k,none⟩) (Below.heap_alloc W5 o _ hkB)).trans ckn
        have HKN:Hid (∀ (w2:World) (g2 cap2:Nat) (o:Obj),w2.ownsRow 0 126 1 (.slice (some ⟨g2,0,none⟩) (ML.length + 1) cap2) (ML.length + 1) (ML.map FE.p ++ [.pointer (some ⟨eA,0,none⟩)])→(W5.alloc o).drew.grownBy w2 (Value.slice fa ML.length fc).ownBlock→(some g2 = (Value.slice fa ML.length fc).ownBlock∨g2 = (W5.alloc o).drew.heap.size) →
          (Rz w (w2.setCell ⟨kB,k,none⟩ (.slice (some ⟨g2,0,none⟩) (ML.length + 1) cap2)) RB (vdO AK) av2 (.slice (some ⟨kB,0,none⟩) K.length K.length) AK (FV'.set k (.slice (some ⟨g2,0,none⟩) (ML.length + 1) cap2)) (L'.set k (ML ++ [e.x])))∧w2.cell? ⟨RB,2,none⟩ = some (.slice (some ⟨kB,0,none⟩) K.length K.length)∧w2.cell? ⟨kB,k,none⟩ = some (.slice fa ML.length fc)∧w2.frozen? ⟨kB,k,none⟩ = false∧w2.cell? ⟨Y,0,none⟩ = some (.pointer (some ⟨eD,0,none⟩))∧w2.cell? ⟨eD,0,none⟩ = some (.pointer (some ⟨eA,0,none⟩))∧∀ u,(w2.setCell ⟨kB,k,none⟩ u).cell? ⟨RB,2,none⟩ = some (.slice (some ⟨kB,0,none⟩) K.length K.length)∧(w2.setCell ⟨kB,k,none⟩ u).cell? ⟨Y,0,none⟩ = some (.pointer (some ⟨eD,0,none⟩))∧(w2.setCell ⟨kB,k,none⟩ u).cell? ⟨eD,0,none⟩ = some (.pointer (some ⟨eA,0,none⟩))):=hide (fun w2 g2 cap2 o hown hgr hbl=>by
         have hq:=(uh HQ1).below ((below_boxQ W5 o).drew)
         have hr2:=(uh HR24).1
         have hxp:e.x.p = .pointer (some ⟨eA,0,none⟩):=by rw [uh HEA];rfl
         rw [← hxp,← uh HR3] at hown
         have hk:=hq.know (n:=k) (kB:=kB) (kC:=K.length) (x:=e.x) (g:=g2) (c:=cap2) (by omega) (by rw [hr2]) hown (by rw [uh HFV];exact hgr) (by rw [uh HFV];exact hbl)
         rw [uh HR3] at hk
         obtain ⟨k1,k2,k3⟩:=hk
         rw [hr2] at k2
         have hc:=k2.cellAt k (by omega)
         rw [List.getElem?_eq_getElem hnk] at hc
         have hold:∀ q,q < W5.heap.size→(Value.slice fa ML.length fc).ownBlock≠some q→w2.heap[q]? = W5.heap[q]?:=fun q hq hne=>(hgr.block q (by show q < (W5.alloc o).heap.size;simp;omega) (fun e'=>hne e'.symm)).trans (Below.heap_alloc W5 o q hq)
         have y1:=(World.cell?_of_block (a:=⟨Y,0,none⟩) (hold Y hYl (uh HNE).1)).trans b0
         have y2:=(World.cell?_of_block (a:=⟨eD,0,none⟩) (hold eD hDl (uh HNE).2.1)).trans hfo
         have y3:=k3.cell 2 rfl
         refine ⟨k1,y3,by rw [hc,hgk],k2.frozenAt k,y1,y2,fun u=>⟨?_,?_,?_⟩⟩
         ·exact (World.cell?_of_block (a:=⟨RB,2,none⟩) (Below.heap_setCell _ _ _ _ (uh HNE).2.2.1)).trans y3
         ·exact (World.cell?_of_block (a:=⟨Y,0,none⟩) (Below.heap_setCell _ _ _ _ (uh HNE).2.2.2.1)).trans y1
         ·exact (World.cell?_of_block (a:=⟨eD,0,none⟩) (Below.heap_setCell _ _ _ _ (uh HNE).2.2.2.2)).trans y2)
        have a3:∀ (o:Obj),(W5.alloc o).cell? ⟨Y,0,none⟩ = some (.pointer (some ⟨eD,0,none⟩)):=fun o=>(World.cell?_of_block (a:=⟨Y,0,none⟩) (Below.heap_alloc W5 o _ hYl)).trans b0
        have a4:∀ (o:Obj),(W5.alloc o).cell? ⟨eD,0,none⟩ = some (.pointer (some ⟨eA,0,none⟩)):=fun o=>(World.cell?_of_block (a:=⟨eD,0,none⟩) (Below.heap_alloc W5 o _ hDl)).trans hfo
        have HALL:=hide (And.intro HLL (And.intro HR24 (And.intro HST (And.intro hlt (And.intro hjn (And.intro hG3 (And.intro hlt2 hlb)))))))
        have hm2t:ML.length + 1≤2000000000000:=by omega
        clear hgk HPOST HRS HBG HLL HWV HLK HAK HFV HR3 HST HQ1 HR24 HEA HNE HKE hlb hMl hkn htn ht2 hjn hG1 hG2 hG3 hvn hvm hkc1 hkc2 hKl hSl hRw hlt hlt2 hnk hRl hkB hYl hDl hd hd2 hd3 ht hmk hj0 hy0 hy1 hy2
        go_region_law (refine step_app2 _ rfl (.tmp 86) (.tmp 92) 125 rfl 0 126 i0 _ 1 8 Tryz.underlying125 hi0 hz0 hz1 hz2 rfl (by decide) (.slice fa ML.length fc) ML.length (ML.map FE.p) (by simp [Act.eval]) ((uh HROW).alloc _) ⟨W5.heap.size,0,none⟩ 1 [.pointer (some ⟨eA,0,none⟩)] (by simp [Act.eval]) rfl (new_cells W5 _ rfl [.pointer (some ⟨eA,0,none⟩)] _) (by intro u hu;simp only [List.mem_singleton] at hu;subst hu;rfl) hm2t (by decide) (Nat.zero_le _) ?_;intro g2 cap2 w2 hown2 hgrow2 hblk2;obtain ⟨hk1,hk2,hk3,hk4,hk5,hk6,hk7⟩:=uh HKN w2 g2 cap2 _ hown2 hgrow2 hblk2;have HI':=hide hk1;clear hown2 hgrow2 hblk2 hk1 hk7)
        all_goals
         obtain ⟨HLL,HR24,HST,hlt,hjn,hG3,hlt2,hlb⟩:=uh HALL
         go_wp2_with fail
         go_roundg (G3 - 1)
         case rel=>exact ⟨j + 1,_,_,by omega,by go_num,hide ⟨(uh HI').of_eq (fun _ _=>rfl) ⟨(uh HI').bl.os,(uh HI').bl.tape,(uh HI').bl.output,(uh HI').bl.size,(uh HI').bl.block⟩,by rw [List.length_set];exact (uh HR24).1,by
          rw [uh HST,List.getD_eq_getElem?_getD,List.getElem?_set_self (by rw [(uh HR24).1];exact hlt)];rfl,fun i hi=>by
          rw [List.getD_eq_getElem?_getD,List.getElem?_set_ne (fun e'=>hi e'.symm),← List.getD_eq_getElem?_getD];exact (uh HR24).2 i hi⟩⟩
         case measure=>omega
       ·have hd3:decide ((j:Int) < (l.length:Int)) = false:=by simp;omega
        have HN:Hid (Rz w wr RB (vdO (alK s.wr (k + 1))) av2 (.slice (some ⟨kB,0,none⟩) K.length K.length) (alK s.wr (k + 1)) FV' L'∧L'.length = K.length∧(∀ i,i < k + 1→L'.getD i [] = (K.getD i []).map (·.x))∧∀ i,k + 1≤i→L'.getD i [] = []):=hide ⟨by rw [← uh HAK];exact r1,r2,fun i hi=>by
          by_cases e:i = k
          ·rw [e,r3,List.take_of_length_le (by omega),← (uh HLK).1]
          ·rw [r4 i e];exact (uh HLL).2.1 i (by omega),fun i hi=>by rw [r4 i (by omega)];exact (uh HLL).2.2 i (by omega)⟩
        clear r1 r2 r3 r4 hJ
        go_wp2_with fail
        go_roundg (G1 - 1)
        case rel=>exact ⟨k + 1,av2,FV',L',by omega,by go_num,HN⟩
        case measure=>omega
   ·have hd:decide ((k:Int) < (K.length:Int)) = false:=by simp;omega
    have HP:Hid (POST RB wr):=hide (by
     rw [uh HPOST,uh HRS]
     have hk:k = s.wr.length:=by rw [(uh H).wl];omega
     refine ⟨av,_,FV,L,by rw [← hk];exact h1,?_,fun l hl x hx=>?_⟩
     ·show _ = s.kn.map _
      rw [(uh H).km,List.map_map]
      apply List.ext_getElem?
      intro i
      rw [List.getElem?_map,List.getElem?_map]
      by_cases hi:i < K.length
      ·have h5:=h3 i (by rw [hk,(uh H).wl];exact hi)
       rw [getD_at (by omega),getD_at hi] at h5
       rw [List.getElem?_eq_getElem (by omega),List.getElem?_eq_getElem hi]
       simp only [Option.map_some,h5,List.map_map,Function.comp_apply]
       rfl
      ·rw [List.getElem?_eq_none (by omega),List.getElem?_eq_none (by omega)]
       rfl
     ·obtain ⟨i,hi,rfl⟩:=List.mem_iff_getElem.1 hl
      have h5:=h3 i (by rw [hk,(uh H).wl];omega)
      rw [getD_at hi,getD_at (by omega)] at h5
      rw [h5] at hx
      obtain ⟨e,he,rfl⟩:=List.mem_map.1 hx
      exact ⟨_,List.getElem_mem (by omega),e,he,rfl⟩)
    clear h1 h2 h3 h4 hsW hI
    go_wp2_with fail
    go_ret
    exact ⟨RB,rfl,uh HP⟩
end
end Go.Proofs.YtciihepbeacppaaGreat
