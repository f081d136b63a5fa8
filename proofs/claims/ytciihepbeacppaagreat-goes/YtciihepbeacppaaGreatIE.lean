import Derived.Test.YtciihepbeacppaaGreatM31
set_option maxRecDepth 100000
set_option maxHeartbeats 0
namespace Go.Proofs.YtciihepbeacppaaGreat
open Tryz Go.RowKit List World Below
set_option linter.unusedVariables false
section
variable {P:Program} (w:World)
theorem JV {ops:Array Oper} {o:Oper} {a:Act} {K:Act->World->Prop} {Q:Exit->Act->World->Prop} {E:Prop}
  (hg:o.guard=none) (s x:Operand) (t:TypeId) (dV:o.op=Op.call { callee:=Callee.builtin Builtin.append,args:=#[s,x],argTypes:=#[t,t] })
  (base:Nat) (e:TypeId) (i:TypeInfo) (z:Value) (size bytes:Nat) (ht:P.underlying t=some (.slice e)) (hi:P.info? e=some i) (hz:i.zero=some z)
  (iD:i.size=size) (DT:i.bytes=bytes) (Jt:z.cells.size=size) (jO:0<size)
  (v:Value) (n:Nat) (xs:List Value) (hs:a.eval s=v) (aN:w.ownsRow base e size v n xs)
  (ad:Addr) (c:Nat) (news:List Value) (hx:a.eval x=.slice (some ad) 1 c) (hl:news.length=size) (gj:∀j u,news[j]?=some u->w.cell? (ad.add j)=some u) (h1:∀u∈news,u.oneCell'=true)
  (IJ:n+1<=2000000000000) (hb:bytes<=16) (jx:base<=w.heap.size)
  (hK:∀g cap w',w'.ownsRow base e size (.slice (some ⟨g,0,none⟩) (n+1) cap) (n+1) (xs++news)->w.grownBy w' v.ownBlock->(some g=v.ownBlock\/g=w.heap.size)->K (a.put o.dst (.slice (some ⟨g,0,none⟩) (n+1) cap)) w') :
  if Region.wanted o (yielded ops a.tmps)=true then Oper.wp P o a w K Q else E:=by
 have hw:Region.wanted o (yielded ops a.tmps)=true:=by simp[Region.wanted,hg]
 rw[if_pos hw];obtain⟨v',w',qY,r1,r2,r3,g,cap,rfl⟩:=B6 (P:=P) w base t o.type e i z size bytes ht hi hz iD DT Jt jO v n xs aN ad c news hl gj h1 IJ hb jx;unfold Oper.wp;simp[execOp,dV,resolve,invoke,builtin,hs,hx,qY,Result.andThen];exact hK g cap w' r1 r2 (by simpa[Value.ownBlock] using r3)
end
section
variable {w:World} {S:Nat} {c:Cd} {c0 hv kv wv:Value} {KV WV:List Value} {K:List (List En)} {s:Sr}
theorem UF(al:List (Nat × Nat))(p:Nat × Nat):C2 (al++[p])=1:=by unfold C2;rw[if_neg (by simp)]
def Xi(w:World)(K:List (List En))(r:Rs)(RB:Nat)(w':World):Prop:=∃av kv FV L,Rz w w' RB r.vd av kv r.al FV L/\L.map (λl=>l.map (λx=>x.f))=r.kn/\∀l∈L,∀x∈l,∃l0∈K,∃e∈l0,e.x=x
theorem JN(h:Sh w S c c0 hv kv wv KV WV K s)(vt:K.length<=100000)(po:∀l∈K,l.length<=qI+1):
  Calls prog 143 #[.pointer (some ⟨S,0,none⟩)] w λe w'=>∃RB,e=.returned (.pointer (some ⟨RB,0,none⟩))/\Xi w K (Hg s) RB w':=by
 obtain⟨i0,iy,dG,du,ef⟩:=info_parts infoPF;obtain⟨j0,uN,hy0,hy1,hy2⟩:=info_parts infoAl;obtain⟨ka,kC,Bl,ajK,ajL⟩:=ah h.kr;subst Bl;have c8:=h.bs.cell 8 rfl;have c3:=h.bs.cell 3 rfl;have P6:=h.bs.lt;obtain⟨dQ,cW⟩:∃dQ:Nat->World->Prop,dQ=λRB w'=>Xi w K (Hg s) RB w':=⟨_,rfl⟩;have eU:=ab cW;rw[show(fun(e:Ending) (w':World)=>∃RB,e=.returned (.pointer (some ⟨RB,0,none⟩))/\Xi w K (Hg s) RB w')=(λe w'=>∃RB,e=.returned (.pointer (some ⟨RB,0,none⟩))/\dQ RB w') by rw[cW]];have H:=ab h;have kK:=ab po;clear h cW po;cases dM:s.fu
 rotate_left
 .rw[dM]at c8;have HP:Hid (dQ w.heap.size (w.alloc (.cells #[Value.int .i64 2,.slice none 0 0,.slice none 0 0] 118))):=ab (by
   rw[uh eU];have e:Hg s=⟨2,[],[]⟩:=(by unfold Hg;rw[if_pos dM]);rw[e];refine⟨aH,aH,[],[],⟨Bk.new w _ _,⟨rfl,.inl ⟨rfl,rfl⟩⟩,⟨rfl,.inl ⟨rfl,rfl⟩⟩,λi hi=>by simp at hi,λi j k hi hj=>?_,λk hk=>?_,af w _⟩,rfl,λl hl=>by simp at hl⟩
   .rcases xu hi with⟨a,-⟩|⟨-,a⟩|⟨-,a⟩|⟨q,hq,-⟩
    .rcases xu hj with⟨b,-⟩|⟨-,b⟩|⟨-,b⟩|⟨q,hq,-⟩
     .rw[a,b]
     .cases b
     .cases b
     .simp at hq
    .cases a
    .cases a
    .simp at hq
   .obtain⟨i,hi⟩:=aP.1 hk;rcases xu hi with⟨-,a⟩|⟨-,a⟩|⟨-,a⟩|⟨q,hq,-⟩
    .omega
    .cases a
    .cases a
    .simp at hq)
  clear dM;go_enter func143,ntmps143;go_wp2_with fail
  go_ret;exact⟨_,rfl,uh HP⟩
 .rw[dM]at c8;have KK:Hid (Hg s=⟨C2 (lH s.wr s.wr.length),lH s.wr s.wr.length,s.kn.map (λl=>l.map (·.f))⟩):=ab (by unfold Hg;rw[if_neg (by rw[dM];decide),QX];rfl);have YS:=run_make_row' (P:=prog) 116 125 (.slice none 0 0) 24 underlying116 infoFs rfl .i64 .i64 K.length (by omega) (by omega);clear dM;go_enter func143,ntmps143;go_upto_region 4 with fail;obtain⟨W1,dF⟩:∃W1,W1=w.alloc (.cells #[Value.int .i64 0,.slice none 0 0,.slice none 0 0] 118):=⟨_,rfl⟩;have aT:Below w.heap.size w W1:=by rw[dF];exact af w _
  have fB:Bk W1 w.heap.size 118 [.int .i64 0,.slice none 0 0,.slice none 0 0]:=by rw[dF];exact Bk.new w _ _
  obtain⟨RB,Yf⟩:∃RB,RB=w.heap.size:=⟨_,rfl⟩;rw[<-Yf]at fB;have hRw:w.heap.size<=RB:=by omega
  have cY:=ab (zq2 aT fB);have d3:=(aT.cell P6).trans c3;rw[<-dF,<-Yf];clear dF aT fB Yf c8 c3;go_cut [] (λwx=>∃kB,Hid (Rz w wx RB (C2 (lH s.wr 0)) aH (.slice (some ⟨kB,0,none⟩) K.length K.length) (lH s.wr 0) (replicate K.length aH) (replicate K.length [])))
  case first =>
   obtain⟨hb,fB⟩:=uh cY;have e1:=(fB.alloc (.cells (madeCells #[Value.slice none 0 0] K.length) 125)).cell 2 rfl;have z1:=(fB.alloc (.cells (madeCells #[Value.slice none 0 0] K.length) 125)).frz 2;have wP:=fB.lt;have aF:((W1.alloc (.cells (madeCells #[Value.slice none 0 0] K.length) 125)).setCell ⟨RB,2,none⟩ (.slice (some ⟨W1.heap.size,0,none⟩) K.length K.length)).ownsRow 0 125 1 (.slice (some ⟨W1.heap.size,0,none⟩) K.length K.length) K.length (replicate K.length aH):=by
    have h2:=ownsRow_lit (base:=0) (e:=125) (size:=1) W1 (madeCells #[Value.slice none 0 0] K.length) K.length (zq5 _) (by simp[maxLen];omega) (by simp[madeCells]);rw[toList_madeCells_one]at h2;exact a8 h2 (p:=⟨RB,2,none⟩) (by show some W1.heap.size≠some RB;intro e;injection e with e;omega) _
   have qV:∀j,(replicate K.length aH).getD j aH=aH:=λj=>by
    by_cases hj:j<K.length
    .simp[hj]
    .rw[getD_eq_getElem?_getD,getElem?_eq_none (by rw[length_replicate];omega)];rfl
   have VQ:∀j,(replicate K.length ([]:List FE)).getD j []=[]:=λj=>by
    by_cases hj:j<K.length
    .simp[hj]
    .rw[getD_eq_getElem?_getD,getElem?_eq_none (by rw[length_replicate];omega)];rfl
   have HN:Hid (Rz w ((W1.alloc (.cells (madeCells #[Value.slice none 0 0] K.length) 125)).setCell ⟨RB,2,none⟩ (.slice (some ⟨W1.heap.size,0,none⟩) K.length K.length)) RB (C2 (lH s.wr 0)) aH (.slice (some ⟨W1.heap.size,0,none⟩) K.length K.length) (lH s.wr 0) (replicate K.length aH) (replicate K.length [])):=ab (by
    have f8:∀i k,(rd RB aH (.slice (some ⟨W1.heap.size,0,none⟩) K.length K.length) (replicate K.length aH))[i]?=some (some k)->i=0/\k=RB\/i=2/\k=W1.heap.size:=λi k hi=>by
     rcases xu hi with a|⟨-,a⟩|⟨b,a⟩|⟨q,hq,-,a⟩
     .exact zq0 a
     .cases a
     .exact zq1 ⟨b,by injection a with a;exact a.symm⟩
     .rw[qV]at a;cases a
    refine⟨(fB.alloc (.cells (madeCells #[Value.slice none 0 0] K.length) 125)).set 2 _,⟨rfl,.inl ⟨rfl,rfl⟩⟩,by rw[length_replicate];exact aF,λi hi=>by rw[qV,VQ];exact⟨rfl,.inl ⟨rfl,rfl⟩⟩,λi j k hi hj=>?_,λk hk=>?_,(hb.trans ((af W1 _).mono hb.size)).setCell (p:=⟨RB,2,none⟩) hRw _⟩
    .have a1:=f8 i k hi;have a2:=f8 j k hj;omega
    .obtain⟨i,hi⟩:=aP.1 hk;have a1:=f8 i k hi;have:=hb.size;omega)
   clear hb fB wP aF qV VQ;go_wp2_with fail
   go_meet
   exact⟨_,HN⟩
  case rest =>
  obtain⟨kB,zU⟩:=hcut;clear d3 cY;have bR:Hid (Rz w wc RB (C2 (lH s.wr 0)) aH (.slice (some ⟨kB,0,none⟩) K.length K.length) (lH s.wr 0) (replicate K.length aH) (replicate K.length [])/\(replicate K.length ([]:List FE)).length=K.length/\(∀i,i<0->(replicate K.length ([]:List FE)).getD i []=(K.getD i []).map (·.x))/\∀i,0<=i->(replicate K.length ([]:List FE)).getD i []=[]):=ab ⟨uh zU,length_replicate,λi hi=>by omega,λj _=>by
    by_cases hj:j<K.length
    .simp[hj]
    .rw[getD_eq_getElem?_getD,getElem?_eq_none (by rw[length_replicate];omega)];rfl⟩
  clear zU;go_wp2_with fail
  go_loopg [4] K.length (λgn iv wx=>∃(k:Nat) (av:Value) (FV:List Value) (L:List (List FE)),k+gn=K.length/\iv=.int .i64 k/\Hid (Rz w wx RB (C2 (lH s.wr k)) av (.slice (some ⟨kB,0,none⟩) K.length K.length) (lH s.wr k) FV L/\L.length=K.length/\(∀i,i<k->L.getD i []=(K.getD i []).map (·.x))/\∀i,k<=i->L.getD i []=[]))
  case atStart=>exact⟨0,_,_,_,by omega,rfl,bR⟩
  case round =>
   clear bR;obtain⟨k,av,FV,L,fC,rfl,hI⟩:=hrel;obtain⟨G1,wK⟩:∃G1,G1=gk:=⟨_,rfl⟩;obtain⟨h1,h2,h3,h4⟩:=uh hI;have hsW:=(uh H).below h1.bl;have c3:=hsW.bs.cell 3 rfl;by_cases ar:k<K.length
   .have hd:decide ((k:Int)<(K.length:Int))=true:=(by simp;omega);have mi:Hid (Rz w wr RB (C2 (lH s.wr k++wj s.wr k 2)) av (.slice (some ⟨kB,0,none⟩) K.length K.length) (lH s.wr k++wj s.wr k 2) FV L):=ab (by rw[QY,append_nil];exact h1);have Ie:=ab (zq2 h2 (zq2 h3 h4));obtain⟨wB,wC,gA,cA,By,So,-,-,-⟩:=(uh H).wc ar;subst By;have QQ:=ab So;have i1:(0:Int)<=(k:Int):=(by omega);have i2:(k:Int)<(K.length:Int):=(by omega);have mG:=Fy s.wr k;clear h1 h2 h3 h4 hsW hI So;go_wp2_with fail
    go_loopg [5] 3 (λgn iv wx=>∃(t:Nat) (av:Value),t+gn=5/\2<=t/\iv=.int .i64 t/\Hid (Rz w wx RB (C2 (lH s.wr k++wj s.wr k t)) av (.slice (some ⟨kB,0,none⟩) K.length K.length) (lH s.wr k++wj s.wr k t) FV L))
    case atStart=>exact⟨2,av,by omega,by omega,rfl,mi⟩
    case round =>
     clear mi c3;obtain⟨t,av2,V4,Jo,rfl,hJ⟩:=hrel;obtain⟨G2,AY⟩:∃G2,G2=gk:=⟨_,rfl⟩;have hsW:=(uh H).below (uh hJ).bl;by_cases ht:t<5
     .have gx:decide ((t:Int)<=(4:Int))=true:=(by simp;omega);obtain⟨s4,sw,stt,-⟩:=hsW.wcs ar (uh QQ);have st:=stt t ht;clear stt;have fh:=KX s.wr k Jo ht;have dg:(lH s.wr k++wj s.wr k t).length<=900000:=by
       rw[length_append];have:=Fz s.wr k t;omega
      have t1:(0:Int)<=(t:Int):=(by omega);have t2:(t:Int)<(5:Int):=(by omega);cases jN:(s.wr.getD k []).getD t false
      .rw[jN]at st fh;rw[if_neg (by decide),append_nil]at fh;have HN:Hid (Rz w wr RB (C2 (lH s.wr k++wj s.wr k (t+1))) av2 (.slice (some ⟨kB,0,none⟩) K.length K.length) (lH s.wr k++wj s.wr k (t+1)) FV L):=ab (by rw[fh];exact uh hJ);clear hsW fh jN hJ;go_wp2_with fail
       go_roundg (G2-1)
       case rel=>exact⟨t+1,_,by omega,by omega,by go_num,HN⟩
       case measure=>omega
      .rw[jN]at st fh;rw[if_pos rfl]at fh;obtain⟨al,Yq⟩:∃al,al=lH s.wr k++wj s.wr k t:=⟨_,rfl⟩;rw[<-Yq]at hJ dg;have e0:=(uh hJ).bk.cell 0 rfl;have z0:=(uh hJ).bk.frz 0;have h5:=(uh hJ).verd;obtain⟨W5,jl⟩:∃W5,W5=wr.setCell ⟨RB,0,none⟩ (.int .i64 1):=⟨_,rfl⟩;rw[<-jl]at h5;have e1:=h5.bk.cell 1 rfl;obtain⟨aa,ac,eS,-,-⟩:=ah h5.al;subst eS;have H5:=ab h5;have bA:Hid (lH s.wr k++wj s.wr k (t+1)=al++[(k,t)]):=ab (by rw[fh,<-append_assoc,Yq]);clear hsW fh jN hJ h5 Yq;go_upto_region 13 with fail;rw[<-jl];clear jl e0 z0;go_wp2_with (at_builtin;refine aK _ rfl (.tmp 55) (.tmp 59) 55 rfl 0 82 j0 _ 2 16 underlying55 uN hy0 hy1 hy2 rfl (by decide) _ al.length (Vg al) rfl ((uh H5).al.alloc _) ⟨_,0,none⟩ 1 [.int .i64 (k:Int),.int .i64 (t:Int)] rfl rfl (aJ _ _ (by simp) [.int .i64 (k:Int),.int .i64 (t:Int)] _) (by intro u hu;simp only[mem_cons,not_mem_nil,or_false]at hu;rcases hu with rfl|rfl <;> rfl) (by omega) (by omega) (zq5 _) ?_)
       intro g7 cap7 w7 gp cX eO;obtain⟨h7,hb7⟩:=((uh H5).below (af W5 _)).alarm (p:=(k,t)) gp cX (by simpa using eO);have e7:=hb7.cell 1 rfl;have z7:=hb7.frz 1;have HN:Hid (Rz w (w7.setCell ⟨RB,1,none⟩ (.slice (some ⟨g7,0,none⟩) (al.length+1) cap7)) RB (C2 (lH s.wr k++wj s.wr k (t+1))) (.slice (some ⟨g7,0,none⟩) (al.length+1) cap7) (.slice (some ⟨kB,0,none⟩) K.length K.length) (lH s.wr k++wj s.wr k (t+1)) FV L):=ab (by rw[uh bA,UF];exact h7);clear gp cX eO h7 hb7 H5;go_wp2_with fail
       go_roundg (G2-1)
       case rel=>exact⟨t+1,_,by omega,by omega,by go_num,HN⟩
       case measure=>omega
     .have gx:decide ((t:Int)<=(4:Int))=false:=(by simp;omega);have ht5:t=5:=(by omega);have hR5:Rz w wr RB (C2 (lH s.wr (k+1))) av2 (.slice (some ⟨kB,0,none⟩) K.length K.length) (lH s.wr (k+1)) FV L:=by
       have h9:=uh hJ;rw[ht5,As,<-Ar]at h9;exact h9
      obtain⟨kB',kC',n7,ckc⟩:=hsW.kc ar;simp only[Value.slice.injEq,true_and]at n7;obtain⟨rfl,rfl⟩:=n7;obtain⟨l,hl⟩:∃l,l=K.getD k []:=⟨_,rfl⟩;have hlK:l∈K:=(by rw[hl,bp ar];exact getElem_mem ar);have SF:l.length<=1000000000001:=(by have h9:=uh kK l hlK;unfold qI at h9;omega);have iz:=(uh H).ke k ar;rw[<-hl]at iz;obtain⟨va,vc,q7,Jr,NE⟩:=ah iz;rw[q7]at ckc iz;have s3:=hsW.bs.cell 3 rfl;obtain⟨L0,hL0⟩:∃L0,L0=L:=⟨_,rfl⟩;have X9:L.getD k []=(l.take 0).map (·.x):=(by rw[(uh Ie).2.2 k (zq4 _)];rfl);have mi:Hid (Rz w wr RB (C2 (lH s.wr (k+1))) av2 (.slice (some ⟨kB,0,none⟩) K.length K.length) (lH s.wr (k+1)) FV L/\L.length=K.length/\L.getD k []=(l.take 0).map (·.x)/\∀i,i≠k->L.getD i []=L0.getD i []):=ab ⟨hR5,(uh Ie).1,X9,λi _=>by rw[hL0]⟩;rw[<-hL0]at Ie;have UW:=ab iz;have PR:=ab (zq2 hl hlK);obtain⟨AK,hAK⟩:∃AK,AK=lH s.wr (k+1):=⟨_,rfl⟩;rw[<-hAK]at mi;have HAK:=ab hAK;clear hJ hsW ht5 hR5 hl hlK iz q7 hL0 X9 hAK mG;go_wp2_with fail
      go_loopg [71] l.length (λgn iv wx=>∃(j:Nat) (FV':List Value) (L':List (List FE)),j+gn=l.length/\iv=.int .i64 j/\Hid (Rz w wx RB (C2 AK) av2 (.slice (some ⟨kB,0,none⟩) K.length K.length) AK FV' L'/\L'.length=K.length/\L'.getD k []=(l.take j).map (·.x)/\∀i,i≠k->L'.getD i []=L0.getD i []))
      case atStart=>exact⟨0,FV,L,by omega,rfl,mi⟩
      case round =>
       clear mi ckc s3;obtain⟨j,FV',L',wU,rfl,hJ⟩:=hrel;obtain⟨G3,hG3⟩:∃G3,G3=gk:=⟨_,rfl⟩;obtain⟨r1,r2,r3,r4⟩:=uh hJ;by_cases bf:j<l.length
       .have DX:decide ((j:Int)<(l.length:Int))=true:=(by simp;omega);have fH:=b8 (uh UW) r1.bl;obtain⟨g,cap,cM,-,-⟩:=aS fH (by omega);simp only[Value.slice.injEq,true_and]at cM;obtain⟨rfl,rfl⟩:=cM;obtain⟨x0,x1⟩:=kS fH rfl bf;have wS:=(uh H).dr l (uh PR).2 l[j] (getElem_mem bf);obtain⟨e,Ki⟩:∃e,e=l[j]:=⟨_,rfl⟩;rw[<-Ki]at x0 x1 wS;obtain⟨W5,jl⟩:∃W5,W5=wr.alloc (.cells #[Value.pointer (some ⟨e.D,0,none⟩),.bool e.d] 258):=⟨_,rfl⟩;have aT:Below wr.heap.size wr W5:=(by rw[jl];exact af wr _);have ir:Bk W5 wr.heap.size 258 [Value.pointer (some ⟨e.D,0,none⟩),.bool e.d]:=(by rw[jl];exact Bk.new wr _ _);obtain⟨Y,mF⟩:∃Y,Y=wr.heap.size:=⟨_,rfl⟩;rw[<-mF]at ir;have q1:=r1.below aT;have b6:=q1.bl;have gJ:=(b6.cell (block_lt_of_cell? w _ wS.1.fo)).trans wS.1.fo;have aF:=q1.ke k (by omega);have jN:=q1.fl;have aE:(l.take (j+1)).map (λe=>e.x)=(l.take j).map (λe=>e.x)++[e.x]:=(by rw[take_succ_eq_append_getElem bf,map_append,Ki];rfl);rw[r3]at aF;obtain⟨fa,fc,VJ,-,-⟩:=ah aF;obtain⟨ML,Ya⟩:∃ML,ML=(l.take j).map (λe=>e.x):=⟨_,rfl⟩;rw[<-Ya]at aF VJ aE r3;have Vx:ML.length<=l.length:=(by rw[Ya,length_map,length_take];omega);have b0:=ir.cell 0 rfl;have k2c:=q1.bk.cell 2 rfl;have wP:=q1.bk.lt;have Gm:=q1.kr;rw[r2]at Gm;have hkB:=(Gm.lt kB rfl).2;have ckn:=Gm.cellAt k (by omega);have Qi:k<FV'.length:=(by omega);rw[getElem?_eq_getElem Qi]at ckn;have Kl:FV'[k]=.slice fa ML.length fc:=(by rw[<-VJ,bp Qi]);rw[Kl]at ckn;have zV:=ir.lt;have RZ:=block_lt_of_cell? W5 _ gJ;have a1:∀(q:Nat) (o:Obj),((W5.drewN q).alloc o).cell? ⟨RB,2,none⟩=some (.slice (some ⟨kB,0,none⟩) K.length K.length):=λq o=>(cell?_of_block (a:=⟨RB,2,none⟩) (heap_alloc (W5.drewN q) o _ wP)).trans k2c;have a2:∀(q:Nat) (o:Obj),((W5.drewN q).alloc o).cell? ⟨kB,k,none⟩=some (.slice fa ML.length fc):=λq o=>(cell?_of_block (a:=⟨kB,k,none⟩) (heap_alloc (W5.drewN q) o _ hkB)).trans ckn;have ii:Hid (W5.ownsRow 0 126 1 (.slice fa ML.length fc) ML.length (ML.map FE.p)):=ab (by rw[<-VJ];exact aF);have WI:=ab VJ;have CD:=ab r3;have bA:=ab aE;have HQ1:=ab q1;have C9:=ab (zq2 r2 r4);obtain⟨eA,heA⟩:∃eA,eA=e.x.A:=⟨_,rfl⟩;have HEA:=ab heA;rw[<-heA]at gJ;obtain⟨eD,heD⟩:∃eD,eD=e.D:=⟨_,rfl⟩;rw[<-heD]at gJ b0 x0 RZ;have rj:Hid ((Value.slice fa ML.length fc).ownBlock≠some Y/\(Value.slice fa ML.length fc).ownBlock≠some eD/\RB≠kB/\Y≠kB/\eD≠kB):=ab (by
         have hm:∀q,(Value.slice fa ML.length fc).ownBlock=some q->w.heap.size<=q/\q<wr.heap.size:=λq hq=>by
          have iB:q∈RP (rd RB av2 (.slice (some ⟨kB,0,none⟩) K.length K.length) FV'):=aP.2 ⟨3+k,(EU Qi).trans (by rw[VJ];exact congrArg some hq)⟩;exact⟨r1.ge q iB,r1.lt q iB⟩
         have qs:kB∈RP (rd RB av2 (.slice (some ⟨kB,0,none⟩) K.length K.length) FV'):=aP.2 ⟨2,rfl⟩;have vD:=r1.ge kB qs;have zW:=r1.lt kB qs;have h9:=block_lt_of_cell? w _ wS.1.fo;simp only at h9;rw[<-heD]at h9;refine⟨λe'=>?_,λe'=>?_,λe'=>?_,λe'=>?_,λe'=>?_⟩
         .have:=hm Y e';omega
         .have h8:=hm eD e';omega
         .have:=r1.ap 0 2 RB rfl (by rw[e'];rfl);omega
         .omega
         .omega)
        rw[<-heD]at jl;have k1:(0:Int)<=(j:Int):=(by omega);have k2:(j:Int)<(l.length:Int):=(by omega);clear fH wS Ki aT ir aF VJ aE Ya r1 r2 r3 r4 hJ q1 b6 Gm heA heD jN;go_upto_region 17 with fail;rw[<-jl,<-mF];clear jl mF x0 x1;have a1:∀(o:Obj),(W5.alloc o).cell? ⟨RB,2,none⟩=some (.slice (some ⟨kB,0,none⟩) K.length K.length):=λo=>(cell?_of_block (a:=⟨RB,2,none⟩) (heap_alloc W5 o _ wP)).trans k2c;have a2:∀(o:Obj),(W5.alloc o).cell? ⟨kB,k,none⟩=some (.slice fa ML.length fc):=λo=>(cell?_of_block (a:=⟨kB,k,none⟩) (heap_alloc W5 o _ hkB)).trans ckn;have HKN:Hid (∀(w2:World) (g2 cap2:Nat) (o:Obj),w2.ownsRow 0 126 1 (.slice (some ⟨g2,0,none⟩) (ML.length+1) cap2) (ML.length+1) (ML.map FE.p++[.pointer (some ⟨eA,0,none⟩)])->(W5.alloc o).drew.grownBy w2 (Value.slice fa ML.length fc).ownBlock->(some g2=(Value.slice fa ML.length fc).ownBlock\/g2=(W5.alloc o).drew.heap.size) ->
          (Rz w (w2.setCell ⟨kB,k,none⟩ (.slice (some ⟨g2,0,none⟩) (ML.length+1) cap2)) RB (C2 AK) av2 (.slice (some ⟨kB,0,none⟩) K.length K.length) AK (FV'.set k (.slice (some ⟨g2,0,none⟩) (ML.length+1) cap2)) (L'.set k (ML++[e.x])))/\w2.cell? ⟨RB,2,none⟩=some (.slice (some ⟨kB,0,none⟩) K.length K.length)/\w2.cell? ⟨kB,k,none⟩=some (.slice fa ML.length fc)/\w2.frozen? ⟨kB,k,none⟩=false/\w2.cell? ⟨Y,0,none⟩=some (.pointer (some ⟨eD,0,none⟩))/\w2.cell? ⟨eD,0,none⟩=some (.pointer (some ⟨eA,0,none⟩))/\∀u,(w2.setCell ⟨kB,k,none⟩ u).cell? ⟨RB,2,none⟩=some (.slice (some ⟨kB,0,none⟩) K.length K.length)/\(w2.setCell ⟨kB,k,none⟩ u).cell? ⟨Y,0,none⟩=some (.pointer (some ⟨eD,0,none⟩))/\(w2.setCell ⟨kB,k,none⟩ u).cell? ⟨eD,0,none⟩=some (.pointer (some ⟨eA,0,none⟩))):=ab (λw2 g2 cap2 o aN SC bP=>by
         have hq:=(uh HQ1).below ((af W5 o).drew);have fH:=(uh C9).1;have yH:e.x.p=.pointer (some ⟨eA,0,none⟩):=(by rw[uh HEA];rfl);rw[<-yH,<-uh CD]at aN;have hk:=hq.know (n:=k) (kB:=kB) (kC:=K.length) (x:=e.x) (g:=g2) (c:=cap2) (by omega) (by rw[fH]) aN (by rw[uh WI];exact SC) (by rw[uh WI];exact bP);rw[uh CD]at hk;obtain⟨k1,k2,k3⟩:=hk;rw[fH]at k2;have hc:=k2.cellAt k (by omega);rw[getElem?_eq_getElem Qi]at hc;have ts:∀q,q<W5.heap.size->(Value.slice fa ML.length fc).ownBlock≠some q->w2.heap[q]?=W5.heap[q]?:=λq hq aM=>(SC.block q (by show q<(W5.alloc o).heap.size;simp;omega) (λe'=>aM e'.symm)).trans (heap_alloc W5 o q hq);have y1:=(cell?_of_block (a:=⟨Y,0,none⟩) (ts Y zV (uh rj).1)).trans b0;have y2:=(cell?_of_block (a:=⟨eD,0,none⟩) (ts eD RZ (uh rj).2.1)).trans gJ;have y3:=k3.cell 2 rfl;refine⟨k1,y3,by rw[hc,Kl],k2.frozenAt k,y1,y2,λu=>⟨?_,?_,?_⟩⟩
         .exact(cell?_of_block (a:=⟨RB,2,none⟩) (heap_setCell _ _ _ _ (uh rj).2.2.1)).trans y3
         .exact(cell?_of_block (a:=⟨Y,0,none⟩) (heap_setCell _ _ _ _ (uh rj).2.2.2.1)).trans y1
         .exact(cell?_of_block (a:=⟨eD,0,none⟩) (heap_setCell _ _ _ _ (uh rj).2.2.2.2)).trans y2)
        have a3:∀(o:Obj),(W5.alloc o).cell? ⟨Y,0,none⟩=some (.pointer (some ⟨eD,0,none⟩)):=λo=>(cell?_of_block (a:=⟨Y,0,none⟩) (heap_alloc W5 o _ zV)).trans b0;have a4:∀(o:Obj),(W5.alloc o).cell? ⟨eD,0,none⟩=some (.pointer (some ⟨eA,0,none⟩)):=λo=>(cell?_of_block (a:=⟨eD,0,none⟩) (heap_alloc W5 o _ RZ)).trans gJ;have aha:=ab (zq2 Ie (zq2 C9 (zq2 bA (zq2 ar (zq2 wU (zq2 hG3 (zq2 bf SF)))))));have hm2t:ML.length+1<=2000000000000:=(by omega);clear Kl eU KK kK Ie QQ PR HAK WI CD bA HQ1 C9 HEA rj UW SF Vx fC V4 Jo wU wK AY hG3 Jr NE ajK ajL vt P6 hRw ar bf Qi wP hkB zV RZ hd gx DX ht YS uN hy0 hy1 hy2;go_region_law (refine JV _ rfl (.tmp 86) (.tmp 92) 125 rfl 0 126 i0 _ 1 8 underlying125 iy dG du ef rfl (by decide) (.slice fa ML.length fc) ML.length (ML.map FE.p) (by simp[Act.eval]) ((uh ii).alloc _) ⟨W5.heap.size,0,none⟩ 1 [.pointer (some ⟨eA,0,none⟩)] (by simp[Act.eval]) rfl (aJ W5 _ rfl [.pointer (some ⟨eA,0,none⟩)] _) (by intro u hu;simp only[mem_singleton]at hu;subst hu;rfl) hm2t (by decide) (zq5 _) ?_;intro g2 cap2 w2 aZ aI cE;obtain⟨I8,kH,Bj,pp,D8,hk6,hk7⟩:=uh HKN w2 g2 cap2 _ aZ aI cE;have uH:=ab I8;clear aZ aI cE I8 hk7)
        all_goals
         obtain⟨Ie,C9,bA,ar,wU,hG3,bf,SF⟩:=uh aha;go_wp2_with fail
         go_roundg (G3-1)
         case rel=>exact⟨j+1,_,_,by omega,by go_num,ab ⟨(uh uH).of_eq (λ_ _=>rfl) ⟨(uh uH).bl.os,(uh uH).bl.tape,(uh uH).bl.output,(uh uH).bl.size,(uh uH).bl.block⟩,by rw[length_set];exact(uh C9).1,by
          rw[uh bA,getD_eq_getElem?_getD,getElem?_set_self (by rw[(uh C9).1];exact ar)];rfl,λi hi=>by
          rw[getD_eq_getElem?_getD,getElem?_set_ne (λe'=>hi e'.symm),<-getD_eq_getElem?_getD];exact(uh C9).2 i hi⟩⟩
         case measure=>omega
       .have DX:decide ((j:Int)<(l.length:Int))=false:=(by simp;omega);have HN:Hid (Rz w wr RB (C2 (lH s.wr (k+1))) av2 (.slice (some ⟨kB,0,none⟩) K.length K.length) (lH s.wr (k+1)) FV' L'/\L'.length=K.length/\(∀i,i<k+1->L'.getD i []=(K.getD i []).map (·.x))/\∀i,k+1<=i->L'.getD i []=[]):=ab ⟨by rw[<-uh HAK];exact r1,r2,λi hi=>by
          by_cases e:i=k
          .rw[e,r3,take_of_length_le (by omega),<-(uh PR).1]
          .rw[r4 i e];exact(uh Ie).2.1 i (by omega),λi hi=>by rw[r4 i (by omega)];exact(uh Ie).2.2 i (by omega)⟩
        clear r1 r2 r3 r4 hJ;go_wp2_with fail
        go_roundg (G1-1)
        case rel=>exact⟨k+1,av2,FV',L',by omega,by go_num,HN⟩
        case measure=>omega
   .have hd:decide ((k:Int)<(K.length:Int))=false:=(by simp;omega);have HP:Hid (dQ RB wr):=ab (by
     rw[uh eU,uh KK];have hk:k=s.wr.length:=(by rw[(uh H).wl];omega);refine⟨av,_,FV,L,by rw[<-hk];exact h1,?_,λl hl x hx=>?_⟩
     .show _=s.kn.map _;rw[(uh H).km,map_map];apply ext_getElem?;intro i;rw[getElem?_map,getElem?_map];by_cases hi:i<K.length
      .have h5:=h3 i (by rw[hk,(uh H).wl];exact hi);rw[bp (by omega),bp hi]at h5;rw[getElem?_eq_getElem (by omega),getElem?_eq_getElem hi];simp only[Option.map_some,h5,map_map,Function.comp_apply];rfl
      .rw[getElem?_eq_none (by omega),getElem?_eq_none (by omega)];rfl
     .obtain⟨i,hi,rfl⟩:=mem_iff_getElem.1 hl;have h5:=h3 i (by rw[hk,(uh H).wl];omega);rw[bp hi,bp (by omega)]at h5;rw[h5]at hx;obtain⟨e,he,rfl⟩:=mem_map.1 hx;exact⟨_,getElem_mem (by omega),e,he,rfl⟩)
    clear h1 h2 h3 h4 hsW hI;go_wp2_with fail
    go_ret;exact⟨RB,rfl,uh HP⟩
end
