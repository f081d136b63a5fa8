import Derived.Test.YtciihepbeacppaaGreatM26
set_option maxRecDepth 100000
set_option maxHeartbeats 0
namespace Go.Proofs.YtciihepbeacppaaGreat
open Tryz Go.RowKit List World Below
set_option linter.unusedVariables false
section
variable {P:Program} (w:World)
theorem LQ {ops:Array Oper} {o:Oper} {a:Act} {K:Act->World->Prop} {Q:Exit->Act->World->Prop} {E:Prop}
  (hg:o.guard=none) (s x:Operand) (t:TypeId) (pw:o.op=Op.call { callee:=Callee.builtin Builtin.append,args:=#[s,x],argTypes:=#[t,t] })
  (base:Nat) (e:TypeId) (i:TypeInfo) (z:Value) (size bytes:Nat) (ht:P.underlying t=some (.slice e)) (hi:P.info? e=some i) (hz:i.zero=some z)
  (jS:i.size=size) (FK:i.bytes=bytes) (Lg:z.cells.size=size) (mP:0<size)
  (v:Value) (n:Nat) (xs:List Value) (hs:a.eval s=v) (aL:w.ownsRow base e size v n xs)
  (ad:Addr) (c:Nat) (news:List Value) (hx:a.eval x=.slice (some ad) 1 c) (hl:news.length=size) (iI:∀j u,news[j]?=some u->w.cell? (ad.add j)=some u) (h1:∀u∈news,u.oneCell'=true)
  (KA:n+1<=2000000000000) (hb:bytes<=16) (gJ:base<=w.heap.size)
  (hK:∀g cap w',w'.ownsRow base e size (.slice (some ⟨g,0,none⟩) (n+1) cap) (n+1) (xs++news)->w.grownBy w' v.ownBlock->(some g=v.ownBlock\/g=w.heap.size)->K (a.put o.dst (.slice (some ⟨g,0,none⟩) (n+1) cap)) w') :
  if Region.wanted o (yielded ops a.tmps)=true then Oper.wp P o a w K Q else E:=by
 have hw:Region.wanted o (yielded ops a.tmps)=true:=by simp[Region.wanted,hg]
 rw[if_pos hw];obtain⟨v',w',Gb,r1,r2,r3,g,cap,rfl⟩:=D6 (P:=P) w base t o.type e i z size bytes ht hi hz jS FK Lg mP v n xs aL ad c news hl iI h1 KA hb gJ;unfold Oper.wp;simp[execOp,pw,resolve,invoke,builtin,hs,hx,Gb,Result.andThen];exact hK g cap w' r1 r2 (by simpa[Value.ownBlock] using r3)
end
section
variable {w:World} {S:Nat} {c:Cd} {c0 hv kv wv:Value} {KV WV:List Value} {K:List (List En)} {s:Sr}
theorem Wn(al:List (Nat × Nat))(p:Nat × Nat):ET (al++[p])=1:=by unfold ET;rw[if_neg (by simp)]
def YN(w:World)(K:List (List En))(r:Rs)(RB:Nat)(w':World):Prop:=∃av kv FV L,Rz w w' RB r.vd av kv r.al FV L/\L.map (λl=>l.map (λx=>x.f))=r.kn/\∀l∈L,∀x∈l,∃l0∈K,∃e∈l0,e.x=x
theorem LL(h:Sh w S c c0 hv kv wv KV WV K s)(yi:K.length<=100000)(nX:∀l∈K,l.length<=tH+1):
  Calls prog 143 #[.pointer (some ⟨S,0,none⟩)] w λe w'=>∃RB,e=.returned (.pointer (some ⟨RB,0,none⟩))/\YN w K (CB s) RB w':=by
 obtain⟨i0,lw,gY,gz,gL⟩:=info_parts infoPF;obtain⟨j0,hj0,hy0,UU,EL⟩:=info_parts infoAl;obtain⟨ka,kC,SH,alz,alA⟩:=am h.kr;subst SH;have c8:=h.bs.cell 8 rfl;have c3:=h.bs.cell 3 rfl;have SA:=h.bs.lt;obtain⟨eI,dL⟩:∃eI:Nat->World->Prop,eI=λRB w'=>YN w K (CB s) RB w':=⟨_,rfl⟩;have gD:=ab dL;rw[show(fun(e:Ending) (w':World)=>∃RB,e=.returned (.pointer (some ⟨RB,0,none⟩))/\YN w K (CB s) RB w')=(λe w'=>∃RB,e=.returned (.pointer (some ⟨RB,0,none⟩))/\eI RB w') by rw[dL]];have H:=ab h;have mR:=ab nX;clear h dL nX;cases dY:s.fu
 rotate_left
 .rw[dY]at c8;have HP:Hid (eI w.heap.size (w.alloc (.cells #[Value.int .i64 2,.slice none 0 0,.slice none 0 0] 118))):=ab (by
   rw[uh gD];have e:CB s=⟨2,[],[]⟩:=(by unfold CB;rw[if_pos dY]);rw[e];refine⟨aJ,aJ,[],[],⟨Bk.new w _ _,⟨rfl,.inl ⟨rfl,rfl⟩⟩,⟨rfl,.inl ⟨rfl,rfl⟩⟩,λi hi=>by simp at hi,λi j k hi hj=>?_,λk hk=>?_,ah w _⟩,rfl,λl hl=>by simp at hl⟩
   .rcases zJ hi with⟨a,-⟩|⟨-,a⟩|⟨-,a⟩|⟨q,hq,-⟩
    .rcases zJ hj with⟨b,-⟩|⟨-,b⟩|⟨-,b⟩|⟨q,hq,-⟩
     .rw[a,b]
     .cases b
     .cases b
     .simp at hq
    .cases a
    .cases a
    .simp at hq
   .obtain⟨i,hi⟩:=aU.1 hk;rcases zJ hi with⟨-,a⟩|⟨-,a⟩|⟨-,a⟩|⟨q,hq,-⟩
    .omega
    .cases a
    .cases a
    .simp at hq)
  clear dY;go_enter func143,ntmps143;go_wp2_with fail
  go_ret;exact⟨_,rfl,uh HP⟩
 .rw[dY]at c8;have HRS:Hid (CB s=⟨ET (nS s.wr s.wr.length),nS s.wr s.wr.length,s.kn.map (λl=>l.map (·.f))⟩):=ab (by unfold CB;rw[if_neg (by rw[dY];decide),Hk];rfl);have hmk:=run_make_row' (P:=prog) 116 125 (.slice none 0 0) 24 underlying116 infoFs rfl .i64 .i64 K.length (by omega) (by omega);clear dY;go_enter func143,ntmps143;go_upto_region 4 with fail;obtain⟨W1,d9⟩:∃W1,W1=w.alloc (.cells #[Value.int .i64 0,.slice none 0 0,.slice none 0 0] 118):=⟨_,rfl⟩;have cf:Below w.heap.size w W1:=by rw[d9];exact ah w _
  have iC:Bk W1 w.heap.size 118 [.int .i64 0,.slice none 0 0,.slice none 0 0]:=by rw[d9];exact Bk.new w _ _
  obtain⟨RB,ZT⟩:∃RB,RB=w.heap.size:=⟨_,rfl⟩;rw[<-ZT]at iC;have hRw:w.heap.size<=RB:=by omega
  have gb:=ab (zq2 cf iC);have d3:=(cf.cell SA).trans c3;rw[<-d9,<-ZT];clear d9 cf iC ZT c8 c3;go_cut [] (λwx=>∃kB,Hid (Rz w wx RB (ET (nS s.wr 0)) aJ (.slice (some ⟨kB,0,none⟩) K.length K.length) (nS s.wr 0) (replicate K.length aJ) (replicate K.length [])))
  case first =>
   obtain⟨hb,iC⟩:=uh gb;have e1:=(iC.alloc (.cells (madeCells #[Value.slice none 0 0] K.length) 125)).cell 2 rfl;have z1:=(iC.alloc (.cells (madeCells #[Value.slice none 0 0] K.length) 125)).frz 2;have KH:=iC.lt;have bq:((W1.alloc (.cells (madeCells #[Value.slice none 0 0] K.length) 125)).setCell ⟨RB,2,none⟩ (.slice (some ⟨W1.heap.size,0,none⟩) K.length K.length)).ownsRow 0 125 1 (.slice (some ⟨W1.heap.size,0,none⟩) K.length K.length) K.length (replicate K.length aJ):=by
    have h2:=ownsRow_lit (base:=0) (e:=125) (size:=1) W1 (madeCells #[Value.slice none 0 0] K.length) K.length (zq5 _) (by simp[maxLen];omega) (by simp[madeCells]);rw[toList_madeCells_one]at h2;exact cF h2 (p:=⟨RB,2,none⟩) (by show some W1.heap.size≠some RB;intro e;injection e with e;omega) _
   have tM:∀j,(replicate K.length aJ).getD j aJ=aJ:=λj=>by
    by_cases hj:j<K.length
    .simp[hj]
    .rw[getD_eq_getElem?_getD,getElem?_eq_none (by rw[length_replicate];omega)];rfl
   have XD:∀j,(replicate K.length ([]:List FE)).getD j []=[]:=λj=>by
    by_cases hj:j<K.length
    .simp[hj]
    .rw[getD_eq_getElem?_getD,getElem?_eq_none (by rw[length_replicate];omega)];rfl
   have HN:Hid (Rz w ((W1.alloc (.cells (madeCells #[Value.slice none 0 0] K.length) 125)).setCell ⟨RB,2,none⟩ (.slice (some ⟨W1.heap.size,0,none⟩) K.length K.length)) RB (ET (nS s.wr 0)) aJ (.slice (some ⟨W1.heap.size,0,none⟩) K.length K.length) (nS s.wr 0) (replicate K.length aJ) (replicate K.length [])):=ab (by
    have iJ:∀i k,(tT RB aJ (.slice (some ⟨W1.heap.size,0,none⟩) K.length K.length) (replicate K.length aJ))[i]?=some (some k)->i=0/\k=RB\/i=2/\k=W1.heap.size:=λi k hi=>by
     rcases zJ hi with a|⟨-,a⟩|⟨b,a⟩|⟨q,hq,-,a⟩
     .exact zq0 a
     .cases a
     .exact zq1 ⟨b,by injection a with a;exact a.symm⟩
     .rw[tM]at a;cases a
    refine⟨(iC.alloc (.cells (madeCells #[Value.slice none 0 0] K.length) 125)).set 2 _,⟨rfl,.inl ⟨rfl,rfl⟩⟩,by rw[length_replicate];exact bq,λi hi=>by rw[tM,XD];exact⟨rfl,.inl ⟨rfl,rfl⟩⟩,λi j k hi hj=>?_,λk hk=>?_,(hb.trans ((ah W1 _).mono hb.size)).setCell (p:=⟨RB,2,none⟩) hRw _⟩
    .have a1:=iJ i k hi;have a2:=iJ j k hj;omega
    .obtain⟨i,hi⟩:=aU.1 hk;have a1:=iJ i k hi;have:=hb.size;omega)
   clear hb iC KH bq tM XD;go_wp2_with fail
   go_meet
   exact⟨_,HN⟩
  case rest =>
  obtain⟨kB,Sy⟩:=hcut;clear d3 gb;have cG:Hid (Rz w wc RB (ET (nS s.wr 0)) aJ (.slice (some ⟨kB,0,none⟩) K.length K.length) (nS s.wr 0) (replicate K.length aJ) (replicate K.length [])/\(replicate K.length ([]:List FE)).length=K.length/\(∀i,i<0->(replicate K.length ([]:List FE)).getD i []=(K.getD i []).map (·.x))/\∀i,0<=i->(replicate K.length ([]:List FE)).getD i []=[]):=ab ⟨uh Sy,length_replicate,λi hi=>by omega,λj _=>by
    by_cases hj:j<K.length
    .simp[hj]
    .rw[getD_eq_getElem?_getD,getElem?_eq_none (by rw[length_replicate];omega)];rfl⟩
  clear Sy;go_wp2_with fail
  go_loopg [4] K.length (λgn iv wx=>∃(k:Nat) (av:Value) (FV:List Value) (L:List (List FE)),k+gn=K.length/\iv=.int .i64 k/\Hid (Rz w wx RB (ET (nS s.wr k)) av (.slice (some ⟨kB,0,none⟩) K.length K.length) (nS s.wr k) FV L/\L.length=K.length/\(∀i,i<k->L.getD i []=(K.getD i []).map (·.x))/\∀i,k<=i->L.getD i []=[]))
  case atStart=>exact⟨0,_,_,_,by omega,rfl,cG⟩
  case round =>
   clear cG;obtain⟨k,av,FV,L,gw,rfl,hI⟩:=hrel;obtain⟨G1,zi⟩:∃G1,G1=gk:=⟨_,rfl⟩;obtain⟨h1,h2,h3,h4⟩:=uh hI;have hsW:=(uh H).below h1.bl;have c3:=hsW.bs.cell 3 rfl;by_cases au:k<K.length
   .have hd:decide ((k:Int)<(K.length:Int))=true:=(by simp;omega);have oP:Hid (Rz w wr RB (ET (nS s.wr k++yO s.wr k 2)) av (.slice (some ⟨kB,0,none⟩) K.length K.length) (nS s.wr k++yO s.wr k 2) FV L):=ab (by rw[Tu,append_nil];exact h1);have J7:=ab (zq2 h2 (zq2 h3 h4));obtain⟨wB,wC,gA,cA,SM,Ux,-,-,-⟩:=(uh H).wc au;subst SM;have To:=ab Ux;have i1:(0:Int)<=(k:Int):=(by omega);have i2:(k:Int)<(K.length:Int):=(by omega);have m6:=Ab s.wr k;clear h1 h2 h3 h4 hsW hI Ux;go_wp2_with fail
    go_loopg [5] 3 (λgn iv wx=>∃(t:Nat) (av:Value),t+gn=5/\2<=t/\iv=.int .i64 t/\Hid (Rz w wx RB (ET (nS s.wr k++yO s.wr k t)) av (.slice (some ⟨kB,0,none⟩) K.length K.length) (nS s.wr k++yO s.wr k t) FV L))
    case atStart=>exact⟨2,av,by omega,by omega,rfl,oP⟩
    case round =>
     clear oP c3;obtain⟨t,av2,XL,Ld,rfl,hJ⟩:=hrel;obtain⟨G2,FD⟩:∃G2,G2=gk:=⟨_,rfl⟩;have hsW:=(uh H).below (uh hJ).bl;by_cases ht:t<5
     .have k6:decide ((t:Int)<=(4:Int))=true:=(by simp;omega);obtain⟨s4,sw,stt,-⟩:=hsW.wcs au (uh To);have st:=stt t ht;clear stt;have fD:=M2 s.wr k Ld ht;have dO:(nS s.wr k++yO s.wr k t).length<=900000:=by
       rw[length_append];have:=Hm s.wr k t;omega
      have t1:(0:Int)<=(t:Int):=(by omega);have t2:(t:Int)<(5:Int):=(by omega);cases jx:(s.wr.getD k []).getD t false
      .rw[jx]at st fD;rw[if_neg (by decide),append_nil]at fD;have HN:Hid (Rz w wr RB (ET (nS s.wr k++yO s.wr k (t+1))) av2 (.slice (some ⟨kB,0,none⟩) K.length K.length) (nS s.wr k++yO s.wr k (t+1)) FV L):=ab (by rw[fD];exact uh hJ);clear hsW fD jx hJ;go_wp2_with fail
       go_roundg (G2-1)
       case rel=>exact⟨t+1,_,by omega,by omega,by go_num,HN⟩
       case measure=>omega
      .rw[jx]at st fD;rw[if_pos rfl]at fD;obtain⟨al,Z1⟩:∃al,al=nS s.wr k++yO s.wr k t:=⟨_,rfl⟩;rw[<-Z1]at hJ dO;have e0:=(uh hJ).bk.cell 0 rfl;have z0:=(uh hJ).bk.frz 0;have h5:=(uh hJ).verd;obtain⟨W5,s9⟩:∃W5,W5=wr.setCell ⟨RB,0,none⟩ (.int .i64 1):=⟨_,rfl⟩;rw[<-s9]at h5;have e1:=h5.bk.cell 1 rfl;obtain⟨aa,ac,kt,-,-⟩:=am h5.al;subst kt;have H5:=ab h5;have di:Hid (nS s.wr k++yO s.wr k (t+1)=al++[(k,t)]):=ab (by rw[fD,<-append_assoc,Z1]);clear hsW fD jx hJ h5 Z1;go_upto_region 13 with fail;rw[<-s9];clear s9 e0 z0;go_wp2_with (at_builtin;refine aS _ rfl (.tmp 55) (.tmp 59) 55 rfl 0 82 j0 _ 2 16 underlying55 hj0 hy0 UU EL rfl (by decide) _ al.length (xM al) rfl ((uh H5).al.alloc _) ⟨_,0,none⟩ 1 [.int .i64 (k:Int),.int .i64 (t:Int)] rfl rfl (aN _ _ (by simp) [.int .i64 (k:Int),.int .i64 (t:Int)] _) (by intro u hu;simp only[mem_cons,not_mem_nil,or_false]at hu;rcases hu with rfl|rfl <;> rfl) (by omega) (by omega) (zq5 _) ?_)
       intro g7 cap7 w7 iM dN gi;obtain⟨h7,hb7⟩:=((uh H5).below (ah W5 _)).alarm (p:=(k,t)) iM dN (by simpa using gi);have e7:=hb7.cell 1 rfl;have z7:=hb7.frz 1;have HN:Hid (Rz w (w7.setCell ⟨RB,1,none⟩ (.slice (some ⟨g7,0,none⟩) (al.length+1) cap7)) RB (ET (nS s.wr k++yO s.wr k (t+1))) (.slice (some ⟨g7,0,none⟩) (al.length+1) cap7) (.slice (some ⟨kB,0,none⟩) K.length K.length) (nS s.wr k++yO s.wr k (t+1)) FV L):=ab (by rw[uh di,Wn];exact h7);clear iM dN gi h7 hb7 H5;go_wp2_with fail
       go_roundg (G2-1)
       case rel=>exact⟨t+1,_,by omega,by omega,by go_num,HN⟩
       case measure=>omega
     .have k6:decide ((t:Int)<=(4:Int))=false:=(by simp;omega);have ht5:t=5:=(by omega);have hR5:Rz w wr RB (ET (nS s.wr (k+1))) av2 (.slice (some ⟨kB,0,none⟩) K.length K.length) (nS s.wr (k+1)) FV L:=by
       have h9:=uh hJ;rw[ht5,CI,<-CH]at h9;exact h9
      obtain⟨kB',kC',qJ,ckc⟩:=hsW.kc au;simp only[Value.slice.injEq,true_and]at qJ;obtain⟨rfl,rfl⟩:=qJ;obtain⟨l,hl⟩:∃l,l=K.getD k []:=⟨_,rfl⟩;have hlK:l∈K:=(by rw[hl,bG au];exact getElem_mem au);have EH:l.length<=1000000000001:=(by have h9:=uh mR l hlK;unfold tH at h9;omega);have kI:=(uh H).ke k au;rw[<-hl]at kI;obtain⟨va,vc,AP,PQ,UQ⟩:=am kI;rw[AP]at ckc kI;have s3:=hsW.bs.cell 3 rfl;obtain⟨L0,hL0⟩:∃L0,L0=L:=⟨_,rfl⟩;have ZN:L.getD k []=(l.take 0).map (·.x):=(by rw[(uh J7).2.2 k (zq4 _)];rfl);have oP:Hid (Rz w wr RB (ET (nS s.wr (k+1))) av2 (.slice (some ⟨kB,0,none⟩) K.length K.length) (nS s.wr (k+1)) FV L/\L.length=K.length/\L.getD k []=(l.take 0).map (·.x)/\∀i,i≠k->L.getD i []=L0.getD i []):=ab ⟨hR5,(uh J7).1,ZN,λi _=>by rw[hL0]⟩;rw[<-hL0]at J7;have WD:=ab kI;have Sg:=ab (zq2 hl hlK);obtain⟨AK,hAK⟩:∃AK,AK=nS s.wr (k+1):=⟨_,rfl⟩;rw[<-hAK]at oP;have HAK:=ab hAK;clear hJ hsW ht5 hR5 hl hlK kI AP hL0 ZN hAK m6;go_wp2_with fail
      go_loopg [71] l.length (λgn iv wx=>∃(j:Nat) (FV':List Value) (L':List (List FE)),j+gn=l.length/\iv=.int .i64 j/\Hid (Rz w wx RB (ET AK) av2 (.slice (some ⟨kB,0,none⟩) K.length K.length) AK FV' L'/\L'.length=K.length/\L'.getD k []=(l.take j).map (·.x)/\∀i,i≠k->L'.getD i []=L0.getD i []))
      case atStart=>exact⟨0,FV,L,by omega,rfl,oP⟩
      case round =>
       clear oP ckc s3;obtain⟨j,FV',L',Cs,rfl,hJ⟩:=hrel;obtain⟨G3,hG3⟩:∃G3,G3=gk:=⟨_,rfl⟩;obtain⟨r1,r2,r3,r4⟩:=uh hJ;by_cases b8:j<l.length
       .have hd3:decide ((j:Int)<(l.length:Int))=true:=(by simp;omega);have ki:=eZ (uh WD) r1.bl;obtain⟨g,cap,dF,-,-⟩:=b9 ki (by omega);simp only[Value.slice.injEq,true_and]at dF;obtain⟨rfl,rfl⟩:=dF;obtain⟨x0,x1⟩:=mV ki rfl b8;have zm:=(uh H).dr l (uh Sg).2 l[j] (getElem_mem b8);obtain⟨e,Mn⟩:∃e,e=l[j]:=⟨_,rfl⟩;rw[<-Mn]at x0 x1 zm;obtain⟨W5,s9⟩:∃W5,W5=wr.alloc (.cells #[Value.pointer (some ⟨e.D,0,none⟩),.bool e.d] 258):=⟨_,rfl⟩;have cf:Below wr.heap.size wr W5:=(by rw[s9];exact ah wr _);have m0:Bk W5 wr.heap.size 258 [Value.pointer (some ⟨e.D,0,none⟩),.bool e.d]:=(by rw[s9];exact Bk.new wr _ _);obtain⟨Y,xP⟩:∃Y,Y=wr.heap.size:=⟨_,rfl⟩;rw[<-xP]at m0;have q1:=r1.below cf;have eu:=q1.bl;have fq:=(eu.cell (block_lt_of_cell? w _ zm.1.fo)).trans zm.1.fo;have bq:=q1.ke k (by omega);have jx:=q1.fl;have aP:(l.take (j+1)).map (λe=>e.x)=(l.take j).map (λe=>e.x)++[e.x]:=(by rw[take_succ_eq_append_getElem b8,map_append,Mn];rfl);rw[r3]at bq;obtain⟨fa,fc,Xy,-,-⟩:=am bq;obtain⟨ML,ZO⟩:∃ML,ML=(l.take j).map (λe=>e.x):=⟨_,rfl⟩;rw[<-ZO]at bq Xy aP r3;have Su:ML.length<=l.length:=(by rw[ZO,length_map,length_take];omega);have b0:=m0.cell 0 rfl;have k2c:=q1.bk.cell 2 rfl;have KH:=q1.bk.lt;have IH:=q1.kr;rw[r2]at IH;have hkB:=(IH.lt kB rfl).2;have ckn:=IH.cellAt k (by omega);have hnk:k<FV'.length:=(by omega);rw[getElem?_eq_getElem hnk]at ckn;have hgk:FV'[k]=.slice fa ML.length fc:=(by rw[<-Xy,bG hnk]);rw[hgk]at ckn;have Xn:=m0.lt;have hDl:=block_lt_of_cell? W5 _ fq;have a1:∀(q:Nat) (o:Obj),((W5.drewN q).alloc o).cell? ⟨RB,2,none⟩=some (.slice (some ⟨kB,0,none⟩) K.length K.length):=λq o=>(cell?_of_block (a:=⟨RB,2,none⟩) (heap_alloc (W5.drewN q) o _ KH)).trans k2c;have a2:∀(q:Nat) (o:Obj),((W5.drewN q).alloc o).cell? ⟨kB,k,none⟩=some (.slice fa ML.length fc):=λq o=>(cell?_of_block (a:=⟨kB,k,none⟩) (heap_alloc (W5.drewN q) o _ hkB)).trans ckn;have kj:Hid (W5.ownsRow 0 126 1 (.slice fa ML.length fc) ML.length (ML.map FE.p)):=ab (by rw[<-Xy];exact bq);have Yq:=ab Xy;have L6:=ab r3;have di:=ab aP;have HQ1:=ab q1;have E1:=ab (zq2 r2 r4);obtain⟨eA,heA⟩:∃eA,eA=e.x.A:=⟨_,rfl⟩;have HEA:=ab heA;rw[<-heA]at fq;obtain⟨eD,heD⟩:∃eD,eD=e.D:=⟨_,rfl⟩;rw[<-heD]at fq b0 x0 hDl;have tY:Hid ((Value.slice fa ML.length fc).ownBlock≠some Y/\(Value.slice fa ML.length fc).ownBlock≠some eD/\RB≠kB/\Y≠kB/\eD≠kB):=ab (by
         have hm:∀q,(Value.slice fa ML.length fc).ownBlock=some q->w.heap.size<=q/\q<wr.heap.size:=λq hq=>by
          have gX:q∈Ua (tT RB av2 (.slice (some ⟨kB,0,none⟩) K.length K.length) FV'):=aU.2 ⟨3+k,(GI hnk).trans (by rw[Xy];exact congrArg some hq)⟩;exact⟨r1.ge q gX,r1.lt q gX⟩
         have th:kB∈Ua (tT RB av2 (.slice (some ⟨kB,0,none⟩) K.length K.length) FV'):=aU.2 ⟨2,rfl⟩;have Dl:=r1.ge kB th;have EI:=r1.lt kB th;have h9:=block_lt_of_cell? w _ zm.1.fo;simp only at h9;rw[<-heD]at h9;refine⟨λe'=>?_,λe'=>?_,λe'=>?_,λe'=>?_,λe'=>?_⟩
         .have:=hm Y e';omega
         .have h8:=hm eD e';omega
         .have:=r1.ap 0 2 RB rfl (by rw[e'];rfl);omega
         .omega
         .omega)
        rw[<-heD]at s9;have k1:(0:Int)<=(j:Int):=(by omega);have k2:(j:Int)<(l.length:Int):=(by omega);clear ki zm Mn cf m0 bq Xy aP ZO r1 r2 r3 r4 hJ q1 eu IH heA heD jx;go_upto_region 17 with fail;rw[<-s9,<-xP];clear s9 xP x0 x1;have a1:∀(o:Obj),(W5.alloc o).cell? ⟨RB,2,none⟩=some (.slice (some ⟨kB,0,none⟩) K.length K.length):=λo=>(cell?_of_block (a:=⟨RB,2,none⟩) (heap_alloc W5 o _ KH)).trans k2c;have a2:∀(o:Obj),(W5.alloc o).cell? ⟨kB,k,none⟩=some (.slice fa ML.length fc):=λo=>(cell?_of_block (a:=⟨kB,k,none⟩) (heap_alloc W5 o _ hkB)).trans ckn;have HKN:Hid (∀(w2:World) (g2 cap2:Nat) (o:Obj),w2.ownsRow 0 126 1 (.slice (some ⟨g2,0,none⟩) (ML.length+1) cap2) (ML.length+1) (ML.map FE.p++[.pointer (some ⟨eA,0,none⟩)])->(W5.alloc o).drew.grownBy w2 (Value.slice fa ML.length fc).ownBlock->(some g2=(Value.slice fa ML.length fc).ownBlock\/g2=(W5.alloc o).drew.heap.size) ->
          (Rz w (w2.setCell ⟨kB,k,none⟩ (.slice (some ⟨g2,0,none⟩) (ML.length+1) cap2)) RB (ET AK) av2 (.slice (some ⟨kB,0,none⟩) K.length K.length) AK (FV'.set k (.slice (some ⟨g2,0,none⟩) (ML.length+1) cap2)) (L'.set k (ML++[e.x])))/\w2.cell? ⟨RB,2,none⟩=some (.slice (some ⟨kB,0,none⟩) K.length K.length)/\w2.cell? ⟨kB,k,none⟩=some (.slice fa ML.length fc)/\w2.frozen? ⟨kB,k,none⟩=false/\w2.cell? ⟨Y,0,none⟩=some (.pointer (some ⟨eD,0,none⟩))/\w2.cell? ⟨eD,0,none⟩=some (.pointer (some ⟨eA,0,none⟩))/\∀u,(w2.setCell ⟨kB,k,none⟩ u).cell? ⟨RB,2,none⟩=some (.slice (some ⟨kB,0,none⟩) K.length K.length)/\(w2.setCell ⟨kB,k,none⟩ u).cell? ⟨Y,0,none⟩=some (.pointer (some ⟨eD,0,none⟩))/\(w2.setCell ⟨kB,k,none⟩ u).cell? ⟨eD,0,none⟩=some (.pointer (some ⟨eA,0,none⟩))):=ab (λw2 g2 cap2 o aL UD cL=>by
         have hq:=(uh HQ1).below ((ah W5 o).drew);have ki:=(uh E1).1;have AQ:e.x.p=.pointer (some ⟨eA,0,none⟩):=(by rw[uh HEA];rfl);rw[<-AQ,<-uh L6]at aL;have hk:=hq.know (n:=k) (kB:=kB) (kC:=K.length) (x:=e.x) (g:=g2) (c:=cap2) (by omega) (by rw[ki]) aL (by rw[uh Yq];exact UD) (by rw[uh Yq];exact cL);rw[uh L6]at hk;obtain⟨k1,k2,k3⟩:=hk;rw[ki]at k2;have hc:=k2.cellAt k (by omega);rw[getElem?_eq_getElem hnk]at hc;have tN:∀q,q<W5.heap.size->(Value.slice fa ML.length fc).ownBlock≠some q->w2.heap[q]?=W5.heap[q]?:=λq hq aH=>(UD.block q (by show q<(W5.alloc o).heap.size;simp;omega) (λe'=>aH e'.symm)).trans (heap_alloc W5 o q hq);have y1:=(cell?_of_block (a:=⟨Y,0,none⟩) (tN Y Xn (uh tY).1)).trans b0;have y2:=(cell?_of_block (a:=⟨eD,0,none⟩) (tN eD hDl (uh tY).2.1)).trans fq;have y3:=k3.cell 2 rfl;refine⟨k1,y3,by rw[hc,hgk],k2.frozenAt k,y1,y2,λu=>⟨?_,?_,?_⟩⟩
         .exact(cell?_of_block (a:=⟨RB,2,none⟩) (heap_setCell _ _ _ _ (uh tY).2.2.1)).trans y3
         .exact(cell?_of_block (a:=⟨Y,0,none⟩) (heap_setCell _ _ _ _ (uh tY).2.2.2.1)).trans y1
         .exact(cell?_of_block (a:=⟨eD,0,none⟩) (heap_setCell _ _ _ _ (uh tY).2.2.2.2)).trans y2)
        have a3:∀(o:Obj),(W5.alloc o).cell? ⟨Y,0,none⟩=some (.pointer (some ⟨eD,0,none⟩)):=λo=>(cell?_of_block (a:=⟨Y,0,none⟩) (heap_alloc W5 o _ Xn)).trans b0;have a4:∀(o:Obj),(W5.alloc o).cell? ⟨eD,0,none⟩=some (.pointer (some ⟨eA,0,none⟩)):=λo=>(cell?_of_block (a:=⟨eD,0,none⟩) (heap_alloc W5 o _ hDl)).trans fq;have ajn:=ab (zq2 J7 (zq2 E1 (zq2 di (zq2 au (zq2 Cs (zq2 hG3 (zq2 b8 EH)))))));have hm2t:ML.length+1<=2000000000000:=(by omega);clear hgk gD HRS mR J7 To Sg HAK Yq L6 di HQ1 E1 HEA tY WD EH Su gw XL Ld Cs zi FD hG3 PQ UQ alz alA yi SA hRw au b8 hnk KH hkB Xn hDl hd k6 hd3 ht hmk hj0 hy0 UU EL;go_region_law (refine LQ _ rfl (.tmp 86) (.tmp 92) 125 rfl 0 126 i0 _ 1 8 underlying125 lw gY gz gL rfl (by decide) (.slice fa ML.length fc) ML.length (ML.map FE.p) (by simp[Act.eval]) ((uh kj).alloc _) ⟨W5.heap.size,0,none⟩ 1 [.pointer (some ⟨eA,0,none⟩)] (by simp[Act.eval]) rfl (aN W5 _ rfl [.pointer (some ⟨eA,0,none⟩)] _) (by intro u hu;simp only[mem_singleton]at hu;subst hu;rfl) hm2t (by decide) (zq5 _) ?_;intro g2 cap2 w2 bt aM dX;obtain⟨Pp,mL,Di,xU,FT,hk6,hk7⟩:=uh HKN w2 g2 cap2 _ bt aM dX;have xL:=ab Pp;clear bt aM dX Pp hk7)
        all_goals
         obtain⟨J7,E1,di,au,Cs,hG3,b8,EH⟩:=uh ajn;go_wp2_with fail
         go_roundg (G3-1)
         case rel=>exact⟨j+1,_,_,by omega,by go_num,ab ⟨(uh xL).of_eq (λ_ _=>rfl) ⟨(uh xL).bl.os,(uh xL).bl.tape,(uh xL).bl.output,(uh xL).bl.size,(uh xL).bl.block⟩,by rw[length_set];exact(uh E1).1,by
          rw[uh di,getD_eq_getElem?_getD,getElem?_set_self (by rw[(uh E1).1];exact au)];rfl,λi hi=>by
          rw[getD_eq_getElem?_getD,getElem?_set_ne (λe'=>hi e'.symm),<-getD_eq_getElem?_getD];exact(uh E1).2 i hi⟩⟩
         case measure=>omega
       .have hd3:decide ((j:Int)<(l.length:Int))=false:=(by simp;omega);have HN:Hid (Rz w wr RB (ET (nS s.wr (k+1))) av2 (.slice (some ⟨kB,0,none⟩) K.length K.length) (nS s.wr (k+1)) FV' L'/\L'.length=K.length/\(∀i,i<k+1->L'.getD i []=(K.getD i []).map (·.x))/\∀i,k+1<=i->L'.getD i []=[]):=ab ⟨by rw[<-uh HAK];exact r1,r2,λi hi=>by
          by_cases e:i=k
          .rw[e,r3,take_of_length_le (by omega),<-(uh Sg).1]
          .rw[r4 i e];exact(uh J7).2.1 i (by omega),λi hi=>by rw[r4 i (by omega)];exact(uh J7).2.2 i (by omega)⟩
        clear r1 r2 r3 r4 hJ;go_wp2_with fail
        go_roundg (G1-1)
        case rel=>exact⟨k+1,av2,FV',L',by omega,by go_num,HN⟩
        case measure=>omega
   .have hd:decide ((k:Int)<(K.length:Int))=false:=(by simp;omega);have HP:Hid (eI RB wr):=ab (by
     rw[uh gD,uh HRS];have hk:k=s.wr.length:=(by rw[(uh H).wl];omega);refine⟨av,_,FV,L,by rw[<-hk];exact h1,?_,λl hl x hx=>?_⟩
     .show _=s.kn.map _;rw[(uh H).km,map_map];apply ext_getElem?;intro i;rw[getElem?_map,getElem?_map];by_cases hi:i<K.length
      .have h5:=h3 i (by rw[hk,(uh H).wl];exact hi);rw[bG (by omega),bG hi]at h5;rw[getElem?_eq_getElem (by omega),getElem?_eq_getElem hi];simp only[Option.map_some,h5,map_map,Function.comp_apply];rfl
      .rw[getElem?_eq_none (by omega),getElem?_eq_none (by omega)];rfl
     .obtain⟨i,hi,rfl⟩:=mem_iff_getElem.1 hl;have h5:=h3 i (by rw[hk,(uh H).wl];omega);rw[bG hi,bG (by omega)]at h5;rw[h5]at hx;obtain⟨e,he,rfl⟩:=mem_map.1 hx;exact⟨_,getElem_mem (by omega),e,he,rfl⟩)
    clear h1 h2 h3 h4 hsW hI;go_wp2_with fail
    go_ret;exact⟨RB,rfl,uh HP⟩
end
