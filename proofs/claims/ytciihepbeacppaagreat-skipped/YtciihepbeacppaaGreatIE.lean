import Derived.Test.YtciihepbeacppaaGreatM26
set_option maxRecDepth 100000
set_option maxHeartbeats 0
namespace Go.Proofs.YtciihepbeacppaaGreat
open Tryz Go.RowKit List World Below
set_option linter.unusedVariables false
section
variable {P:Program} (w:World)
theorem LO {ops:Array Oper} {o:Oper} {a:Act} {K:Act->World->Prop} {Q:Exit->Act->World->Prop} {E:Prop}
  (hg:o.guard=none) (s x:Operand) (t:TypeId) (pq:o.op=Op.call { callee:=Callee.builtin Builtin.append,args:=#[s,x],argTypes:=#[t,t] })
  (base:Nat) (e:TypeId) (i:TypeInfo) (z:Value) (size bytes:Nat) (ht:P.underlying t=some (.slice e)) (hi:P.info? e=some i) (hz:i.zero=some z)
  (jQ:i.size=size) (FI:i.bytes=bytes) (Le:z.cells.size=size) (mO:0<size)
  (v:Value) (n:Nat) (xs:List Value) (hs:a.eval s=v) (aL:w.ownsRow base e size v n xs)
  (ad:Addr) (c:Nat) (news:List Value) (hx:a.eval x=.slice (some ad) 1 c) (hl:news.length=size) (iG:∀j u,news[j]?=some u->w.cell? (ad.add j)=some u) (h1:∀u∈news,u.oneCell'=true)
  (Ky:n+1<=2000000000000) (hb:bytes<=16) (gI:base<=w.heap.size)
  (hK:∀g cap w',w'.ownsRow base e size (.slice (some ⟨g,0,none⟩) (n+1) cap) (n+1) (xs++news)->w.grownBy w' v.ownBlock->(some g=v.ownBlock\/g=w.heap.size)->K (a.put o.dst (.slice (some ⟨g,0,none⟩) (n+1) cap)) w') :
  if Region.wanted o (yielded ops a.tmps)=true then Oper.wp P o a w K Q else E:=by
 have hw:Region.wanted o (yielded ops a.tmps)=true:=by simp[Region.wanted,hg]
 rw[if_pos hw];obtain⟨v',w',F9,r1,r2,r3,g,cap,rfl⟩:=D4 (P:=P) w base t o.type e i z size bytes ht hi hz jQ FI Le mO v n xs aL ad c news hl iG h1 Ky hb gI;unfold Oper.wp;simp[execOp,pq,resolve,invoke,builtin,hs,hx,F9,Result.andThen];exact hK g cap w' r1 r2 (by simpa[Value.ownBlock] using r3)
end
section
variable {w:World} {S:Nat} {c:Cd} {c0 hv kv wv:Value} {KV WV:List Value} {K:List (List En)} {s:Sr}
theorem Wl(al:List (Nat × Nat))(p:Nat × Nat):ER (al++[p])=1:=by unfold ER;rw[if_neg (by simp)]
def YL(w:World)(K:List (List En))(r:Rs)(RB:Nat)(w':World):Prop:=∃av kv FV L,Rz w w' RB r.vd av kv r.al FV L/\L.map (λl=>l.map (λx=>x.f))=r.kn/\∀l∈L,∀x∈l,∃l0∈K,∃e∈l0,e.x=x
theorem LJ(h:Sh w S c c0 hv kv wv KV WV K s)(ye:K.length<=100000)(nV:∀l∈K,l.length<=tD+1):
  Calls prog 143 #[.pointer (some ⟨S,0,none⟩)] w λe w'=>∃RB,e=.returned (.pointer (some ⟨RB,0,none⟩))/\YL w K (Cy s) RB w':=by
 obtain⟨i0,lr,gX,gy,gK⟩:=info_parts infoPF;obtain⟨j0,hj0,hy0,US,EJ⟩:=info_parts infoAl;obtain⟨ka,kC,SF,alx,aly⟩:=am h.kr;subst SF;have c8:=h.bs.cell 8 rfl;have c3:=h.bs.cell 3 rfl;have Sy:=h.bs.lt;obtain⟨eH,dK⟩:∃eH:Nat->World->Prop,eH=λRB w'=>YL w K (Cy s) RB w':=⟨_,rfl⟩;have gC:=ab dK;rw[show(fun(e:Ending) (w':World)=>∃RB,e=.returned (.pointer (some ⟨RB,0,none⟩))/\YL w K (Cy s) RB w')=(λe w'=>∃RB,e=.returned (.pointer (some ⟨RB,0,none⟩))/\eH RB w') by rw[dK]];have H:=ab h;have mQ:=ab nV;clear h dK nV;cases dX:s.fu
 rotate_left
 .rw[dX]at c8;have HP:Hid (eH w.heap.size (w.alloc (.cells #[Value.int .i64 2,.slice none 0 0,.slice none 0 0] 118))):=ab (by
   rw[uh gC];have e:Cy s=⟨2,[],[]⟩:=(by unfold Cy;rw[if_pos dX]);rw[e];refine⟨aJ,aJ,[],[],⟨Bk.new w _ _,⟨rfl,.inl ⟨rfl,rfl⟩⟩,⟨rfl,.inl ⟨rfl,rfl⟩⟩,λi hi=>by simp at hi,λi j k hi hj=>?_,λk hk=>?_,ah w _⟩,rfl,λl hl=>by simp at hl⟩
   .rcases zG hi with⟨a,-⟩|⟨-,a⟩|⟨-,a⟩|⟨q,hq,-⟩
    .rcases zG hj with⟨b,-⟩|⟨-,b⟩|⟨-,b⟩|⟨q,hq,-⟩
     .rw[a,b]
     .cases b
     .cases b
     .simp at hq
    .cases a
    .cases a
    .simp at hq
   .obtain⟨i,hi⟩:=aU.1 hk;rcases zG hi with⟨-,a⟩|⟨-,a⟩|⟨-,a⟩|⟨q,hq,-⟩
    .omega
    .cases a
    .cases a
    .simp at hq)
  clear dX;go_enter func143,ntmps143;go_wp2_with fail
  go_ret;exact⟨_,rfl,uh HP⟩
 .rw[dX]at c8;have HRS:Hid (Cy s=⟨ER (nR s.wr s.wr.length),nR s.wr s.wr.length,s.kn.map (λl=>l.map (·.f))⟩):=ab (by unfold Cy;rw[if_neg (by rw[dX];decide),Hi];rfl);have hmk:=run_make_row' (P:=prog) 116 125 (.slice none 0 0) 24 underlying116 infoFs rfl .i64 .i64 K.length (by omega) (by omega);clear dX;go_enter func143,ntmps143;go_upto_region 4 with fail;obtain⟨W1,d7⟩:∃W1,W1=w.alloc (.cells #[Value.int .i64 0,.slice none 0 0,.slice none 0 0] 118):=⟨_,rfl⟩;have ce:Below w.heap.size w W1:=by rw[d7];exact ah w _
  have iA:Bk W1 w.heap.size 118 [.int .i64 0,.slice none 0 0,.slice none 0 0]:=by rw[d7];exact Bk.new w _ _
  obtain⟨RB,ZR⟩:∃RB,RB=w.heap.size:=⟨_,rfl⟩;rw[<-ZR]at iA;have hRw:w.heap.size<=RB:=by omega
  have f8:=ab (zq2 ce iA);have d3:=(ce.cell Sy).trans c3;rw[<-d7,<-ZR];clear d7 ce iA ZR c8 c3;go_cut [] (λwx=>∃kB,Hid (Rz w wx RB (ER (nR s.wr 0)) aJ (.slice (some ⟨kB,0,none⟩) K.length K.length) (nR s.wr 0) (replicate K.length aJ) (replicate K.length [])))
  case first =>
   obtain⟨hb,iA⟩:=uh f8;have e1:=(iA.alloc (.cells (madeCells #[Value.slice none 0 0] K.length) 125)).cell 2 rfl;have z1:=(iA.alloc (.cells (madeCells #[Value.slice none 0 0] K.length) 125)).frz 2;have KF:=iA.lt;have bp:((W1.alloc (.cells (madeCells #[Value.slice none 0 0] K.length) 125)).setCell ⟨RB,2,none⟩ (.slice (some ⟨W1.heap.size,0,none⟩) K.length K.length)).ownsRow 0 125 1 (.slice (some ⟨W1.heap.size,0,none⟩) K.length K.length) K.length (replicate K.length aJ):=by
    have h2:=ownsRow_lit (base:=0) (e:=125) (size:=1) W1 (madeCells #[Value.slice none 0 0] K.length) K.length (zq5 _) (by simp[maxLen];omega) (by simp[madeCells]);rw[toList_madeCells_one]at h2;exact cE h2 (p:=⟨RB,2,none⟩) (by show some W1.heap.size≠some RB;intro e;injection e with e;omega) _
   have tJ:∀j,(replicate K.length aJ).getD j aJ=aJ:=λj=>by
    by_cases hj:j<K.length
    .simp[hj]
    .rw[getD_eq_getElem?_getD,getElem?_eq_none (by rw[length_replicate];omega)];rfl
   have XB:∀j,(replicate K.length ([]:List FE)).getD j []=[]:=λj=>by
    by_cases hj:j<K.length
    .simp[hj]
    .rw[getD_eq_getElem?_getD,getElem?_eq_none (by rw[length_replicate];omega)];rfl
   have HN:Hid (Rz w ((W1.alloc (.cells (madeCells #[Value.slice none 0 0] K.length) 125)).setCell ⟨RB,2,none⟩ (.slice (some ⟨W1.heap.size,0,none⟩) K.length K.length)) RB (ER (nR s.wr 0)) aJ (.slice (some ⟨W1.heap.size,0,none⟩) K.length K.length) (nR s.wr 0) (replicate K.length aJ) (replicate K.length [])):=ab (by
    have iH:∀i k,(tQ RB aJ (.slice (some ⟨W1.heap.size,0,none⟩) K.length K.length) (replicate K.length aJ))[i]?=some (some k)->i=0/\k=RB\/i=2/\k=W1.heap.size:=λi k hi=>by
     rcases zG hi with a|⟨-,a⟩|⟨b,a⟩|⟨q,hq,-,a⟩
     .exact zq0 a
     .cases a
     .exact zq1 ⟨b,by injection a with a;exact a.symm⟩
     .rw[tJ]at a;cases a
    refine⟨(iA.alloc (.cells (madeCells #[Value.slice none 0 0] K.length) 125)).set 2 _,⟨rfl,.inl ⟨rfl,rfl⟩⟩,by rw[length_replicate];exact bp,λi hi=>by rw[tJ,XB];exact⟨rfl,.inl ⟨rfl,rfl⟩⟩,λi j k hi hj=>?_,λk hk=>?_,(hb.trans ((ah W1 _).mono hb.size)).setCell (p:=⟨RB,2,none⟩) hRw _⟩
    .have a1:=iH i k hi;have a2:=iH j k hj;omega
    .obtain⟨i,hi⟩:=aU.1 hk;have a1:=iH i k hi;have:=hb.size;omega)
   clear hb iA KF bp tJ XB;go_wp2_with fail
   go_meet
   exact⟨_,HN⟩
  case rest =>
  obtain⟨kB,Su⟩:=hcut;clear d3 f8;have cF:Hid (Rz w wc RB (ER (nR s.wr 0)) aJ (.slice (some ⟨kB,0,none⟩) K.length K.length) (nR s.wr 0) (replicate K.length aJ) (replicate K.length [])/\(replicate K.length ([]:List FE)).length=K.length/\(∀i,i<0->(replicate K.length ([]:List FE)).getD i []=(K.getD i []).map (·.x))/\∀i,0<=i->(replicate K.length ([]:List FE)).getD i []=[]):=ab ⟨uh Su,length_replicate,λi hi=>by omega,λj _=>by
    by_cases hj:j<K.length
    .simp[hj]
    .rw[getD_eq_getElem?_getD,getElem?_eq_none (by rw[length_replicate];omega)];rfl⟩
  clear Su;go_wp2_with fail
  go_loopg [4] K.length (λgn iv wx=>∃(k:Nat) (av:Value) (FV:List Value) (L:List (List FE)),k+gn=K.length/\iv=.int .i64 k/\Hid (Rz w wx RB (ER (nR s.wr k)) av (.slice (some ⟨kB,0,none⟩) K.length K.length) (nR s.wr k) FV L/\L.length=K.length/\(∀i,i<k->L.getD i []=(K.getD i []).map (·.x))/\∀i,k<=i->L.getD i []=[]))
  case atStart=>exact⟨0,_,_,_,by omega,rfl,cF⟩
  case round =>
   clear cF;obtain⟨k,av,FV,L,gu,rfl,hI⟩:=hrel;obtain⟨G1,ze⟩:∃G1,G1=gk:=⟨_,rfl⟩;obtain⟨h1,h2,h3,h4⟩:=uh hI;have hsW:=(uh H).below h1.bl;have c3:=hsW.bs.cell 3 rfl;by_cases au:k<K.length
   .have hd:decide ((k:Int)<(K.length:Int))=true:=(by simp;omega);have oO:Hid (Rz w wr RB (ER (nR s.wr k++yL s.wr k 2)) av (.slice (some ⟨kB,0,none⟩) K.length K.length) (nR s.wr k++yL s.wr k 2) FV L):=ab (by rw[Ts,append_nil];exact h1);have J5:=ab (zq2 h2 (zq2 h3 h4));obtain⟨wB,wC,gA,cA,SK,Uv,-,-,-⟩:=(uh H).wc au;subst SK;have Tm:=ab Uv;have i1:(0:Int)<=(k:Int):=(by omega);have i2:(k:Int)<(K.length:Int):=(by omega);have m0:=zY s.wr k;clear h1 h2 h3 h4 hsW hI Uv;go_wp2_with fail
    go_loopg [5] 3 (λgn iv wx=>∃(t:Nat) (av:Value),t+gn=5/\2<=t/\iv=.int .i64 t/\Hid (Rz w wx RB (ER (nR s.wr k++yL s.wr k t)) av (.slice (some ⟨kB,0,none⟩) K.length K.length) (nR s.wr k++yL s.wr k t) FV L))
    case atStart=>exact⟨2,av,by omega,by omega,rfl,oO⟩
    case round =>
     clear oO c3;obtain⟨t,av2,XJ,Lb,rfl,hJ⟩:=hrel;obtain⟨G2,FB⟩:∃G2,G2=gk:=⟨_,rfl⟩;have hsW:=(uh H).below (uh hJ).bl;by_cases ht:t<5
     .have kY:decide ((t:Int)<=(4:Int))=true:=(by simp;omega);obtain⟨s4,sw,stt,-⟩:=hsW.wcs au (uh Tm);have st:=stt t ht;clear stt;have fC:=MZ s.wr k Lb ht;have dN:(nR s.wr k++yL s.wr k t).length<=900000:=by
       rw[length_append];have:=Hk s.wr k t;omega
      have t1:(0:Int)<=(t:Int):=(by omega);have t2:(t:Int)<(5:Int):=(by omega);cases ju:(s.wr.getD k []).getD t false
      .rw[ju]at st fC;rw[if_neg (by decide),append_nil]at fC;have HN:Hid (Rz w wr RB (ER (nR s.wr k++yL s.wr k (t+1))) av2 (.slice (some ⟨kB,0,none⟩) K.length K.length) (nR s.wr k++yL s.wr k (t+1)) FV L):=ab (by rw[fC];exact uh hJ);clear hsW fC ju hJ;go_wp2_with fail
       go_roundg (G2-1)
       case rel=>exact⟨t+1,_,by omega,by omega,by go_num,HN⟩
       case measure=>omega
      .rw[ju]at st fC;rw[if_pos rfl]at fC;obtain⟨al,ZZ⟩:∃al,al=nR s.wr k++yL s.wr k t:=⟨_,rfl⟩;rw[<-ZZ]at hJ dN;have e0:=(uh hJ).bk.cell 0 rfl;have z0:=(uh hJ).bk.frz 0;have h5:=(uh hJ).verd;obtain⟨W5,s7⟩:∃W5,W5=wr.setCell ⟨RB,0,none⟩ (.int .i64 1):=⟨_,rfl⟩;rw[<-s7]at h5;have e1:=h5.bk.cell 1 rfl;obtain⟨aa,ac,ko,-,-⟩:=am h5.al;subst ko;have H5:=ab h5;have dh:Hid (nR s.wr k++yL s.wr k (t+1)=al++[(k,t)]):=ab (by rw[fC,<-append_assoc,ZZ]);clear hsW fC ju hJ h5 ZZ;go_upto_region 13 with fail;rw[<-s7];clear s7 e0 z0;go_wp2_with (at_builtin;refine aS _ rfl (.tmp 55) (.tmp 59) 55 rfl 0 82 j0 _ 2 16 underlying55 hj0 hy0 US EJ rfl (by decide) _ al.length (xJ al) rfl ((uh H5).al.alloc _) ⟨_,0,none⟩ 1 [.int .i64 (k:Int),.int .i64 (t:Int)] rfl rfl (aN _ _ (by simp) [.int .i64 (k:Int),.int .i64 (t:Int)] _) (by intro u hu;simp only[mem_cons,not_mem_nil,or_false]at hu;rcases hu with rfl|rfl <;> rfl) (by omega) (by omega) (zq5 _) ?_)
       intro g7 cap7 w7 iK dM gh;obtain⟨h7,hb7⟩:=((uh H5).below (ah W5 _)).alarm (p:=(k,t)) iK dM (by simpa using gh);have e7:=hb7.cell 1 rfl;have z7:=hb7.frz 1;have HN:Hid (Rz w (w7.setCell ⟨RB,1,none⟩ (.slice (some ⟨g7,0,none⟩) (al.length+1) cap7)) RB (ER (nR s.wr k++yL s.wr k (t+1))) (.slice (some ⟨g7,0,none⟩) (al.length+1) cap7) (.slice (some ⟨kB,0,none⟩) K.length K.length) (nR s.wr k++yL s.wr k (t+1)) FV L):=ab (by rw[uh dh,Wl];exact h7);clear iK dM gh h7 hb7 H5;go_wp2_with fail
       go_roundg (G2-1)
       case rel=>exact⟨t+1,_,by omega,by omega,by go_num,HN⟩
       case measure=>omega
     .have kY:decide ((t:Int)<=(4:Int))=false:=(by simp;omega);have ht5:t=5:=(by omega);have hR5:Rz w wr RB (ER (nR s.wr (k+1))) av2 (.slice (some ⟨kB,0,none⟩) K.length K.length) (nR s.wr (k+1)) FV L:=by
       have h9:=uh hJ;rw[ht5,CG,<-CE]at h9;exact h9
      obtain⟨kB',kC',qJ,ckc⟩:=hsW.kc au;simp only[Value.slice.injEq,true_and]at qJ;obtain⟨rfl,rfl⟩:=qJ;obtain⟨l,hl⟩:∃l,l=K.getD k []:=⟨_,rfl⟩;have hlK:l∈K:=(by rw[hl,bF au];exact getElem_mem au);have EF:l.length<=1000000000001:=(by have h9:=uh mQ l hlK;unfold tD at h9;omega);have kE:=(uh H).ke k au;rw[<-hl]at kE;obtain⟨va,vc,AL,PO,UO⟩:=am kE;rw[AL]at ckc kE;have s3:=hsW.bs.cell 3 rfl;obtain⟨L0,hL0⟩:∃L0,L0=L:=⟨_,rfl⟩;have ZL:L.getD k []=(l.take 0).map (·.x):=(by rw[(uh J5).2.2 k (zq4 _)];rfl);have oO:Hid (Rz w wr RB (ER (nR s.wr (k+1))) av2 (.slice (some ⟨kB,0,none⟩) K.length K.length) (nR s.wr (k+1)) FV L/\L.length=K.length/\L.getD k []=(l.take 0).map (·.x)/\∀i,i≠k->L.getD i []=L0.getD i []):=ab ⟨hR5,(uh J5).1,ZL,λi _=>by rw[hL0]⟩;rw[<-hL0]at J5;have WB:=ab kE;have R9:=ab (zq2 hl hlK);obtain⟨AK,hAK⟩:∃AK,AK=nR s.wr (k+1):=⟨_,rfl⟩;rw[<-hAK]at oO;have HAK:=ab hAK;clear hJ hsW ht5 hR5 hl hlK kE AL hL0 ZL hAK m0;go_wp2_with fail
      go_loopg [71] l.length (λgn iv wx=>∃(j:Nat) (FV':List Value) (L':List (List FE)),j+gn=l.length/\iv=.int .i64 j/\Hid (Rz w wx RB (ER AK) av2 (.slice (some ⟨kB,0,none⟩) K.length K.length) AK FV' L'/\L'.length=K.length/\L'.getD k []=(l.take j).map (·.x)/\∀i,i≠k->L'.getD i []=L0.getD i []))
      case atStart=>exact⟨0,FV,L,by omega,rfl,oO⟩
      case round =>
       clear oO ckc s3;obtain⟨j,FV',L',Co,rfl,hJ⟩:=hrel;obtain⟨G3,hG3⟩:∃G3,G3=gk:=⟨_,rfl⟩;obtain⟨r1,r2,r3,r4⟩:=uh hJ;by_cases b7:j<l.length
       .have hd3:decide ((j:Int)<(l.length:Int))=true:=(by simp;omega);have j9:=eY (uh WB) r1.bl;obtain⟨g,cap,dE,-,-⟩:=b8 j9 (by omega);simp only[Value.slice.injEq,true_and]at dE;obtain⟨rfl,rfl⟩:=dE;obtain⟨x0,x1⟩:=mU j9 rfl b7;have zi:=(uh H).dr l (uh R9).2 l[j] (getElem_mem b7);obtain⟨e,Ml⟩:∃e,e=l[j]:=⟨_,rfl⟩;rw[<-Ml]at x0 x1 zi;obtain⟨W5,s7⟩:∃W5,W5=wr.alloc (.cells #[Value.pointer (some ⟨e.D,0,none⟩),.bool e.d] 258):=⟨_,rfl⟩;have ce:Below wr.heap.size wr W5:=(by rw[s7];exact ah wr _);have mZ:Bk W5 wr.heap.size 258 [Value.pointer (some ⟨e.D,0,none⟩),.bool e.d]:=(by rw[s7];exact Bk.new wr _ _);obtain⟨Y,xM⟩:∃Y,Y=wr.heap.size:=⟨_,rfl⟩;rw[<-xM]at mZ;have q1:=r1.below ce;have et:=q1.bl;have fj:=(et.cell (block_lt_of_cell? w _ zi.1.fo)).trans zi.1.fo;have bp:=q1.ke k (by omega);have ju:=q1.fl;have aP:(l.take (j+1)).map (λe=>e.x)=(l.take j).map (λe=>e.x)++[e.x]:=(by rw[take_succ_eq_append_getElem b7,map_append,Ml];rfl);rw[r3]at bp;obtain⟨fa,fc,Xw,-,-⟩:=am bp;obtain⟨ML,ZM⟩:∃ML,ML=(l.take j).map (λe=>e.x):=⟨_,rfl⟩;rw[<-ZM]at bp Xw aP r3;have Ss:ML.length<=l.length:=(by rw[ZM,length_map,length_take];omega);have b0:=mZ.cell 0 rfl;have k2c:=q1.bk.cell 2 rfl;have KF:=q1.bk.lt;have IF:=q1.kr;rw[r2]at IF;have hkB:=(IF.lt kB rfl).2;have ckn:=IF.cellAt k (by omega);have hnk:k<FV'.length:=(by omega);rw[getElem?_eq_getElem hnk]at ckn;have hgk:FV'[k]=.slice fa ML.length fc:=(by rw[<-Xw,bF hnk]);rw[hgk]at ckn;have Xl:=mZ.lt;have hDl:=block_lt_of_cell? W5 _ fj;have a1:∀(q:Nat) (o:Obj),((W5.drewN q).alloc o).cell? ⟨RB,2,none⟩=some (.slice (some ⟨kB,0,none⟩) K.length K.length):=λq o=>(cell?_of_block (a:=⟨RB,2,none⟩) (heap_alloc (W5.drewN q) o _ KF)).trans k2c;have a2:∀(q:Nat) (o:Obj),((W5.drewN q).alloc o).cell? ⟨kB,k,none⟩=some (.slice fa ML.length fc):=λq o=>(cell?_of_block (a:=⟨kB,k,none⟩) (heap_alloc (W5.drewN q) o _ hkB)).trans ckn;have kh:Hid (W5.ownsRow 0 126 1 (.slice fa ML.length fc) ML.length (ML.map FE.p)):=ab (by rw[<-Xw];exact bp);have Yo:=ab Xw;have L4:=ab r3;have dh:=ab aP;have HQ1:=ab q1;have EZ:=ab (zq2 r2 r4);obtain⟨eA,heA⟩:∃eA,eA=e.x.A:=⟨_,rfl⟩;have HEA:=ab heA;rw[<-heA]at fj;obtain⟨eD,heD⟩:∃eD,eD=e.D:=⟨_,rfl⟩;rw[<-heD]at fj b0 x0 hDl;have tU:Hid ((Value.slice fa ML.length fc).ownBlock≠some Y/\(Value.slice fa ML.length fc).ownBlock≠some eD/\RB≠kB/\Y≠kB/\eD≠kB):=ab (by
         have hm:∀q,(Value.slice fa ML.length fc).ownBlock=some q->w.heap.size<=q/\q<wr.heap.size:=λq hq=>by
          have gW:q∈T8 (tQ RB av2 (.slice (some ⟨kB,0,none⟩) K.length K.length) FV'):=aU.2 ⟨3+k,(GG hnk).trans (by rw[Xw];exact congrArg some hq)⟩;exact⟨r1.ge q gW,r1.lt q gW⟩
         have tb:kB∈T8 (tQ RB av2 (.slice (some ⟨kB,0,none⟩) K.length K.length) FV'):=aU.2 ⟨2,rfl⟩;have Di:=r1.ge kB tb;have EG:=r1.lt kB tb;have h9:=block_lt_of_cell? w _ zi.1.fo;simp only at h9;rw[<-heD]at h9;refine⟨λe'=>?_,λe'=>?_,λe'=>?_,λe'=>?_,λe'=>?_⟩
         .have:=hm Y e';omega
         .have h8:=hm eD e';omega
         .have:=r1.ap 0 2 RB rfl (by rw[e'];rfl);omega
         .omega
         .omega)
        rw[<-heD]at s7;have k1:(0:Int)<=(j:Int):=(by omega);have k2:(j:Int)<(l.length:Int):=(by omega);clear j9 zi Ml ce mZ bp Xw aP ZM r1 r2 r3 r4 hJ q1 et IF heA heD ju;go_upto_region 17 with fail;rw[<-s7,<-xM];clear s7 xM x0 x1;have a1:∀(o:Obj),(W5.alloc o).cell? ⟨RB,2,none⟩=some (.slice (some ⟨kB,0,none⟩) K.length K.length):=λo=>(cell?_of_block (a:=⟨RB,2,none⟩) (heap_alloc W5 o _ KF)).trans k2c;have a2:∀(o:Obj),(W5.alloc o).cell? ⟨kB,k,none⟩=some (.slice fa ML.length fc):=λo=>(cell?_of_block (a:=⟨kB,k,none⟩) (heap_alloc W5 o _ hkB)).trans ckn;have HKN:Hid (∀(w2:World) (g2 cap2:Nat) (o:Obj),w2.ownsRow 0 126 1 (.slice (some ⟨g2,0,none⟩) (ML.length+1) cap2) (ML.length+1) (ML.map FE.p++[.pointer (some ⟨eA,0,none⟩)])->(W5.alloc o).drew.grownBy w2 (Value.slice fa ML.length fc).ownBlock->(some g2=(Value.slice fa ML.length fc).ownBlock\/g2=(W5.alloc o).drew.heap.size) ->
          (Rz w (w2.setCell ⟨kB,k,none⟩ (.slice (some ⟨g2,0,none⟩) (ML.length+1) cap2)) RB (ER AK) av2 (.slice (some ⟨kB,0,none⟩) K.length K.length) AK (FV'.set k (.slice (some ⟨g2,0,none⟩) (ML.length+1) cap2)) (L'.set k (ML++[e.x])))/\w2.cell? ⟨RB,2,none⟩=some (.slice (some ⟨kB,0,none⟩) K.length K.length)/\w2.cell? ⟨kB,k,none⟩=some (.slice fa ML.length fc)/\w2.frozen? ⟨kB,k,none⟩=false/\w2.cell? ⟨Y,0,none⟩=some (.pointer (some ⟨eD,0,none⟩))/\w2.cell? ⟨eD,0,none⟩=some (.pointer (some ⟨eA,0,none⟩))/\∀u,(w2.setCell ⟨kB,k,none⟩ u).cell? ⟨RB,2,none⟩=some (.slice (some ⟨kB,0,none⟩) K.length K.length)/\(w2.setCell ⟨kB,k,none⟩ u).cell? ⟨Y,0,none⟩=some (.pointer (some ⟨eD,0,none⟩))/\(w2.setCell ⟨kB,k,none⟩ u).cell? ⟨eD,0,none⟩=some (.pointer (some ⟨eA,0,none⟩))):=ab (λw2 g2 cap2 o aL UB cK=>by
         have hq:=(uh HQ1).below ((ah W5 o).drew);have j9:=(uh EZ).1;have AM:e.x.p=.pointer (some ⟨eA,0,none⟩):=(by rw[uh HEA];rfl);rw[<-AM,<-uh L4]at aL;have hk:=hq.know (n:=k) (kB:=kB) (kC:=K.length) (x:=e.x) (g:=g2) (c:=cap2) (by omega) (by rw[j9]) aL (by rw[uh Yo];exact UB) (by rw[uh Yo];exact cK);rw[uh L4]at hk;obtain⟨k1,k2,k3⟩:=hk;rw[j9]at k2;have hc:=k2.cellAt k (by omega);rw[getElem?_eq_getElem hnk]at hc;have tK:∀q,q<W5.heap.size->(Value.slice fa ML.length fc).ownBlock≠some q->w2.heap[q]?=W5.heap[q]?:=λq hq aH=>(UB.block q (by show q<(W5.alloc o).heap.size;simp;omega) (λe'=>aH e'.symm)).trans (heap_alloc W5 o q hq);have y1:=(cell?_of_block (a:=⟨Y,0,none⟩) (tK Y Xl (uh tU).1)).trans b0;have y2:=(cell?_of_block (a:=⟨eD,0,none⟩) (tK eD hDl (uh tU).2.1)).trans fj;have y3:=k3.cell 2 rfl;refine⟨k1,y3,by rw[hc,hgk],k2.frozenAt k,y1,y2,λu=>⟨?_,?_,?_⟩⟩
         .exact(cell?_of_block (a:=⟨RB,2,none⟩) (heap_setCell _ _ _ _ (uh tU).2.2.1)).trans y3
         .exact(cell?_of_block (a:=⟨Y,0,none⟩) (heap_setCell _ _ _ _ (uh tU).2.2.2.1)).trans y1
         .exact(cell?_of_block (a:=⟨eD,0,none⟩) (heap_setCell _ _ _ _ (uh tU).2.2.2.2)).trans y2)
        have a3:∀(o:Obj),(W5.alloc o).cell? ⟨Y,0,none⟩=some (.pointer (some ⟨eD,0,none⟩)):=λo=>(cell?_of_block (a:=⟨Y,0,none⟩) (heap_alloc W5 o _ Xl)).trans b0;have a4:∀(o:Obj),(W5.alloc o).cell? ⟨eD,0,none⟩=some (.pointer (some ⟨eA,0,none⟩)):=λo=>(cell?_of_block (a:=⟨eD,0,none⟩) (heap_alloc W5 o _ hDl)).trans fj;have ajl:=ab (zq2 J5 (zq2 EZ (zq2 dh (zq2 au (zq2 Co (zq2 hG3 (zq2 b7 EF)))))));have hm2t:ML.length+1<=2000000000000:=(by omega);clear hgk gC HRS mQ J5 Tm R9 HAK Yo L4 dh HQ1 EZ HEA tU WB EF Ss gu XJ Lb Co ze FB hG3 PO UO alx aly ye Sy hRw au b7 hnk KF hkB Xl hDl hd kY hd3 ht hmk hj0 hy0 US EJ;go_region_law (refine LO _ rfl (.tmp 86) (.tmp 92) 125 rfl 0 126 i0 _ 1 8 underlying125 lr gX gy gK rfl (by decide) (.slice fa ML.length fc) ML.length (ML.map FE.p) (by simp[Act.eval]) ((uh kh).alloc _) ⟨W5.heap.size,0,none⟩ 1 [.pointer (some ⟨eA,0,none⟩)] (by simp[Act.eval]) rfl (aN W5 _ rfl [.pointer (some ⟨eA,0,none⟩)] _) (by intro u hu;simp only[mem_singleton]at hu;subst hu;rfl) hm2t (by decide) (zq5 _) ?_;intro g2 cap2 w2 br aM dW;obtain⟨Pm,mK,Dg,xR,FP,hk6,hk7⟩:=uh HKN w2 g2 cap2 _ br aM dW;have xI:=ab Pm;clear br aM dW Pm hk7)
        all_goals
         obtain⟨J5,EZ,dh,au,Co,hG3,b7,EF⟩:=uh ajl;go_wp2_with fail
         go_roundg (G3-1)
         case rel=>exact⟨j+1,_,_,by omega,by go_num,ab ⟨(uh xI).of_eq (λ_ _=>rfl) ⟨(uh xI).bl.os,(uh xI).bl.tape,(uh xI).bl.output,(uh xI).bl.size,(uh xI).bl.block⟩,by rw[length_set];exact(uh EZ).1,by
          rw[uh dh,getD_eq_getElem?_getD,getElem?_set_self (by rw[(uh EZ).1];exact au)];rfl,λi hi=>by
          rw[getD_eq_getElem?_getD,getElem?_set_ne (λe'=>hi e'.symm),<-getD_eq_getElem?_getD];exact(uh EZ).2 i hi⟩⟩
         case measure=>omega
       .have hd3:decide ((j:Int)<(l.length:Int))=false:=(by simp;omega);have HN:Hid (Rz w wr RB (ER (nR s.wr (k+1))) av2 (.slice (some ⟨kB,0,none⟩) K.length K.length) (nR s.wr (k+1)) FV' L'/\L'.length=K.length/\(∀i,i<k+1->L'.getD i []=(K.getD i []).map (·.x))/\∀i,k+1<=i->L'.getD i []=[]):=ab ⟨by rw[<-uh HAK];exact r1,r2,λi hi=>by
          by_cases e:i=k
          .rw[e,r3,take_of_length_le (by omega),<-(uh R9).1]
          .rw[r4 i e];exact(uh J5).2.1 i (by omega),λi hi=>by rw[r4 i (by omega)];exact(uh J5).2.2 i (by omega)⟩
        clear r1 r2 r3 r4 hJ;go_wp2_with fail
        go_roundg (G1-1)
        case rel=>exact⟨k+1,av2,FV',L',by omega,by go_num,HN⟩
        case measure=>omega
   .have hd:decide ((k:Int)<(K.length:Int))=false:=(by simp;omega);have HP:Hid (eH RB wr):=ab (by
     rw[uh gC,uh HRS];have hk:k=s.wr.length:=(by rw[(uh H).wl];omega);refine⟨av,_,FV,L,by rw[<-hk];exact h1,?_,λl hl x hx=>?_⟩
     .show _=s.kn.map _;rw[(uh H).km,map_map];apply ext_getElem?;intro i;rw[getElem?_map,getElem?_map];by_cases hi:i<K.length
      .have h5:=h3 i (by rw[hk,(uh H).wl];exact hi);rw[bF (by omega),bF hi]at h5;rw[getElem?_eq_getElem (by omega),getElem?_eq_getElem hi];simp only[Option.map_some,h5,map_map,Function.comp_apply];rfl
      .rw[getElem?_eq_none (by omega),getElem?_eq_none (by omega)];rfl
     .obtain⟨i,hi,rfl⟩:=mem_iff_getElem.1 hl;have h5:=h3 i (by rw[hk,(uh H).wl];omega);rw[bF hi,bF (by omega)]at h5;rw[h5]at hx;obtain⟨e,he,rfl⟩:=mem_map.1 hx;exact⟨_,getElem_mem (by omega),e,he,rfl⟩)
    clear h1 h2 h3 h4 hsW hI;go_wp2_with fail
    go_ret;exact⟨RB,rfl,uh HP⟩
end
