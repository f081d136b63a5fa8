import Derived.Test.YtciihepbeacppaaGreatM27
set_option maxRecDepth 100000
set_option maxHeartbeats 0
namespace Go.Proofs.YtciihepbeacppaaGreat
open Tryz Go.RowKit List World Below
set_option linter.unusedVariables false
section
variable {P:Program} (w:World)
theorem Kt {ops:Array Oper} {o:Oper} {a:Act} {K:Act->World->Prop} {Q:Exit->Act->World->Prop} {E:Prop}
  (hg:o.guard=none) (s x:Operand) (t:TypeId) (mC:o.op=Op.call { callee:=Callee.builtin Builtin.append,args:=#[s,x],argTypes:=#[t,t] })
  (base:Nat) (e:TypeId) (i:TypeInfo) (z:Value) (size bytes:Nat) (ht:P.underlying t=some (.slice e)) (hi:P.info? e=some i) (hz:i.zero=some z)
  (iN:i.size=size) (Em:i.bytes=bytes) (J4:z.cells.size=size) (ko:0<size)
  (v:Value) (n:Nat) (xs:List Value) (hs:a.eval s=v) (aN:w.ownsRow base e size v n xs)
  (ad:Addr) (c:Nat) (news:List Value) (hx:a.eval x=.slice (some ad) 1 c) (hl:news.length=size) (gK:∀j u,news[j]?=some u->w.cell? (ad.add j)=some u) (h1:∀u∈news,u.oneCell'=true)
  (Jy:n+1<=2000000000000) (hb:bytes<=16) (jP:base<=w.heap.size)
  (hK:∀g cap w',w'.ownsRow base e size (.slice (some ⟨g,0,none⟩) (n+1) cap) (n+1) (xs++news)->w.grownBy w' v.ownBlock->(some g=v.ownBlock\/g=w.heap.size)->K (a.put o.dst (.slice (some ⟨g,0,none⟩) (n+1) cap)) w') :
  if Region.wanted o (yielded ops a.tmps)=true then Oper.wp P o a w K Q else E:=by
 have hw:Region.wanted o (yielded ops a.tmps)=true:=by simp[Region.wanted,hg]
 rw[if_pos hw];obtain⟨v',w',EE,r1,r2,r3,g,cap,rfl⟩:=CI (P:=P) w base t o.type e i z size bytes ht hi hz iN Em J4 ko v n xs aN ad c news hl gK h1 Jy hb jP;unfold Oper.wp;simp[execOp,mC,resolve,invoke,builtin,hs,hx,EE,Result.andThen];exact hK g cap w' r1 r2 (by simpa[Value.ownBlock] using r3)
end
section
variable {w:World} {S:Nat} {c:Cd} {c0 hv kv wv:Value} {KV WV:List Value} {K:List (List En)} {s:Sr}
theorem Vd(al:List (Nat × Nat))(p:Nat × Nat):Dx (al++[p])=1:=by unfold Dx;rw[if_neg (by simp)]
def XX(w:World)(K:List (List En))(r:Rs)(RB:Nat)(w':World):Prop:=∃av kv FV L,Rz w w' RB r.vd av kv r.al FV L/\L.map (λl=>l.map (λx=>x.f))=r.kn/\∀l∈L,∀x∈l,∃l0∈K,∃e∈l0,e.x=x
theorem Kp(h:Sh w S c c0 hv kv wv KV WV K s)(vX:K.length<=100000)(oh:∀l∈K,l.length<=rX+1):
  Calls prog 143 #[.pointer (some ⟨S,0,none⟩)] w λe w'=>∃RB,e=.returned (.pointer (some ⟨RB,0,none⟩))/\XX w K (AM s) RB w':=by
 obtain⟨i0,iL,eo,ep,eK⟩:=info_parts infoPF;obtain⟨j0,xC,hy0,hy1,Re⟩:=info_parts infoAl;obtain⟨ka,kC,BX,akX,akY⟩:=aj h.kr;subst BX;have c8:=h.bs.cell 8 rfl;have c3:=h.bs.cell 3 rfl;have Q0:=h.bs.lt;obtain⟨dQ,dg⟩:∃dQ:Nat->World->Prop,dQ=λRB w'=>XX w K (AM s) RB w':=⟨_,rfl⟩;have fD:=ab dg;rw[show(fun(e:Ending) (w':World)=>∃RB,e=.returned (.pointer (some ⟨RB,0,none⟩))/\XX w K (AM s) RB w')=(λe w'=>∃RB,e=.returned (.pointer (some ⟨RB,0,none⟩))/\dQ RB w') by rw[dg]];have H:=ab h;have kV:=ab oh;clear h dg oh;cases dW:s.fu
 rotate_left
 .rw[dW]at c8;have HP:Hid (dQ w.heap.size (w.alloc (.cells #[Value.int .i64 2,.slice none 0 0,.slice none 0 0] 118))):=ab (by
   rw[uh fD];have e:AM s=⟨2,[],[]⟩:=(by unfold AM;rw[if_pos dW]);rw[e];refine⟨aF,aF,[],[],⟨Bk.new w _ _,⟨rfl,.inl ⟨rfl,rfl⟩⟩,⟨rfl,.inl ⟨rfl,rfl⟩⟩,λi hi=>by simp at hi,λi j k hi hj=>?_,λk hk=>?_,ah w _⟩,rfl,λl hl=>by simp at hl⟩
   .rcases xW hi with⟨a,-⟩|⟨-,a⟩|⟨-,a⟩|⟨q,hq,-⟩
    .rcases xW hj with⟨b,-⟩|⟨-,b⟩|⟨-,b⟩|⟨q,hq,-⟩
     .rw[a,b]
     .cases b
     .cases b
     .simp at hq
    .cases a
    .cases a
    .simp at hq
   .obtain⟨i,hi⟩:=aQ.1 hk;rcases xW hi with⟨-,a⟩|⟨-,a⟩|⟨-,a⟩|⟨q,hq,-⟩
    .omega
    .cases a
    .cases a
    .simp at hq)
  clear dW;go_enter func143,ntmps143;go_wp2_with fail
  go_ret;exact⟨_,rfl,uh HP⟩
 .rw[dW]at c8;have HRS:Hid (AM s=⟨Dx (mw s.wr s.wr.length),mw s.wr s.wr.length,s.kn.map (λl=>l.map (·.f))⟩):=ab (by unfold AM;rw[if_neg (by rw[dW];decide),RR];rfl);have Zv:=run_make_row' (P:=prog) 116 125 (.slice none 0 0) 24 underlying116 infoFs rfl .i64 .i64 K.length (by omega) (by omega);clear dW;go_enter func143,ntmps143;go_upto_region 4 with fail;obtain⟨W1,dI⟩:∃W1,W1=w.alloc (.cells #[Value.int .i64 0,.slice none 0 0,.slice none 0 0] 118):=⟨_,rfl⟩;have bQ:Below w.heap.size w W1:=by rw[dI];exact ah w _
  have fq:Bk W1 w.heap.size 118 [.int .i64 0,.slice none 0 0,.slice none 0 0]:=by rw[dI];exact Bk.new w _ _
  obtain⟨RB,YU⟩:∃RB,RB=w.heap.size:=⟨_,rfl⟩;rw[<-YU]at fq;have hRw:w.heap.size<=RB:=by omega
  have dm:=ab (zq2 bQ fq);have d3:=(bQ.cell Q0).trans c3;rw[<-dI,<-YU];clear dI bQ fq YU c8 c3;go_cut [] (λwx=>∃kB,Hid (Rz w wx RB (Dx (mw s.wr 0)) aF (.slice (some ⟨kB,0,none⟩) K.length K.length) (mw s.wr 0) (replicate K.length aF) (replicate K.length [])))
  case first =>
   obtain⟨hb,fq⟩:=uh dm;have e1:=(fq.alloc (.cells (madeCells #[Value.slice none 0 0] K.length) 125)).cell 2 rfl;have z1:=(fq.alloc (.cells (madeCells #[Value.slice none 0 0] K.length) 125)).frz 2;have Nt:=fq.lt;have aR:((W1.alloc (.cells (madeCells #[Value.slice none 0 0] K.length) 125)).setCell ⟨RB,2,none⟩ (.slice (some ⟨W1.heap.size,0,none⟩) K.length K.length)).ownsRow 0 125 1 (.slice (some ⟨W1.heap.size,0,none⟩) K.length K.length) K.length (replicate K.length aF):=by
    have h2:=ownsRow_lit (base:=0) (e:=125) (size:=1) W1 (madeCells #[Value.slice none 0 0] K.length) K.length (zq5 _) (by simp[maxLen];omega) (by simp[madeCells]);rw[toList_madeCells_one]at h2;exact ci h2 (p:=⟨RB,2,none⟩) (by show some W1.heap.size≠some RB;intro e;injection e with e;omega) _
   have sd:∀j,(replicate K.length aF).getD j aF=aF:=λj=>by
    by_cases hj:j<K.length
    .simp[hj]
    .rw[getD_eq_getElem?_getD,getElem?_eq_none (by rw[length_replicate];omega)];rfl
   have WA:∀j,(replicate K.length ([]:List FE)).getD j []=[]:=λj=>by
    by_cases hj:j<K.length
    .simp[hj]
    .rw[getD_eq_getElem?_getD,getElem?_eq_none (by rw[length_replicate];omega)];rfl
   have HN:Hid (Rz w ((W1.alloc (.cells (madeCells #[Value.slice none 0 0] K.length) 125)).setCell ⟨RB,2,none⟩ (.slice (some ⟨W1.heap.size,0,none⟩) K.length K.length)) RB (Dx (mw s.wr 0)) aF (.slice (some ⟨W1.heap.size,0,none⟩) K.length K.length) (mw s.wr 0) (replicate K.length aF) (replicate K.length [])):=ab (by
    have gl:∀i k,(so RB aF (.slice (some ⟨W1.heap.size,0,none⟩) K.length K.length) (replicate K.length aF))[i]?=some (some k)->i=0/\k=RB\/i=2/\k=W1.heap.size:=λi k hi=>by
     rcases xW hi with a|⟨-,a⟩|⟨b,a⟩|⟨q,hq,-,a⟩
     .exact zq0 a
     .cases a
     .exact zq1 ⟨b,by injection a with a;exact a.symm⟩
     .rw[sd]at a;cases a
    refine⟨(fq.alloc (.cells (madeCells #[Value.slice none 0 0] K.length) 125)).set 2 _,⟨rfl,.inl ⟨rfl,rfl⟩⟩,by rw[length_replicate];exact aR,λi hi=>by rw[sd,WA];exact⟨rfl,.inl ⟨rfl,rfl⟩⟩,λi j k hi hj=>?_,λk hk=>?_,(hb.trans ((ah W1 _).mono hb.size)).setCell (p:=⟨RB,2,none⟩) hRw _⟩
    .have a1:=gl i k hi;have a2:=gl j k hj;omega
    .obtain⟨i,hi⟩:=aQ.1 hk;have a1:=gl i k hi;have:=hb.size;omega)
   clear hb fq Nt aR sd WA;go_wp2_with fail
   go_meet
   exact⟨_,HN⟩
  case rest =>
  obtain⟨kB,Az⟩:=hcut;clear d3 dm;have bX:Hid (Rz w wc RB (Dx (mw s.wr 0)) aF (.slice (some ⟨kB,0,none⟩) K.length K.length) (mw s.wr 0) (replicate K.length aF) (replicate K.length [])/\(replicate K.length ([]:List FE)).length=K.length/\(∀i,i<0->(replicate K.length ([]:List FE)).getD i []=(K.getD i []).map (·.x))/\∀i,0<=i->(replicate K.length ([]:List FE)).getD i []=[]):=ab ⟨uh Az,length_replicate,λi hi=>by omega,λj _=>by
    by_cases hj:j<K.length
    .simp[hj]
    .rw[getD_eq_getElem?_getD,getElem?_eq_none (by rw[length_replicate];omega)];rfl⟩
  clear Az;go_wp2_with fail
  go_loopg [4] K.length (λgn iv wx=>∃(k:Nat) (av:Value) (FV:List Value) (L:List (List FE)),k+gn=K.length/\iv=.int .i64 k/\Hid (Rz w wx RB (Dx (mw s.wr k)) av (.slice (some ⟨kB,0,none⟩) K.length K.length) (mw s.wr k) FV L/\L.length=K.length/\(∀i,i<k->L.getD i []=(K.getD i []).map (·.x))/\∀i,k<=i->L.getD i []=[]))
  case atStart=>exact⟨0,_,_,_,by omega,rfl,bX⟩
  case round =>
   clear bX;obtain⟨k,av,FV,L,eV,rfl,hI⟩:=hrel;obtain⟨G1,yJ⟩:∃G1,G1=gk:=⟨_,rfl⟩;obtain⟨h1,h2,h3,h4⟩:=uh hI;have hsW:=(uh H).below h1.bl;have c3:=hsW.bs.cell 3 rfl;by_cases aq:k<K.length
   .have hd:decide ((k:Int)<(K.length:Int))=true:=(by simp;omega);have mV:Hid (Rz w wr RB (Dx (mw s.wr k++wO s.wr k 2)) av (.slice (some ⟨kB,0,none⟩) K.length K.length) (mw s.wr k++wO s.wr k 2) FV L):=ab (by rw[RT,append_nil];exact h1);have I1:=ab (zq2 h2 (zq2 h3 h4));obtain⟨wB,wC,gA,cA,Cf,Tm,-,-,-⟩:=(uh H).wc aq;subst Cf;have RM:=ab Tm;have i1:(0:Int)<=(k:Int):=(by omega);have i2:(k:Int)<(K.length:Int):=(by omega);have jC:=FT s.wr k;clear h1 h2 h3 h4 hsW hI Tm;go_wp2_with fail
    go_loopg [5] 3 (λgn iv wx=>∃(t:Nat) (av:Value),t+gn=5/\2<=t/\iv=.int .i64 t/\Hid (Rz w wx RB (Dx (mw s.wr k++wO s.wr k t)) av (.slice (some ⟨kB,0,none⟩) K.length K.length) (mw s.wr k++wO s.wr k t) FV L))
    case atStart=>exact⟨2,av,by omega,by omega,rfl,mV⟩
    case round =>
     clear mV c3;obtain⟨t,av2,WM,J3,rfl,hJ⟩:=hrel;obtain⟨G2,BF⟩:∃G2,G2=gk:=⟨_,rfl⟩;have hsW:=(uh H).below (uh hJ).bl;by_cases ht:t<5
     .have jb:decide ((t:Int)<=(4:Int))=true:=(by simp;omega);obtain⟨s4,sw,stt,-⟩:=hsW.wcs aq (uh RM);have st:=stt t ht;clear stt;have el:=LG s.wr k J3 ht;have cN:(mw s.wr k++wO s.wr k t).length<=900000:=by
       rw[length_append];have:=FU s.wr k t;omega
      have t1:(0:Int)<=(t:Int):=(by omega);have t2:(t:Int)<(5:Int):=(by omega);cases jE:(s.wr.getD k []).getD t false
      .rw[jE]at st el;rw[if_neg (by decide),append_nil]at el;have HN:Hid (Rz w wr RB (Dx (mw s.wr k++wO s.wr k (t+1))) av2 (.slice (some ⟨kB,0,none⟩) K.length K.length) (mw s.wr k++wO s.wr k (t+1)) FV L):=ab (by rw[el];exact uh hJ);clear hsW el jE hJ;go_wp2_with fail
       go_roundg (G2-1)
       case rel=>exact⟨t+1,_,by omega,by omega,by go_num,HN⟩
       case measure=>omega
      .rw[jE]at st el;rw[if_pos rfl]at el;obtain⟨al,Y5⟩:∃al,al=mw s.wr k++wO s.wr k t:=⟨_,rfl⟩;rw[<-Y5]at hJ cN;have e0:=(uh hJ).bk.cell 0 rfl;have z0:=(uh hJ).bk.frz 0;have h5:=(uh hJ).verd;obtain⟨W5,k7⟩:∃W5,W5=wr.setCell ⟨RB,0,none⟩ (.int .i64 1):=⟨_,rfl⟩;rw[<-k7]at h5;have e1:=h5.bk.cell 1 rfl;obtain⟨aa,ac,jO,-,-⟩:=aj h5.al;subst jO;have H5:=ab h5;have cK:Hid (mw s.wr k++wO s.wr k (t+1)=al++[(k,t)]):=ab (by rw[el,<-append_assoc,Y5]);clear hsW el jE hJ h5 Y5;go_upto_region 13 with fail;rw[<-k7];clear k7 e0 z0;go_wp2_with (at_builtin;refine aH _ rfl (.tmp 55) (.tmp 59) 55 rfl 0 82 j0 _ 2 16 underlying55 xC hy0 hy1 Re rfl (by decide) _ al.length (VP al) rfl ((uh H5).al.alloc _) ⟨_,0,none⟩ 1 [.int .i64 (k:Int),.int .i64 (t:Int)] rfl rfl (aP _ _ (by simp) [.int .i64 (k:Int),.int .i64 (t:Int)] _) (by intro u hu;simp only[mem_cons,not_mem_nil,or_false]at hu;rcases hu with rfl|rfl <;> rfl) (by omega) (by omega) (zq5 _) ?_)
       intro g7 cap7 w7 gN di eU;obtain⟨h7,hb7⟩:=((uh H5).below (ah W5 _)).alarm (p:=(k,t)) gN di (by simpa using eU);have e7:=hb7.cell 1 rfl;have z7:=hb7.frz 1;have HN:Hid (Rz w (w7.setCell ⟨RB,1,none⟩ (.slice (some ⟨g7,0,none⟩) (al.length+1) cap7)) RB (Dx (mw s.wr k++wO s.wr k (t+1))) (.slice (some ⟨g7,0,none⟩) (al.length+1) cap7) (.slice (some ⟨kB,0,none⟩) K.length K.length) (mw s.wr k++wO s.wr k (t+1)) FV L):=ab (by rw[uh cK,Vd];exact h7);clear gN di eU h7 hb7 H5;go_wp2_with fail
       go_roundg (G2-1)
       case rel=>exact⟨t+1,_,by omega,by omega,by go_num,HN⟩
       case measure=>omega
     .have jb:decide ((t:Int)<=(4:Int))=false:=(by simp;omega);have ht5:t=5:=(by omega);have hR5:Rz w wr RB (Dx (mw s.wr (k+1))) av2 (.slice (some ⟨kB,0,none⟩) K.length K.length) (mw s.wr (k+1)) FV L:=by
       have h9:=uh hJ;rw[ht5,AW,<-AV]at h9;exact h9
      obtain⟨kB',kC',pA,ckc⟩:=hsW.kc aq;simp only[Value.slice.injEq,true_and]at pA;obtain⟨rfl,rfl⟩:=pA;obtain⟨l,hl⟩:∃l,l=K.getD k []:=⟨_,rfl⟩;have hlK:l∈K:=(by rw[hl,bD aq];exact getElem_mem aq);have GP:l.length<=1000000000001:=(by have h9:=uh kV l hlK;unfold rX at h9;omega);have gB:=(uh H).ke k aq;rw[<-hl]at gB;obtain⟨va,vc,y7,OA,TL⟩:=aj gB;rw[y7]at ckc gB;have s3:=hsW.bs.cell 3 rfl;obtain⟨L0,hL0⟩:∃L0,L0=L:=⟨_,rfl⟩;have YP:L.getD k []=(l.take 0).map (·.x):=(by rw[(uh I1).2.2 k (zq4 _)];rfl);have mV:Hid (Rz w wr RB (Dx (mw s.wr (k+1))) av2 (.slice (some ⟨kB,0,none⟩) K.length K.length) (mw s.wr (k+1)) FV L/\L.length=K.length/\L.getD k []=(l.take 0).map (·.x)/\∀i,i≠k->L.getD i []=L0.getD i []):=ab ⟨hR5,(uh I1).1,YP,λi _=>by rw[hL0]⟩;rw[<-hL0]at I1;have Vv:=ab gB;have QM:=ab (zq2 hl hlK);obtain⟨AK,hAK⟩:∃AK,AK=mw s.wr (k+1):=⟨_,rfl⟩;rw[<-hAK]at mV;have HAK:=ab hAK;clear hJ hsW ht5 hR5 hl hlK gB y7 hL0 YP hAK jC;go_wp2_with fail
      go_loopg [71] l.length (λgn iv wx=>∃(j:Nat) (FV':List Value) (L':List (List FE)),j+gn=l.length/\iv=.int .i64 j/\Hid (Rz w wx RB (Dx AK) av2 (.slice (some ⟨kB,0,none⟩) K.length K.length) AK FV' L'/\L'.length=K.length/\L'.getD k []=(l.take j).map (·.x)/\∀i,i≠k->L'.getD i []=L0.getD i []))
      case atStart=>exact⟨0,FV,L,by omega,rfl,mV⟩
      case round =>
       clear mV ckc s3;obtain⟨j,FV',L',xD,rfl,hJ⟩:=hrel;obtain⟨G3,hG3⟩:∃G3,G3=gk:=⟨_,rfl⟩;obtain⟨r1,r2,r3,r4⟩:=uh hJ;by_cases bI:j<l.length
       .have Wo:decide ((j:Int)<(l.length:Int))=true:=(by simp;omega);have iu:=dy (uh Vv) r1.bl;obtain⟨g,cap,cM,-,-⟩:=bM iu (by omega);simp only[Value.slice.injEq,true_and]at cM;obtain⟨rfl,rfl⟩:=cM;obtain⟨x0,x1⟩:=lR iu rfl bI;have xy:=(uh H).dr l (uh QM).2 l[j] (getElem_mem bI);obtain⟨e,sM⟩:∃e,e=l[j]:=⟨_,rfl⟩;rw[<-sM]at x0 x1 xy;obtain⟨W5,k7⟩:∃W5,W5=wr.alloc (.cells #[Value.pointer (some ⟨e.D,0,none⟩),.bool e.d] 258):=⟨_,rfl⟩;have bQ:Below wr.heap.size wr W5:=(by rw[k7];exact ah wr _);have iI:Bk W5 wr.heap.size 258 [Value.pointer (some ⟨e.D,0,none⟩),.bool e.d]:=(by rw[k7];exact Bk.new wr _ _);obtain⟨Y,nB⟩:∃Y,Y=wr.heap.size:=⟨_,rfl⟩;rw[<-nB]at iI;have q1:=r1.below bQ;have cD:=q1.bl;have fs:=(cD.cell (block_lt_of_cell? w _ xy.1.fo)).trans xy.1.fo;have aR:=q1.ke k (by omega);have jE:=q1.fl;have aE:(l.take (j+1)).map (λe=>e.x)=(l.take j).map (λe=>e.x)++[e.x]:=(by rw[take_succ_eq_append_getElem bI,map_append,sM];rfl);rw[r3]at aR;obtain⟨fa,fc,Wt,-,-⟩:=aj aR;obtain⟨ML,YQ⟩:∃ML,ML=(l.take j).map (λe=>e.x):=⟨_,rfl⟩;rw[<-YQ]at aR Wt aE r3;have We:ML.length<=l.length:=(by rw[YQ,length_map,length_take];omega);have b0:=iI.cell 0 rfl;have k2c:=q1.bk.cell 2 rfl;have Nt:=q1.bk.lt;have GO:=q1.kr;rw[r2]at GO;have hkB:=(GO.lt kB rfl).2;have ckn:=GO.cellAt k (by omega);have Q9:k<FV'.length:=(by omega);rw[getElem?_eq_getElem Q9]at ckn;have KU:FV'[k]=.slice fa ML.length fc:=(by rw[<-Wt,bD Q9]);rw[KU]at ckn;have Y2:=iI.lt;have S7:=block_lt_of_cell? W5 _ fs;have a1:∀(q:Nat) (o:Obj),((W5.drewN q).alloc o).cell? ⟨RB,2,none⟩=some (.slice (some ⟨kB,0,none⟩) K.length K.length):=λq o=>(cell?_of_block (a:=⟨RB,2,none⟩) (heap_alloc (W5.drewN q) o _ Nt)).trans k2c;have a2:∀(q:Nat) (o:Obj),((W5.drewN q).alloc o).cell? ⟨kB,k,none⟩=some (.slice fa ML.length fc):=λq o=>(cell?_of_block (a:=⟨kB,k,none⟩) (heap_alloc (W5.drewN q) o _ hkB)).trans ckn;have iy:Hid (W5.ownsRow 0 126 1 (.slice fa ML.length fc) ML.length (ML.map FE.p)):=ab (by rw[<-Wt];exact aR);have Xx:=ab Wt;have KI:=ab r3;have cK:=ab aE;have HQ1:=ab q1;have DF:=ab (zq2 r2 r4);obtain⟨eA,heA⟩:∃eA,eA=e.x.A:=⟨_,rfl⟩;have HEA:=ab heA;rw[<-heA]at fs;obtain⟨eD,heD⟩:∃eD,eD=e.D:=⟨_,rfl⟩;rw[<-heD]at fs b0 x0 S7;have su:Hid ((Value.slice fa ML.length fc).ownBlock≠some Y/\(Value.slice fa ML.length fc).ownBlock≠some eD/\RB≠kB/\Y≠kB/\eD≠kB):=ab (by
         have hm:∀q,(Value.slice fa ML.length fc).ownBlock=some q->w.heap.size<=q/\q<wr.heap.size:=λq hq=>by
          have fx:q∈SR (so RB av2 (.slice (some ⟨kB,0,none⟩) K.length K.length) FV'):=aQ.2 ⟨3+k,(Fa Q9).trans (by rw[Wt];exact congrArg some hq)⟩;exact⟨r1.ge q fx,r1.lt q fx⟩
         have sR:kB∈SR (so RB av2 (.slice (some ⟨kB,0,none⟩) K.length K.length) FV'):=aQ.2 ⟨2,rfl⟩;have wd:=r1.ge kB sR;have AB:=r1.lt kB sR;have h9:=block_lt_of_cell? w _ xy.1.fo;simp only at h9;rw[<-heD]at h9;refine⟨λe'=>?_,λe'=>?_,λe'=>?_,λe'=>?_,λe'=>?_⟩
         .have:=hm Y e';omega
         .have h8:=hm eD e';omega
         .have:=r1.ap 0 2 RB rfl (by rw[e'];rfl);omega
         .omega
         .omega)
        rw[<-heD]at k7;have k1:(0:Int)<=(j:Int):=(by omega);have k2:(j:Int)<(l.length:Int):=(by omega);clear iu xy sM bQ iI aR Wt aE YQ r1 r2 r3 r4 hJ q1 cD GO heA heD jE;go_upto_region 17 with fail;rw[<-k7,<-nB];clear k7 nB x0 x1;have a1:∀(o:Obj),(W5.alloc o).cell? ⟨RB,2,none⟩=some (.slice (some ⟨kB,0,none⟩) K.length K.length):=λo=>(cell?_of_block (a:=⟨RB,2,none⟩) (heap_alloc W5 o _ Nt)).trans k2c;have a2:∀(o:Obj),(W5.alloc o).cell? ⟨kB,k,none⟩=some (.slice fa ML.length fc):=λo=>(cell?_of_block (a:=⟨kB,k,none⟩) (heap_alloc W5 o _ hkB)).trans ckn;have HKN:Hid (∀(w2:World) (g2 cap2:Nat) (o:Obj),w2.ownsRow 0 126 1 (.slice (some ⟨g2,0,none⟩) (ML.length+1) cap2) (ML.length+1) (ML.map FE.p++[.pointer (some ⟨eA,0,none⟩)])->(W5.alloc o).drew.grownBy w2 (Value.slice fa ML.length fc).ownBlock->(some g2=(Value.slice fa ML.length fc).ownBlock\/g2=(W5.alloc o).drew.heap.size) ->
          (Rz w (w2.setCell ⟨kB,k,none⟩ (.slice (some ⟨g2,0,none⟩) (ML.length+1) cap2)) RB (Dx AK) av2 (.slice (some ⟨kB,0,none⟩) K.length K.length) AK (FV'.set k (.slice (some ⟨g2,0,none⟩) (ML.length+1) cap2)) (L'.set k (ML++[e.x])))/\w2.cell? ⟨RB,2,none⟩=some (.slice (some ⟨kB,0,none⟩) K.length K.length)/\w2.cell? ⟨kB,k,none⟩=some (.slice fa ML.length fc)/\w2.frozen? ⟨kB,k,none⟩=false/\w2.cell? ⟨Y,0,none⟩=some (.pointer (some ⟨eD,0,none⟩))/\w2.cell? ⟨eD,0,none⟩=some (.pointer (some ⟨eA,0,none⟩))/\∀u,(w2.setCell ⟨kB,k,none⟩ u).cell? ⟨RB,2,none⟩=some (.slice (some ⟨kB,0,none⟩) K.length K.length)/\(w2.setCell ⟨kB,k,none⟩ u).cell? ⟨Y,0,none⟩=some (.pointer (some ⟨eD,0,none⟩))/\(w2.setCell ⟨kB,k,none⟩ u).cell? ⟨eD,0,none⟩=some (.pointer (some ⟨eA,0,none⟩))):=ab (λw2 g2 cap2 o aN Tt bS=>by
         have hq:=(uh HQ1).below ((ah W5 o).drew);have iu:=(uh DF).1;have y9:e.x.p=.pointer (some ⟨eA,0,none⟩):=(by rw[uh HEA];rfl);rw[<-y9,<-uh KI]at aN;have hk:=hq.know (n:=k) (kB:=kB) (kC:=K.length) (x:=e.x) (g:=g2) (c:=cap2) (by omega) (by rw[iu]) aN (by rw[uh Xx];exact Tt) (by rw[uh Xx];exact bS);rw[uh KI]at hk;obtain⟨k1,k2,k3⟩:=hk;rw[iu]at k2;have hc:=k2.cellAt k (by omega);rw[getElem?_eq_getElem Q9]at hc;have si:∀q,q<W5.heap.size->(Value.slice fa ML.length fc).ownBlock≠some q->w2.heap[q]?=W5.heap[q]?:=λq hq aJ=>(Tt.block q (by show q<(W5.alloc o).heap.size;simp;omega) (λe'=>aJ e'.symm)).trans (heap_alloc W5 o q hq);have y1:=(cell?_of_block (a:=⟨Y,0,none⟩) (si Y Y2 (uh su).1)).trans b0;have y2:=(cell?_of_block (a:=⟨eD,0,none⟩) (si eD S7 (uh su).2.1)).trans fs;have y3:=k3.cell 2 rfl;refine⟨k1,y3,by rw[hc,KU],k2.frozenAt k,y1,y2,λu=>⟨?_,?_,?_⟩⟩
         .exact(cell?_of_block (a:=⟨RB,2,none⟩) (heap_setCell _ _ _ _ (uh su).2.2.1)).trans y3
         .exact(cell?_of_block (a:=⟨Y,0,none⟩) (heap_setCell _ _ _ _ (uh su).2.2.2.1)).trans y1
         .exact(cell?_of_block (a:=⟨eD,0,none⟩) (heap_setCell _ _ _ _ (uh su).2.2.2.2)).trans y2)
        have a3:∀(o:Obj),(W5.alloc o).cell? ⟨Y,0,none⟩=some (.pointer (some ⟨eD,0,none⟩)):=λo=>(cell?_of_block (a:=⟨Y,0,none⟩) (heap_alloc W5 o _ Y2)).trans b0;have a4:∀(o:Obj),(W5.alloc o).cell? ⟨eD,0,none⟩=some (.pointer (some ⟨eA,0,none⟩)):=λo=>(cell?_of_block (a:=⟨eD,0,none⟩) (heap_alloc W5 o _ S7)).trans fs;have aiL:=ab (zq2 I1 (zq2 DF (zq2 cK (zq2 aq (zq2 xD (zq2 hG3 (zq2 bI GP)))))));have hm2t:ML.length+1<=2000000000000:=(by omega);clear KU fD HRS kV I1 RM QM HAK Xx KI cK HQ1 DF HEA su Vv GP We eV WM J3 xD yJ BF hG3 OA TL akX akY vX Q0 hRw aq bI Q9 Nt hkB Y2 S7 hd jb Wo ht Zv xC hy0 hy1 Re;go_region_law (refine Kt _ rfl (.tmp 86) (.tmp 92) 125 rfl 0 126 i0 _ 1 8 underlying125 iL eo ep eK rfl (by decide) (.slice fa ML.length fc) ML.length (ML.map FE.p) (by simp[Act.eval]) ((uh iy).alloc _) ⟨W5.heap.size,0,none⟩ 1 [.pointer (some ⟨eA,0,none⟩)] (by simp[Act.eval]) rfl (aP W5 _ rfl [.pointer (some ⟨eA,0,none⟩)] _) (by intro u hu;simp only[mem_singleton]at hu;subst hu;rfl) hm2t (by decide) (zq5 _) ?_;intro g2 cap2 w2 aT aO dq;obtain⟨KW,sN,BW,ue,Eu,hk6,hk7⟩:=uh HKN w2 g2 cap2 _ aT aO dq;have vq:=ab KW;clear aT aO dq KW hk7)
        all_goals
         obtain⟨I1,DF,cK,aq,xD,hG3,bI,GP⟩:=uh aiL;go_wp2_with fail
         go_roundg (G3-1)
         case rel=>exact⟨j+1,_,_,by omega,by go_num,ab ⟨(uh vq).of_eq (λ_ _=>rfl) ⟨(uh vq).bl.os,(uh vq).bl.tape,(uh vq).bl.output,(uh vq).bl.size,(uh vq).bl.block⟩,by rw[length_set];exact(uh DF).1,by
          rw[uh cK,getD_eq_getElem?_getD,getElem?_set_self (by rw[(uh DF).1];exact aq)];rfl,λi hi=>by
          rw[getD_eq_getElem?_getD,getElem?_set_ne (λe'=>hi e'.symm),<-getD_eq_getElem?_getD];exact(uh DF).2 i hi⟩⟩
         case measure=>omega
       .have Wo:decide ((j:Int)<(l.length:Int))=false:=(by simp;omega);have HN:Hid (Rz w wr RB (Dx (mw s.wr (k+1))) av2 (.slice (some ⟨kB,0,none⟩) K.length K.length) (mw s.wr (k+1)) FV' L'/\L'.length=K.length/\(∀i,i<k+1->L'.getD i []=(K.getD i []).map (·.x))/\∀i,k+1<=i->L'.getD i []=[]):=ab ⟨by rw[<-uh HAK];exact r1,r2,λi hi=>by
          by_cases e:i=k
          .rw[e,r3,take_of_length_le (by omega),<-(uh QM).1]
          .rw[r4 i e];exact(uh I1).2.1 i (by omega),λi hi=>by rw[r4 i (by omega)];exact(uh I1).2.2 i (by omega)⟩
        clear r1 r2 r3 r4 hJ;go_wp2_with fail
        go_roundg (G1-1)
        case rel=>exact⟨k+1,av2,FV',L',by omega,by go_num,HN⟩
        case measure=>omega
   .have hd:decide ((k:Int)<(K.length:Int))=false:=(by simp;omega);have HP:Hid (dQ RB wr):=ab (by
     rw[uh fD,uh HRS];have hk:k=s.wr.length:=(by rw[(uh H).wl];omega);refine⟨av,_,FV,L,by rw[<-hk];exact h1,?_,λl hl x hx=>?_⟩
     .show _=s.kn.map _;rw[(uh H).km,map_map];apply ext_getElem?;intro i;rw[getElem?_map,getElem?_map];by_cases hi:i<K.length
      .have h5:=h3 i (by rw[hk,(uh H).wl];exact hi);rw[bD (by omega),bD hi]at h5;rw[getElem?_eq_getElem (by omega),getElem?_eq_getElem hi];simp only[Option.map_some,h5,map_map,Function.comp_apply];rfl
      .rw[getElem?_eq_none (by omega),getElem?_eq_none (by omega)];rfl
     .obtain⟨i,hi,rfl⟩:=mem_iff_getElem.1 hl;have h5:=h3 i (by rw[hk,(uh H).wl];omega);rw[bD hi,bD (by omega)]at h5;rw[h5]at hx;obtain⟨e,he,rfl⟩:=mem_map.1 hx;exact⟨_,getElem_mem (by omega),e,he,rfl⟩)
    clear h1 h2 h3 h4 hsW hI;go_wp2_with fail
    go_ret;exact⟨RB,rfl,uh HP⟩
end
