import Derived.Test.YtciihepbeacppaaGreatM29
set_option maxRecDepth 100000
set_option maxHeartbeats 0
namespace Go.Proofs.YtciihepbeacppaaGreat
open Tryz Go.RowKit List World Below
set_option linter.unusedVariables false
section
variable {P:Program} (w:World)
theorem IN {ops:Array Oper} {o:Oper} {a:Act} {K:Act->World->Prop} {Q:Exit->Act->World->Prop} {E:Prop}
  (hg:o.guard=none) (s x:Operand) (t:TypeId) (ng:o.op=Op.call { callee:=Callee.builtin Builtin.append,args:=#[s,x],argTypes:=#[t,t] })
  (base:Nat) (e:TypeId) (i:TypeInfo) (z:Value) (size bytes:Nat) (ht:P.underlying t=some (.slice e)) (hi:P.info? e=some i) (hz:i.zero=some z)
  (iP:i.size=size) (C5:i.bytes=bytes) (Iq:z.cells.size=size) (lu:0<size)
  (v:Value) (n:Nat) (xs:List Value) (hs:a.eval s=v) (aO:w.ownsRow base e size v n xs)
  (ad:Addr) (c:Nat) (news:List Value) (hx:a.eval x=.slice (some ad) 1 c) (hl:news.length=size) (gF:∀j u,news[j]?=some u->w.cell? (ad.add j)=some u) (h1:∀u∈news,u.oneCell'=true)
  (Hg:n+1<=2000000000000) (hb:bytes<=16) (fH:base<=w.heap.size)
  (hK:∀g cap w',w'.ownsRow base e size (.slice (some ⟨g,0,none⟩) (n+1) cap) (n+1) (xs++news)->w.grownBy w' v.ownBlock->(some g=v.ownBlock\/g=w.heap.size)->K (a.put o.dst (.slice (some ⟨g,0,none⟩) (n+1) cap)) w') :
  if Region.wanted o (yielded ops a.tmps)=true then Oper.wp P o a w K Q else E:=by
 have hw:Region.wanted o (yielded ops a.tmps)=true:=by simp[Region.wanted,hg]
 rw[if_pos hw];obtain⟨v',w',Dm,r1,r2,r3,g,cap,rfl⟩:=Bz (P:=P) w base t o.type e i z size bytes ht hi hz iP C5 Iq lu v n xs aO ad c news hl gF h1 Hg hb fH;unfold Oper.wp;simp[execOp,ng,resolve,invoke,builtin,hs,hx,Dm,Result.andThen];exact hK g cap w' r1 r2 (by simpa[Value.ownBlock] using r3)
end
section
variable {w:World} {S:Nat} {c:Cd} {c0 hv kv wv:Value} {KV WV:List Value} {K:List (List En)} {s:Sr}
theorem SC(al:List (Nat × Nat))(p:Nat × Nat):Cl (al++[p])=1:=by unfold Cl;rw[if_neg (by simp)]
def U0(w:World)(K:List (List En))(r:Rs)(RB:Nat)(w':World):Prop:=∃av kv FV L,Rz w w' RB r.vd av kv r.al FV L/\L.map (λl=>l.map (λx=>x.f))=r.kn/\∀l∈L,∀x∈l,∃l0∈K,∃e∈l0,e.x=x
theorem IK(h:Sh w S c c0 hv kv wv KV WV K s)(vj:K.length<=100000)(pQ:∀l∈K,l.length<=q8+1):
  Calls prog 143 #[.pointer (some ⟨S,0,none⟩)] w λe w'=>∃RB,e=.returned (.pointer (some ⟨RB,0,none⟩))/\U0 w K (Ck s) RB w':=by
 obtain⟨i0,jN,fW,fy,fJ⟩:=info_parts infoPF;obtain⟨j0,hj0,hy0,hy1,hy2⟩:=info_parts infoAl;obtain⟨ka,kC,O2,ahG,ahH⟩:=aj h.kr;subst O2;have c8:=h.bs.cell 8 rfl;have c3:=h.bs.cell 3 rfl;have OS:=h.bs.lt;obtain⟨dP,df⟩:∃dP:Nat->World->Prop,dP=λRB w'=>U0 w K (Ck s) RB w':=⟨_,rfl⟩;have fD:=ab df;rw[show(fun(e:Ending) (w':World)=>∃RB,e=.returned (.pointer (some ⟨RB,0,none⟩))/\U0 w K (Ck s) RB w')=(λe w'=>∃RB,e=.returned (.pointer (some ⟨RB,0,none⟩))/\dP RB w') by rw[df]];have H:=ab h;have lz:=ab pQ;clear h df pQ;cases eJ:s.fu
 rotate_left
 .rw[eJ]at c8;have HP:Hid (dP w.heap.size (w.alloc (.cells #[Value.int .i64 2,.slice none 0 0,.slice none 0 0] 118))):=ab (by
   rw[uh fD];have e:Ck s=⟨2,[],[]⟩:=(by unfold Ck;rw[if_pos eJ]);rw[e];refine⟨aH,aH,[],[],⟨Bk.new w _ _,⟨rfl,.inl ⟨rfl,rfl⟩⟩,⟨rfl,.inl ⟨rfl,rfl⟩⟩,λi hi=>by simp at hi,λi j k hi hj=>?_,λk hk=>?_,ah w _⟩,rfl,λl hl=>by simp at hl⟩
   .rcases wZ hi with⟨a,-⟩|⟨-,a⟩|⟨-,a⟩|⟨q,hq,-⟩
    .rcases wZ hj with⟨b,-⟩|⟨-,b⟩|⟨-,b⟩|⟨q,hq,-⟩
     .rw[a,b]
     .cases b
     .cases b
     .simp at hq
    .cases a
    .cases a
    .simp at hq
   .obtain⟨i,hi⟩:=aU.1 hk;rcases wZ hi with⟨-,a⟩|⟨-,a⟩|⟨-,a⟩|⟨q,hq,-⟩
    .omega
    .cases a
    .cases a
    .simp at hq)
  clear eJ;go_enter func143,ntmps143;go_wp2_with fail
  go_ret;exact⟨_,rfl,uh HP⟩
 .rw[eJ]at c8;have HRS:Hid (Ck s=⟨Cl (mj s.wr s.wr.length),mj s.wr s.wr.length,s.kn.map (λl=>l.map (·.f))⟩):=ab (by unfold Ck;rw[if_neg (by rw[eJ];decide),Em];rfl);have WE:=run_make_row' (P:=prog) 116 125 (.slice none 0 0) 24 underlying116 infoFs rfl .i64 .i64 K.length (by omega) (by omega);clear eJ;go_enter func143,ntmps143;go_upto_region 4 with fail;obtain⟨W1,dE⟩:∃W1,W1=w.alloc (.cells #[Value.int .i64 0,.slice none 0 0,.slice none 0 0] 118):=⟨_,rfl⟩;have bV:Below w.heap.size w W1:=by rw[dE];exact ah w _
  have gy:Bk W1 w.heap.size 118 [.int .i64 0,.slice none 0 0,.slice none 0 0]:=by rw[dE];exact Bk.new w _ _
  obtain⟨RB,V3⟩:∃RB,RB=w.heap.size:=⟨_,rfl⟩;rw[<-V3]at gy;have hRw:w.heap.size<=RB:=by omega
  have eU:=ab (zq2 bV gy);have d3:=(bV.cell OS).trans c3;rw[<-dE,<-V3];clear dE bV gy V3 c8 c3;go_cut [] (λwx=>∃kB,Hid (Rz w wx RB (Cl (mj s.wr 0)) aH (.slice (some ⟨kB,0,none⟩) K.length K.length) (mj s.wr 0) (replicate K.length aH) (replicate K.length [])))
  case first =>
   obtain⟨hb,gy⟩:=uh eU;have e1:=(gy.alloc (.cells (madeCells #[Value.slice none 0 0] K.length) 125)).cell 2 rfl;have z1:=(gy.alloc (.cells (madeCells #[Value.slice none 0 0] K.length) 125)).frz 2;have OQ:=gy.lt;have bp:((W1.alloc (.cells (madeCells #[Value.slice none 0 0] K.length) 125)).setCell ⟨RB,2,none⟩ (.slice (some ⟨W1.heap.size,0,none⟩) K.length K.length)).ownsRow 0 125 1 (.slice (some ⟨W1.heap.size,0,none⟩) K.length K.length) K.length (replicate K.length aH):=by
    have h2:=ownsRow_lit (base:=0) (e:=125) (size:=1) W1 (madeCells #[Value.slice none 0 0] K.length) K.length (zq5 _) (by simp[maxLen];omega) (by simp[madeCells]);rw[toList_madeCells_one]at h2;exact ca h2 (p:=⟨RB,2,none⟩) (by show some W1.heap.size≠some RB;intro e;injection e with e;omega) _
   have rl:∀j,(replicate K.length aH).getD j aH=aH:=λj=>by
    by_cases hj:j<K.length
    .simp[hj]
    .rw[getD_eq_getElem?_getD,getElem?_eq_none (by rw[length_replicate];omega)];rfl
   have TP:∀j,(replicate K.length ([]:List FE)).getD j []=[]:=λj=>by
    by_cases hj:j<K.length
    .simp[hj]
    .rw[getD_eq_getElem?_getD,getElem?_eq_none (by rw[length_replicate];omega)];rfl
   have HN:Hid (Rz w ((W1.alloc (.cells (madeCells #[Value.slice none 0 0] K.length) 125)).setCell ⟨RB,2,none⟩ (.slice (some ⟨W1.heap.size,0,none⟩) K.length K.length)) RB (Cl (mj s.wr 0)) aH (.slice (some ⟨W1.heap.size,0,none⟩) K.length K.length) (mj s.wr 0) (replicate K.length aH) (replicate K.length [])):=ab (by
    have gG:∀i k,(rt RB aH (.slice (some ⟨W1.heap.size,0,none⟩) K.length K.length) (replicate K.length aH))[i]?=some (some k)->i=0/\k=RB\/i=2/\k=W1.heap.size:=λi k hi=>by
     rcases wZ hi with a|⟨-,a⟩|⟨b,a⟩|⟨q,hq,-,a⟩
     .exact zq0 a
     .cases a
     .exact zq1 ⟨b,by injection a with a;exact a.symm⟩
     .rw[rl]at a;cases a
    refine⟨(gy.alloc (.cells (madeCells #[Value.slice none 0 0] K.length) 125)).set 2 _,⟨rfl,.inl ⟨rfl,rfl⟩⟩,by rw[length_replicate];exact bp,λi hi=>by rw[rl,TP];exact⟨rfl,.inl ⟨rfl,rfl⟩⟩,λi j k hi hj=>?_,λk hk=>?_,(hb.trans ((ah W1 _).mono hb.size)).setCell (p:=⟨RB,2,none⟩) hRw _⟩
    .have a1:=gG i k hi;have a2:=gG j k hj;omega
    .obtain⟨i,hi⟩:=aU.1 hk;have a1:=gG i k hi;have:=hb.size;omega)
   clear hb gy OQ bp rl TP;go_wp2_with fail
   go_meet
   exact⟨_,HN⟩
  case rest =>
  obtain⟨kB,Ho⟩:=hcut;clear d3 eU;have cd:Hid (Rz w wc RB (Cl (mj s.wr 0)) aH (.slice (some ⟨kB,0,none⟩) K.length K.length) (mj s.wr 0) (replicate K.length aH) (replicate K.length [])/\(replicate K.length ([]:List FE)).length=K.length/\(∀i,i<0->(replicate K.length ([]:List FE)).getD i []=(K.getD i []).map (·.x))/\∀i,0<=i->(replicate K.length ([]:List FE)).getD i []=[]):=ab ⟨uh Ho,length_replicate,λi hi=>by omega,λj _=>by
    by_cases hj:j<K.length
    .simp[hj]
    .rw[getD_eq_getElem?_getD,getElem?_eq_none (by rw[length_replicate];omega)];rfl⟩
  clear Ho;go_wp2_with fail
  go_loopg [4] K.length (λgn iv wx=>∃(k:Nat) (av:Value) (FV:List Value) (L:List (List FE)),k+gn=K.length/\iv=.int .i64 k/\Hid (Rz w wx RB (Cl (mj s.wr k)) av (.slice (some ⟨kB,0,none⟩) K.length K.length) (mj s.wr k) FV L/\L.length=K.length/\(∀i,i<k->L.getD i []=(K.getD i []).map (·.x))/\∀i,k<=i->L.getD i []=[]))
  case atStart=>exact⟨0,_,_,_,by omega,rfl,cd⟩
  case round =>
   clear cd;obtain⟨k,av,FV,L,f7,rfl,hI⟩:=hrel;obtain⟨G1,uF⟩:∃G1,G1=gk:=⟨_,rfl⟩;obtain⟨h1,h2,h3,h4⟩:=uh hI;have hsW:=(uh H).below h1.bl;have c3:=hsW.bs.cell 3 rfl;by_cases ar:k<K.length
   .have hd:decide ((k:Int)<(K.length:Int))=true:=(by simp;omega);have mQ:Hid (Rz w wr RB (Cl (mj s.wr k++vQ s.wr k 2)) av (.slice (some ⟨kB,0,none⟩) K.length K.length) (mj s.wr k++vQ s.wr k 2) FV L):=ab (by rw[PG,append_nil];exact h1);have GJ:=ab (zq2 h2 (zq2 h3 h4));obtain⟨wB,wC,gA,cA,O5,QB,-,-,-⟩:=(uh H).wc ar;subst O5;have PC:=ab QB;have i1:(0:Int)<=(k:Int):=(by omega);have i2:(k:Int)<(K.length:Int):=(by omega);have nM:=xD s.wr k;clear h1 h2 h3 h4 hsW hI QB;go_wp2_with fail
    go_loopg [5] 3 (λgn iv wx=>∃(t:Nat) (av:Value),t+gn=5/\2<=t/\iv=.int .i64 t/\Hid (Rz w wx RB (Cl (mj s.wr k++vQ s.wr k t)) av (.slice (some ⟨kB,0,none⟩) K.length K.length) (mj s.wr k++vQ s.wr k t) FV L))
    case atStart=>exact⟨2,av,by omega,by omega,rfl,mQ⟩
    case round =>
     clear mQ c3;obtain⟨t,av2,TX,Im,rfl,hJ⟩:=hrel;obtain⟨G2,CZ⟩:∃G2,G2=gk:=⟨_,rfl⟩;have hsW:=(uh H).below (uh hJ).bl;by_cases ht:t<5
     .have jk:decide ((t:Int)<=(4:Int))=true:=(by simp;omega);obtain⟨s4,sw,stt,-⟩:=hsW.wcs ar (uh PC);have st:=stt t ht;clear stt;have fI:=JL s.wr k Im ht;have db:(mj s.wr k++vQ s.wr k t).length<=900000:=by
       rw[length_append];have:=Eo s.wr k t;omega
      have t1:(0:Int)<=(t:Int):=(by omega);have t2:(t:Int)<(5:Int):=(by omega);cases kh:(s.wr.getD k []).getD t false
      .rw[kh]at st fI;rw[if_neg (by decide),append_nil]at fI;have HN:Hid (Rz w wr RB (Cl (mj s.wr k++vQ s.wr k (t+1))) av2 (.slice (some ⟨kB,0,none⟩) K.length K.length) (mj s.wr k++vQ s.wr k (t+1)) FV L):=ab (by rw[fI];exact uh hJ);clear hsW fI kh hJ;go_wp2_with fail
       go_roundg (G2-1)
       case rel=>exact⟨t+1,_,by omega,by omega,by go_num,HN⟩
       case measure=>omega
      .rw[kh]at st fI;rw[if_pos rfl]at fI;obtain⟨al,We⟩:∃al,al=mj s.wr k++vQ s.wr k t:=⟨_,rfl⟩;rw[<-We]at hJ db;have e0:=(uh hJ).bk.cell 0 rfl;have z0:=(uh hJ).bk.frz 0;have h5:=(uh hJ).verd;obtain⟨W5,qK⟩:∃W5,W5=wr.setCell ⟨RB,0,none⟩ (.int .i64 1):=⟨_,rfl⟩;rw[<-qK]at h5;have e1:=h5.bk.cell 1 rfl;obtain⟨aa,ac,jK,-,-⟩:=aj h5.al;subst jK;have H5:=ab h5;have cI:Hid (mj s.wr k++vQ s.wr k (t+1)=al++[(k,t)]):=ab (by rw[fI,<-append_assoc,We]);clear hsW fI kh hJ h5 We;go_upto_region 13 with fail;rw[<-qK];clear qK e0 z0;go_wp2_with (at_builtin;refine aQ _ rfl (.tmp 55) (.tmp 59) 55 rfl 0 82 j0 _ 2 16 underlying55 hj0 hy0 hy1 hy2 rfl (by decide) _ al.length (vP al) rfl ((uh H5).al.alloc _) ⟨_,0,none⟩ 1 [.int .i64 (k:Int),.int .i64 (t:Int)] rfl rfl (aM _ _ (by simp) [.int .i64 (k:Int),.int .i64 (t:Int)] _) (by intro u hu;simp only[mem_cons,not_mem_nil,or_false]at hu;rcases hu with rfl|rfl <;> rfl) (by omega) (by omega) (zq5 _) ?_)
       intro g7 cap7 w7 gJ dh eZ;obtain⟨h7,Wh⟩:=((uh H5).below (ah W5 _)).alarm (p:=(k,t)) gJ dh (by simpa using eZ);have e7:=Wh.cell 1 rfl;have z7:=Wh.frz 1;have HN:Hid (Rz w (w7.setCell ⟨RB,1,none⟩ (.slice (some ⟨g7,0,none⟩) (al.length+1) cap7)) RB (Cl (mj s.wr k++vQ s.wr k (t+1))) (.slice (some ⟨g7,0,none⟩) (al.length+1) cap7) (.slice (some ⟨kB,0,none⟩) K.length K.length) (mj s.wr k++vQ s.wr k (t+1)) FV L):=ab (by rw[uh cI,SC];exact h7);clear gJ dh eZ h7 Wh H5;go_wp2_with fail
       go_roundg (G2-1)
       case rel=>exact⟨t+1,_,by omega,by omega,by go_num,HN⟩
       case measure=>omega
     .have jk:decide ((t:Int)<=(4:Int))=false:=(by simp;omega);have ht5:t=5:=(by omega);have Zl:Rz w wr RB (Cl (mj s.wr (k+1))) av2 (.slice (some ⟨kB,0,none⟩) K.length K.length) (mj s.wr (k+1)) FV L:=by
       have h9:=uh hJ;rw[ht5,zS,<-zR]at h9;exact h9
      obtain⟨kB',kC',oL,ckc⟩:=hsW.kc ar;simp only[Value.slice.injEq,true_and]at oL;obtain⟨rfl,rfl⟩:=oL;obtain⟨l,hl⟩:∃l,l=K.getD k []:=⟨_,rfl⟩;have hlK:l∈K:=(by rw[hl,bC ar];exact getElem_mem ar);have Jh:l.length<=1000000000001:=(by have h9:=uh lz l hlK;unfold q8 at h9;omega);have jl:=(uh H).ke k ar;rw[<-hl]at jl;obtain⟨va,vc,ym,Mv,QX⟩:=aj jl;rw[ym]at ckc jl;have s3:=hsW.bs.cell 3 rfl;obtain⟨L0,hL0⟩:∃L0,L0=L:=⟨_,rfl⟩;have VX:L.getD k []=(l.take 0).map (·.x):=(by rw[(uh GJ).2.2 k (zq4 _)];rfl);have mQ:Hid (Rz w wr RB (Cl (mj s.wr (k+1))) av2 (.slice (some ⟨kB,0,none⟩) K.length K.length) (mj s.wr (k+1)) FV L/\L.length=K.length/\L.getD k []=(l.take 0).map (·.x)/\∀i,i≠k->L.getD i []=L0.getD i []):=ab ⟨Zl,(uh GJ).1,VX,λi _=>by rw[hL0]⟩;rw[<-hL0]at GJ;have SR:=ab jl;have OF:=ab (zq2 hl hlK);obtain⟨AK,hAK⟩:∃AK,AK=mj s.wr (k+1):=⟨_,rfl⟩;rw[<-hAK]at mQ;have HAK:=ab hAK;clear hJ hsW ht5 Zl hl hlK jl ym hL0 VX hAK nM;go_wp2_with fail
      go_loopg [71] l.length (λgn iv wx=>∃(j:Nat) (FV':List Value) (L':List (List FE)),j+gn=l.length/\iv=.int .i64 j/\Hid (Rz w wx RB (Cl AK) av2 (.slice (some ⟨kB,0,none⟩) K.length K.length) AK FV' L'/\L'.length=K.length/\L'.getD k []=(l.take j).map (·.x)/\∀i,i≠k->L'.getD i []=L0.getD i []))
      case atStart=>exact⟨0,FV,L,by omega,rfl,mQ⟩
      case round =>
       clear mQ ckc s3;obtain⟨j,FV',L',yc,rfl,hJ⟩:=hrel;obtain⟨G3,Zf⟩:∃G3,G3=gk:=⟨_,rfl⟩;obtain⟨r1,r2,r3,r4⟩:=uh hJ;by_cases bS:j<l.length
       .have Zq:decide ((j:Int)<(l.length:Int))=true:=(by simp;omega);have ja:=eQ (uh SR) r1.bl;obtain⟨g,cap,c9,-,-⟩:=bT ja (by omega);simp only[Value.slice.injEq,true_and]at c9;obtain⟨rfl,rfl⟩:=c9;obtain⟨x0,x1⟩:=lC ja rfl bS;have wy:=(uh H).dr l (uh OF).2 l[j] (getElem_mem bS);obtain⟨e,Je⟩:∃e,e=l[j]:=⟨_,rfl⟩;rw[<-Je]at x0 x1 wy;obtain⟨W5,qK⟩:∃W5,W5=wr.alloc (.cells #[Value.pointer (some ⟨e.D,0,none⟩),.bool e.d] 258):=⟨_,rfl⟩;have bV:Below wr.heap.size wr W5:=(by rw[qK];exact ah wr _);have lJ:Bk W5 wr.heap.size 258 [Value.pointer (some ⟨e.D,0,none⟩),.bool e.d]:=(by rw[qK];exact Bk.new wr _ _);obtain⟨Y,uG⟩:∃Y,Y=wr.heap.size:=⟨_,rfl⟩;rw[<-uG]at lJ;have q1:=r1.below bV;have dL:=q1.bl;have ic:=(dL.cell (block_lt_of_cell? w _ wy.1.fo)).trans wy.1.fo;have bp:=q1.ke k (by omega);have kh:=q1.fl;have aS:(l.take (j+1)).map (λe=>e.x)=(l.take j).map (λe=>e.x)++[e.x]:=(by rw[take_succ_eq_append_getElem bS,map_append,Je];rfl);rw[r3]at bp;obtain⟨fa,fc,TK,-,-⟩:=aj bp;obtain⟨ML,VY⟩:∃ML,ML=(l.take j).map (λe=>e.x):=⟨_,rfl⟩;rw[<-VY]at bp TK aS r3;have OO:ML.length<=l.length:=(by rw[VY,length_map,length_take];omega);have b0:=lJ.cell 0 rfl;have k2c:=q1.bk.cell 2 rfl;have OQ:=q1.bk.lt;have E6:=q1.kr;rw[r2]at E6;have hkB:=(E6.lt kB rfl).2;have ckn:=E6.cellAt k (by omega);have QM:k<FV'.length:=(by omega);rw[getElem?_eq_getElem QM]at ckn;have Zv:FV'[k]=.slice fa ML.length fc:=(by rw[<-TK,bC QM]);rw[Zv]at ckn;have QD:=lJ.lt;have Ze:=block_lt_of_cell? W5 _ ic;have a1:∀(q:Nat) (o:Obj),((W5.drewN q).alloc o).cell? ⟨RB,2,none⟩=some (.slice (some ⟨kB,0,none⟩) K.length K.length):=λq o=>(cell?_of_block (a:=⟨RB,2,none⟩) (heap_alloc (W5.drewN q) o _ OQ)).trans k2c;have a2:∀(q:Nat) (o:Obj),((W5.drewN q).alloc o).cell? ⟨kB,k,none⟩=some (.slice fa ML.length fc):=λq o=>(cell?_of_block (a:=⟨kB,k,none⟩) (heap_alloc (W5.drewN q) o _ hkB)).trans ckn;have jc:Hid (W5.ownsRow 0 126 1 (.slice fa ML.length fc) ML.length (ML.map FE.p)):=ab (by rw[<-TK];exact bp);have UD:=ab TK;have IZ:=ab r3;have cI:=ab aS;have HQ1:=ab q1;have Cu:=ab (zq2 r2 r4);obtain⟨eA,heA⟩:∃eA,eA=e.x.A:=⟨_,rfl⟩;have HEA:=ab heA;rw[<-heA]at ic;obtain⟨eD,heD⟩:∃eD,eD=e.D:=⟨_,rfl⟩;rw[<-heD]at ic b0 x0 Ze;have rB:Hid ((Value.slice fa ML.length fc).ownBlock≠some Y/\(Value.slice fa ML.length fc).ownBlock≠some eD/\RB≠kB/\Y≠kB/\eD≠kB):=ab (by
         have hm:∀q,(Value.slice fa ML.length fc).ownBlock=some q->w.heap.size<=q/\q<wr.heap.size:=λq hq=>by
          have nN:q∈Qh (rt RB av2 (.slice (some ⟨kB,0,none⟩) K.length K.length) FV'):=aU.2 ⟨3+k,(DO QM).trans (by rw[TK];exact congrArg some hq)⟩;exact⟨r1.ge q nN,r1.lt q nN⟩
         have qN:kB∈Qh (rt RB av2 (.slice (some ⟨kB,0,none⟩) K.length K.length) FV'):=aU.2 ⟨2,rfl⟩;have AI:=r1.ge kB qN;have Ca:=r1.lt kB qN;have h9:=block_lt_of_cell? w _ wy.1.fo;simp only at h9;rw[<-heD]at h9;refine⟨λe'=>?_,λe'=>?_,λe'=>?_,λe'=>?_,λe'=>?_⟩
         .have:=hm Y e';omega
         .have h8:=hm eD e';omega
         .have:=r1.ap 0 2 RB rfl (by rw[e'];rfl);omega
         .omega
         .omega)
        rw[<-heD]at qK;have k1:(0:Int)<=(j:Int):=(by omega);have k2:(j:Int)<(l.length:Int):=(by omega);clear ja wy Je bV lJ bp TK aS VY r1 r2 r3 r4 hJ q1 dL E6 heA heD kh;go_upto_region 17 with fail;rw[<-qK,<-uG];clear qK uG x0 x1;have a1:∀(o:Obj),(W5.alloc o).cell? ⟨RB,2,none⟩=some (.slice (some ⟨kB,0,none⟩) K.length K.length):=λo=>(cell?_of_block (a:=⟨RB,2,none⟩) (heap_alloc W5 o _ OQ)).trans k2c;have a2:∀(o:Obj),(W5.alloc o).cell? ⟨kB,k,none⟩=some (.slice fa ML.length fc):=λo=>(cell?_of_block (a:=⟨kB,k,none⟩) (heap_alloc W5 o _ hkB)).trans ckn;have HKN:Hid (∀(w2:World) (g2 cap2:Nat) (o:Obj),w2.ownsRow 0 126 1 (.slice (some ⟨g2,0,none⟩) (ML.length+1) cap2) (ML.length+1) (ML.map FE.p++[.pointer (some ⟨eA,0,none⟩)])->(W5.alloc o).drew.grownBy w2 (Value.slice fa ML.length fc).ownBlock->(some g2=(Value.slice fa ML.length fc).ownBlock\/g2=(W5.alloc o).drew.heap.size) ->
          (Rz w (w2.setCell ⟨kB,k,none⟩ (.slice (some ⟨g2,0,none⟩) (ML.length+1) cap2)) RB (Cl AK) av2 (.slice (some ⟨kB,0,none⟩) K.length K.length) AK (FV'.set k (.slice (some ⟨g2,0,none⟩) (ML.length+1) cap2)) (L'.set k (ML++[e.x])))/\w2.cell? ⟨RB,2,none⟩=some (.slice (some ⟨kB,0,none⟩) K.length K.length)/\w2.cell? ⟨kB,k,none⟩=some (.slice fa ML.length fc)/\w2.frozen? ⟨kB,k,none⟩=false/\w2.cell? ⟨Y,0,none⟩=some (.pointer (some ⟨eD,0,none⟩))/\w2.cell? ⟨eD,0,none⟩=some (.pointer (some ⟨eA,0,none⟩))/\∀u,(w2.setCell ⟨kB,k,none⟩ u).cell? ⟨RB,2,none⟩=some (.slice (some ⟨kB,0,none⟩) K.length K.length)/\(w2.setCell ⟨kB,k,none⟩ u).cell? ⟨Y,0,none⟩=some (.pointer (some ⟨eD,0,none⟩))/\(w2.setCell ⟨kB,k,none⟩ u).cell? ⟨eD,0,none⟩=some (.pointer (some ⟨eA,0,none⟩))):=ab (λw2 g2 cap2 o aO QK cn=>by
         have hq:=(uh HQ1).below ((ah W5 o).drew);have ja:=(uh Cu).1;have yo:e.x.p=.pointer (some ⟨eA,0,none⟩):=(by rw[uh HEA];rfl);rw[<-yo,<-uh IZ]at aO;have hk:=hq.know (n:=k) (kB:=kB) (kC:=K.length) (x:=e.x) (g:=g2) (c:=cap2) (by omega) (by rw[ja]) aO (by rw[uh UD];exact QK) (by rw[uh UD];exact cn);rw[uh IZ]at hk;obtain⟨k1,k2,k3⟩:=hk;rw[ja]at k2;have hc:=k2.cellAt k (by omega);rw[getElem?_eq_getElem QM]at hc;have rm:∀q,q<W5.heap.size->(Value.slice fa ML.length fc).ownBlock≠some q->w2.heap[q]?=W5.heap[q]?:=λq hq aY=>(QK.block q (by show q<(W5.alloc o).heap.size;simp;omega) (λe'=>aY e'.symm)).trans (heap_alloc W5 o q hq);have y1:=(cell?_of_block (a:=⟨Y,0,none⟩) (rm Y QD (uh rB).1)).trans b0;have y2:=(cell?_of_block (a:=⟨eD,0,none⟩) (rm eD Ze (uh rB).2.1)).trans ic;have y3:=k3.cell 2 rfl;refine⟨k1,y3,by rw[hc,Zv],k2.frozenAt k,y1,y2,λu=>⟨?_,?_,?_⟩⟩
         .exact(cell?_of_block (a:=⟨RB,2,none⟩) (heap_setCell _ _ _ _ (uh rB).2.2.1)).trans y3
         .exact(cell?_of_block (a:=⟨Y,0,none⟩) (heap_setCell _ _ _ _ (uh rB).2.2.2.1)).trans y1
         .exact(cell?_of_block (a:=⟨eD,0,none⟩) (heap_setCell _ _ _ _ (uh rB).2.2.2.2)).trans y2)
        have a3:∀(o:Obj),(W5.alloc o).cell? ⟨Y,0,none⟩=some (.pointer (some ⟨eD,0,none⟩)):=λo=>(cell?_of_block (a:=⟨Y,0,none⟩) (heap_alloc W5 o _ QD)).trans b0;have a4:∀(o:Obj),(W5.alloc o).cell? ⟨eD,0,none⟩=some (.pointer (some ⟨eA,0,none⟩)):=λo=>(cell?_of_block (a:=⟨eD,0,none⟩) (heap_alloc W5 o _ Ze)).trans ic;have GE:=ab (zq2 GJ (zq2 Cu (zq2 cI (zq2 ar (zq2 yc (zq2 Zf (zq2 bS Jh)))))));have hm2t:ML.length+1<=2000000000000:=(by omega);clear Zv fD HRS lz GJ PC OF HAK UD IZ cI HQ1 Cu HEA rB SR Jh OO f7 TX Im yc uF CZ Zf Mv QX ahG ahH vj OS hRw ar bS QM OQ hkB QD Ze hd jk Zq ht WE hj0 hy0 hy1 hy2;go_region_law (refine IN _ rfl (.tmp 86) (.tmp 92) 125 rfl 0 126 i0 _ 1 8 underlying125 jN fW fy fJ rfl (by decide) (.slice fa ML.length fc) ML.length (ML.map FE.p) (by simp[Act.eval]) ((uh jc).alloc _) ⟨W5.heap.size,0,none⟩ 1 [.pointer (some ⟨eA,0,none⟩)] (by simp[Act.eval]) rfl (aM W5 _ rfl [.pointer (some ⟨eA,0,none⟩)] _) (by intro u hu;simp only[mem_singleton]at hu;subst hu;rfl) hm2t (by decide) (zq5 _) ?_;intro g2 cap2 w2 br aL dA;obtain⟨LY,ll,AG,uN,Dd,hk6,hk7⟩:=uh HKN w2 g2 cap2 _ br aL dA;have uB:=ab LY;clear br aL dA LY hk7)
        all_goals
         obtain⟨GJ,Cu,cI,ar,yc,Zf,bS,Jh⟩:=uh GE;go_wp2_with fail
         go_roundg (G3-1)
         case rel=>exact⟨j+1,_,_,by omega,by go_num,ab ⟨(uh uB).of_eq (λ_ _=>rfl) ⟨(uh uB).bl.os,(uh uB).bl.tape,(uh uB).bl.output,(uh uB).bl.size,(uh uB).bl.block⟩,by rw[length_set];exact(uh Cu).1,by
          rw[uh cI,getD_eq_getElem?_getD,getElem?_set_self (by rw[(uh Cu).1];exact ar)];rfl,λi hi=>by
          rw[getD_eq_getElem?_getD,getElem?_set_ne (λe'=>hi e'.symm),<-getD_eq_getElem?_getD];exact(uh Cu).2 i hi⟩⟩
         case measure=>omega
       .have Zq:decide ((j:Int)<(l.length:Int))=false:=(by simp;omega);have HN:Hid (Rz w wr RB (Cl (mj s.wr (k+1))) av2 (.slice (some ⟨kB,0,none⟩) K.length K.length) (mj s.wr (k+1)) FV' L'/\L'.length=K.length/\(∀i,i<k+1->L'.getD i []=(K.getD i []).map (·.x))/\∀i,k+1<=i->L'.getD i []=[]):=ab ⟨by rw[<-uh HAK];exact r1,r2,λi hi=>by
          by_cases e:i=k
          .rw[e,r3,take_of_length_le (by omega),<-(uh OF).1]
          .rw[r4 i e];exact(uh GJ).2.1 i (by omega),λi hi=>by rw[r4 i (by omega)];exact(uh GJ).2.2 i (by omega)⟩
        clear r1 r2 r3 r4 hJ;go_wp2_with fail
        go_roundg (G1-1)
        case rel=>exact⟨k+1,av2,FV',L',by omega,by go_num,HN⟩
        case measure=>omega
   .have hd:decide ((k:Int)<(K.length:Int))=false:=(by simp;omega);have HP:Hid (dP RB wr):=ab (by
     rw[uh fD,uh HRS];have hk:k=s.wr.length:=(by rw[(uh H).wl];omega);refine⟨av,_,FV,L,by rw[<-hk];exact h1,?_,λl hl x hx=>?_⟩
     .show _=s.kn.map _;rw[(uh H).km,map_map];apply ext_getElem?;intro i;rw[getElem?_map,getElem?_map];by_cases hi:i<K.length
      .have h5:=h3 i (by rw[hk,(uh H).wl];exact hi);rw[bC (by omega),bC hi]at h5;rw[getElem?_eq_getElem (by omega),getElem?_eq_getElem hi];simp only[Option.map_some,h5,map_map,Function.comp_apply];rfl
      .rw[getElem?_eq_none (by omega),getElem?_eq_none (by omega)];rfl
     .obtain⟨i,hi,rfl⟩:=mem_iff_getElem.1 hl;have h5:=h3 i (by rw[hk,(uh H).wl];omega);rw[bC hi,bC (by omega)]at h5;rw[h5]at hx;obtain⟨e,he,rfl⟩:=mem_map.1 hx;exact⟨_,getElem_mem (by omega),e,he,rfl⟩)
    clear h1 h2 h3 h4 hsW hI;go_wp2_with fail
    go_ret;exact⟨RB,rfl,uh HP⟩
end
