import Derived.Test.YtciihepbeacppaaGreatM25
namespace Go.Proofs.YtciihepbeacppaaGreat
open Go.RowKit List
set_option linter.unusedVariables false
def jh(n:Nat)(i:oe):oe:=⟨i.op,i.x,i.y,i.cond,i.to+n,i.head⟩
theorem gB(m n:Nat)(l:List oe):(l.map (jh m)).map (jh n)=l.map (jh (m+n)):=by
 rw[map_map];apply map_congr_left;intro i _;show jh n (jh m i)=jh (m+n) i;unfold jh;simp only[Nat.add_assoc]
def I2(ws:List ByteArray)(s s':PS)(q:List ByteArray)(C:List oe):Prop :=
 Rd ws s' q/\s.vars <+: s'.vars/\∃N,s'.nodes=s.nodes++N/\∀vs,s'.vars <+: vs->BV vs s.nodes.length N C
theorem I2.len{ws:List ByteArray}{s s':PS}{q:List ByteArray}{C:List oe}(h:I2 ws s s' q C):s'.nodes.length=s.nodes.length+C.length:=by
 obtain⟨-,-,N,hN,hR⟩:=h;rw[hN,length_append,(hR _ (prefix_refl _)).len]
theorem I2.trans{ws:List ByteArray}{s s' s'':PS}{q q':List ByteArray}{C C':List oe}(h:I2 ws s s' q C)(k:I2 ws s' s'' q' C'):I2 ws s s'' q' (C++C'):=by
 obtain⟨-,hv,N,hN,hR⟩:=h;obtain⟨kr,kv,N',kN,kR⟩:=k;refine⟨kr,hv.trans kv,N++N',by rw[kN,hN,append_assoc],λvs hvs=>?_⟩;have h1:=hR vs (kv.trans hvs);refine h1.app ?_;have h2:=kR vs hvs;rw[hN,length_append]at h2;exact h2
theorem sN{ws:List ByteArray}{c:PS->PS}{n:Nat}{s:PS}{r:List ByteArray}(h:Rd ws s (dd::r)):io c ws (n+1) s=s:=by
 show(if (s.failed||bH ws jG s)=true then s else _)=_;rw[if_pos (by rw[ci oX h,show aV dd jG=true from aT _];simp)]
theorem xM{ws:List ByteArray}{c:PS->PS}{n:Nat}{s:PS}{x:ByteArray}{r:List ByteArray}(h:Rd ws s (x::r))(hx:x≠dd):io c ws (n+1) s=io c ws n (c s):=by
 show(if (s.failed||bH ws jG s)=true then s else io c ws n (c s))=_;rw[h.1,ci oX h,show aV x jG=false from bm hx];rfl
theorem XL(A R:List Nd)(t:Nd)(k n:Nat)(h:k=A.length):dG k n (A++t::R)=A++{ t with ot:=n }::R:=tL _ t R A h
theorem ady(A R:List Nd)(t:Nd)(k n:Nat)(h:k=A.length):fP k n (A++t::R)=A++{ t with nx:=n }::R:=tL _ t R A h
theorem N5{vs:List UInt8}{nd:Nd}{c:List ByteArray}{hd:Bool}{j n m:Nat}(h:TI vs nd (Jn c))(hx:nd.nx=j+1)(hm:m=n):NI vs j { nd with ot:=m } ⟨(Jn c).op,(Jn c).x,(Jn c).y,(Jn c).cond,n,hd⟩ :=
 zq1 (zq0 ⟨h,hx,hm⟩)
def SB(c:List ByteArray)(n:Nat):oe:=⟨(Jn c).op,(Jn c).x,(Jn c).y,(Jn c).cond,n,false⟩
theorem Ew{b:List ByteArray}{k:Nat}(h:fR b k):∃T:List oe,T.length=k/\∀(ws:List ByteArray) (f n:Nat) (q:List ByteArray) (s:PS),b.length<f->b.length<n->fs m7 q=false->Rd ws s (b++q) ->
  ∃n' s',io (jF (cC ws f) ws) ws n s=io (jF (cC ws f) ws) ws n' s'/\n<=n'+b.length/\I2 ws s s' q (T.map (jh s.nodes.length)):=by
 induction h using fR.ind with
 |nil =>
  refine⟨[],rfl,λws f n q s _ _ _ hr=>⟨n,s,rfl,by simp,hr,prefix_refl _,[],by simp,λ_ _=>trivial⟩⟩
 |@sim p r k hp hr ih =>
  obtain⟨T,hT,ih⟩:=ih;obtain⟨i,hi⟩:∃i,rsI p=some i:=by
   obtain⟨x,t,e⟩:=ud hp;have ah6:Rd (p++[l9]) ⟨0,false,[],[],[]⟩ (p++l9::[]):=⟨rfl,rfl,zq5 _⟩;obtain⟨-,i,-,h1,-⟩:=Ug hp ah6;exact⟨i,h1⟩
  refine⟨i::T.map (jh 1),by simp[hT],λws f n q s hf hn hq lO=>?_⟩;simp only[length_append,length_cons]at hf hn;cases n with
  |zero=>omega
  |succ n =>
   rw[show p++l9::r++q=p++l9::(r++q) by simp]at lO;obtain⟨nd,i',⟨l1,l2,l3,l4⟩,lN,hS⟩:=Ug hp lO;rw[hi]at lN;injection lN with lN;subst lN;have hB:I2 ws s (qT ws s) (r++q) [jh s.nodes.length i]:=⟨l1,l2,[nd],l3,λvs hv=>⟨zq0 ⟨hS.up hv,l4⟩,trivial⟩⟩;obtain⟨n',s',h1,h2,h3⟩:=ih ws f n q (qT ws s) (by omega) (by omega) hq l1;have uR:=Yp hp;have uS:=Yr hp;have hx3:=Yq hp;obtain⟨x,t,e⟩:=ud hp;have WR:Rd ws s (x::(t++l9::(r++q))):=(by rw[e]at lO;exact lO);have ec:jF (cC ws f) ws s=qT ws s:=by
    unfold jF;rw[ci oW WR,ci jQ WR,show aV x kX=false from bm (uR x (by rw[e];simp)),show aV x bQ=false from bm (uS x (by rw[e];simp))];rfl
   refine⟨n',s',?_,by simp only[length_append,length_cons];omega,?_⟩
   .rw[xM WR (hx3 x (by rw[e];simp)),ec];exact h1
   .have:=hB.trans h3;rw[hB.len]at this;rw[map_cons,gB,Nat.add_comm 1];exact this
 |@whl d b r j k hd hb hr ihb ihr =>
  obtain⟨Tb,Lq,ihb⟩:=ihb;obtain⟨Tr,Tz,ihr⟩:=ihr;refine⟨SB d (j+2)::(Tb.map (jh 1)++[gt 0])++Tr.map (jh (j+2)),by simp[Lq,Tz];omega,λws f n q s hf hn hq lO=>?_⟩;simp only[length_append,length_cons]at hf hn;cases n with
  |zero=>omega
  |succ n =>
   cases f with
   |zero=>omega
   |succ f =>
    have e:(rA::lw::(d++kS::cK::(b++dd::r)))++q=rA::lw::(d++kS::cK::(b++dd::(r++q))):=(by simp);rw[e]at lO;have a1:=dI jQ lO;obtain⟨t1,t2,nd,t3,t4,t5⟩:=N1 hd a1.rd;rw[a1.nd]at t3 t4;have Fe:b.length<ws.length+2:=by
     have h1:=congrArg List.length lO.2.1;simp only[length_drop,length_append,length_cons]at h1;omega
    have a2:=dI wI t1;obtain⟨n1,s1,h1,jf,b1,b2,N,b3,b5⟩:=ihb ws f (ws.length+2) (dd::(r++q)) (aF ws kY (fB ws (aF ws bQ s))) (by omega) Fe Bw a2.rd;obtain⟨n2,rfl⟩:∃n2,n1=n2+1:=⟨n1-1,by omega⟩;rw[sN b1]at h1;have a3:=dI oX b1;have eA:lV (cC ws (f+1)) ws s=aF ws jG s1:=by
     show aF ws jG (io (jF (cC ws f) ws) ws (ws.length+2) (aF ws kY (fB ws (aF ws bQ s))))=_;rw[h1]
    rw[<-eA]at a3;have fH:(aF ws kY (fB ws (aF ws bQ s))).nodes.length=s.nodes.length+1:=(by rw[a2.nd,t3];simp);rw[fH]at b5;have I9:N.length=j:=(by have:=(b5 _ (prefix_refl _)).len;rw[length_map,Lq]at this;exact this);have eN:(lV (cC ws (f+1)) ws s).nodes=s.nodes++nd::N:=(by rw[a3.nd,b3,a2.nd,t3];simp);have eV:(fB ws (aF ws bQ s)).vars <+: (lV (cC ws (f+1)) ws s).vars:=(a2.vs.trans b2).trans a3.vs;have eS:(uV (cC ws (f+1)) ws s).nodes=s.nodes++{ nd with ot:=s.nodes.length+(j+2) }::(N++[{ gK with nx:=s.nodes.length }]):=by
     show dG s.nodes.length (bY gK (lV (cC ws (f+1)) ws s)).nodes.length (fP (lV (cC ws (f+1)) ws s).nodes.length s.nodes.length (bY gK (lV (cC ws (f+1)) ws s)).nodes)=_;have e1:(bY gK (lV (cC ws (f+1)) ws s)).nodes=(s.nodes++nd::N)++{ gK with nx:=(s.nodes++nd::N).length+1 }::[]:=by
      show(lV (cC ws (f+1)) ws s).nodes++[_]=_;rw[eN]
     have e2:fP (s.nodes++nd::N).length s.nodes.length ((s.nodes++nd::N)++{ gK with nx:=(s.nodes++nd::N).length+1 }::[])=s.nodes++nd::(N++[{ gK with nx:=s.nodes.length }]):=by
      rw[ady _ _ _ _ _ rfl];simp
     rw[e1,eN,e2,XL _ _ _ _ _ rfl];have e3:(s.nodes++nd::N++[({ gK with nx:=(s.nodes++nd::N).length+1 }:Nd)]).length=s.nodes.length+(j+2):=(by simp[I9]);rw[e3]
    have hB:I2 ws s (uV (cC ws (f+1)) ws s) (r++q) ((SB d (j+2)::(Tb.map (jh 1)++[gt 0])).map (jh s.nodes.length)):=by
     refine⟨a3.rd,(a1.vs.trans t2).trans eV,_,eS,λvs hv=>?_⟩;have Ip:(lV (cC ws (f+1)) ws s).vars <+: vs:=hv;refine⟨N5 (t5.up (eV.trans Ip)) t4 (by show _=j+2+s.nodes.length;omega),?_⟩;have h5:=b5 vs (a3.vs.trans Ip);rw[map_append,gB];rw[Nat.add_comm s.nodes.length 1]at h5;refine BV.app (by rw[Nat.add_comm s.nodes.length 1];exact h5) ⟨zq1 (zq1 ⟨rfl,rfl,?_⟩),trivial⟩;show s.nodes.length=0+s.nodes.length;omega
    obtain⟨n',s',h3,h4,h6⟩:=ihr ws (f+1) n q (uV (cC ws (f+1)) ws s) (by omega) (by omega) hq a3.rd;have ec:jF (cC ws (f+1)) ws s=uV (cC ws (f+1)) ws s:=by
     unfold jF;rw[ci oW lO,ci jQ lO,show aV rA kX=false from adS,show aV rA bQ=true from aT _];rfl
    refine⟨n',s',?_,by simp only[length_append,length_cons];omega,?_⟩
    .rw[xM lO adQ,ec];exact h3
    .have:=hB.trans h6;rw[hB.len]at this;rw[map_append,gB (j+2)];have e4:s.nodes.length+((SB d (j+2)::(Tb.map (jh 1)++[gt 0])).map (jh s.nodes.length)).length=j+2+s.nodes.length:=(by simp[Lq];omega);rw[e4]at this;exact this
 |@ife d b r j k hd hb hr ihb ihr =>
  obtain⟨Tb,Lq,ihb⟩:=ihb;obtain⟨Tr,Tz,ihr⟩:=ihr;refine⟨SB d (j+1)::Tb.map (jh 1)++Tr.map (jh (j+1)),by simp[Lq,Tz];omega,λws f n q s hf hn hq lO=>?_⟩;simp only[length_append,length_cons]at hf hn;cases n with
  |zero=>omega
  |succ n =>
   cases f with
   |zero=>omega
   |succ f =>
    have e:(mt::lw::(d++kS::cK::(b++dd::r)))++q=mt::lw::(d++kS::cK::(b++dd::(r++q))):=(by simp);rw[e]at lO;have a1:=dI oW lO;obtain⟨t1,t2,nd,t3,t4,t5⟩:=N1 hd a1.rd;rw[a1.nd]at t3 t4;have Fe:b.length<ws.length+2:=by
     have h1:=congrArg List.length lO.2.1;simp only[length_drop,length_append,length_cons]at h1;omega
    have a2:=dI wI t1;obtain⟨n1,s1,h1,jf,b1,b2,N,b3,b5⟩:=ihb ws f (ws.length+2) (dd::(r++q)) (aF ws kY (fB ws (aF ws kX s))) (by omega) Fe Bw a2.rd;obtain⟨n2,rfl⟩:∃n2,n1=n2+1:=⟨n1-1,by omega⟩;rw[sN b1]at h1;have a3:=dI oX b1;have eA:ch (cC ws (f+1)) ws s=aF ws jG s1:=by
     show aF ws jG (io (jF (cC ws f) ws) ws (ws.length+2) (aF ws kY (fB ws (aF ws kX s))))=_;rw[h1]
    rw[<-eA]at a3;have fH:(aF ws kY (fB ws (aF ws kX s))).nodes.length=s.nodes.length+1:=(by rw[a2.nd,t3];simp);rw[fH]at b5;have I9:N.length=j:=(by have:=(b5 _ (prefix_refl _)).len;rw[length_map,Lq]at this;exact this);have eN:(ch (cC ws (f+1)) ws s).nodes=s.nodes++nd::N:=(by rw[a3.nd,b3,a2.nd,t3];simp);have eV:(fB ws (aF ws kX s)).vars <+: (ch (cC ws (f+1)) ws s).vars:=(a2.vs.trans b2).trans a3.vs;have lg:bH ws gM (ch (cC ws (f+1)) ws s)=false:=by
     rw[cV oU a3.rd];exact J2 hr hq
    have eB:nH (cC ws (f+1)) ws s={ ch (cC ws (f+1)) ws s with nodes:=dG s.nodes.length (ch (cC ws (f+1)) ws s).nodes.length (ch (cC ws (f+1)) ws s).nodes }:=by
     unfold nH;rw[if_neg (by simp[lg])]
    have eS:(nH (cC ws (f+1)) ws s).nodes=s.nodes++{ nd with ot:=s.nodes.length+(j+1) }::N:=by
     rw[eB];show dG s.nodes.length (ch (cC ws (f+1)) ws s).nodes.length (ch (cC ws (f+1)) ws s).nodes=_;rw[eN,XL _ _ _ _ _ rfl];simp only[length_append,length_cons,I9]
    have hRd:Rd ws (nH (cC ws (f+1)) ws s) (r++q):=(by rw[eB];exact a3.rd);have hB:I2 ws s (nH (cC ws (f+1)) ws s) (r++q) ((SB d (j+1)::Tb.map (jh 1)).map (jh s.nodes.length)):=by
     refine⟨hRd,by rw[eB];exact(a1.vs.trans t2).trans eV,_,eS,λvs hv=>?_⟩;have Ip:(ch (cC ws (f+1)) ws s).vars <+: vs:=(by rw[eB]at hv;exact hv);refine⟨N5 (t5.up (eV.trans Ip)) t4 (by show _=j+1+s.nodes.length;omega),?_⟩;have h5:=b5 vs (a3.vs.trans Ip);show BV vs (s.nodes.length+1) N ((Tb.map (jh 1)).map (jh s.nodes.length));rw[gB,Nat.add_comm 1];exact h5
    obtain⟨n',s',h3,h4,h6⟩:=ihr ws (f+1) n q (nH (cC ws (f+1)) ws s) (by omega) (by omega) hq hRd;have ec:jF (cC ws (f+1)) ws s=nH (cC ws (f+1)) ws s:=by
     unfold jF;rw[ci oW lO,show aV mt kX=true from aT _];rfl
    refine⟨n',s',?_,by simp only[length_append,length_cons];omega,?_⟩
    .rw[xM lO T1,ec];exact h3
    .have:=hB.trans h6;rw[hB.len]at this;rw[map_append,gB (j+1)];have e4:s.nodes.length+((SB d (j+1)::Tb.map (jh 1)).map (jh s.nodes.length)).length=j+1+s.nodes.length:=(by simp[Lq];omega);rw[e4]at this;exact this
 |@ifl d b e r j i k hd hb he hr ihb ihe ihr =>
  obtain⟨Tb,Lq,ihb⟩:=ihb;obtain⟨Te,hTe,ihe⟩:=ihe;obtain⟨Tr,Tz,ihr⟩:=ihr;refine⟨SB d (j+2)::(Tb.map (jh 1)++gt (j+2+i)::Te.map (jh (j+2)))++Tr.map (jh (j+2+i)),by simp[Lq,hTe,Tz];omega,λws f n q s hf hn hq lO=>?_⟩;simp only[length_append,length_cons]at hf hn;cases n with
  |zero=>omega
  |succ n =>
   cases f with
   |zero=>omega
   |succ f =>
    have e0:(mt::lw::(d++kS::cK::(b++dd::m7::cK::(e++dd::r))))++q=mt::lw::(d++kS::cK::(b++dd::m7::cK::(e++dd::(r++q)))):=(by simp);rw[e0]at lO;have a1:=dI oW lO;obtain⟨t1,t2,nd,t3,t4,t5⟩:=N1 hd a1.rd;rw[a1.nd]at t3 t4;have Fe:b.length<ws.length+2/\e.length<ws.length+2:=by
     have h1:=congrArg List.length lO.2.1;simp only[length_drop,length_append,length_cons]at h1;omega
    have a2:=dI wI t1;obtain⟨n1,s1,h1,jf,b1,b2,N,b3,b5⟩:=ihb ws f (ws.length+2) (dd::m7::cK::(e++dd::(r++q))) (aF ws kY (fB ws (aF ws kX s))) (by omega) Fe.1 Bw a2.rd;obtain⟨n2,rfl⟩:∃n2,n1=n2+1:=⟨n1-1,by omega⟩;rw[sN b1]at h1;have a3:=dI oX b1;have eA:ch (cC ws (f+1)) ws s=aF ws jG s1:=by
     show aF ws jG (io (jF (cC ws f) ws) ws (ws.length+2) (aF ws kY (fB ws (aF ws kX s))))=_;rw[h1]
    rw[<-eA]at a3;have fH:(aF ws kY (fB ws (aF ws kX s))).nodes.length=s.nodes.length+1:=(by rw[a2.nd,t3];simp);rw[fH]at b5;have I9:N.length=j:=(by have:=(b5 _ (prefix_refl _)).len;rw[length_map,Lq]at this;exact this);have eN:(ch (cC ws (f+1)) ws s).nodes=s.nodes++nd::N:=(by rw[a3.nd,b3,a2.nd,t3];simp);have eV:(fB ws (aF ws kX s)).vars <+: (ch (cC ws (f+1)) ws s).vars:=(a2.vs.trans b2).trans a3.vs;have eB:(kf s.nodes.length (ch (cC ws (f+1)) ws s)).nodes=s.nodes++{ nd with ot:=s.nodes.length+(j+2) }::(N++[{ gK with nx:=s.nodes.length+(j+2) }]):=by
     show dG s.nodes.length (bY gK (ch (cC ws (f+1)) ws s).adv).nodes.length (bY gK (ch (cC ws (f+1)) ws s).adv).nodes=_;have e1:(bY gK (ch (cC ws (f+1)) ws s).adv).nodes=s.nodes++nd::(N++[{ gK with nx:=(s.nodes++nd::N).length+1 }]):=by
      show(ch (cC ws (f+1)) ws s).nodes++[{ gK with nx:=(ch (cC ws (f+1)) ws s).nodes.length+1 }]=_;rw[eN];simp
     rw[e1,XL _ _ _ _ _ rfl];have e2:(s.nodes++nd::N).length+1=s.nodes.length+(j+2):=(by simp[I9];omega);have e3:(s.nodes++nd::(N++[({ gK with nx:=s.nodes.length+(j+2) }:Nd)])).length=s.nodes.length+(j+2):=(by simp[I9]);rw[e2,e3]
    have lg:bH ws gM (ch (cC ws (f+1)) ws s)=true:=(cV oU a3.rd).trans (aT _);have hRb:Rd ws (kf s.nodes.length (ch (cC ws (f+1)) ws s)) (cK::(e++dd::(r++q))):=cM a3.rd;have a4:=dI wI hRb;obtain⟨n3,s3,h5,tr,d1,d2,N2,d3,d5⟩:=ihe ws f (ws.length+2) (dd::(r++q)) (aF ws kY (kf s.nodes.length (ch (cC ws (f+1)) ws s))) (by omega) Fe.2 Bw a4.rd;obtain⟨n4,rfl⟩:∃n4,n3=n4+1:=⟨n3-1,by omega⟩;rw[sN d1]at h5;have a5:=dI oX d1;have eBl:cC ws (f+1) (kf s.nodes.length (ch (cC ws (f+1)) ws s))=aF ws jG s3:=by
     show aF ws jG (io (jF (cC ws f) ws) ws (ws.length+2) (aF ws kY (kf s.nodes.length (ch (cC ws (f+1)) ws s))))=_;rw[h5]
    rw[<-eBl]at a5;have Wi:(aF ws kY (kf s.nodes.length (ch (cC ws (f+1)) ws s))).nodes.length=s.nodes.length+(j+2):=(by rw[a4.nd,eB];simp[I9]);rw[Wi]at d5;have agT:N2.length=i:=(by have:=(d5 _ (prefix_refl _)).len;rw[length_map,hTe]at this;exact this);have eS0:nH (cC ws (f+1)) ws s=J4 (ch (cC ws (f+1)) ws s).nodes.length (cC ws (f+1) (kf s.nodes.length (ch (cC ws (f+1)) ws s))):=(by unfold nH;rw[if_pos lg]);have eN5:(cC ws (f+1) (kf s.nodes.length (ch (cC ws (f+1)) ws s))).nodes=(s.nodes++{ nd with ot:=s.nodes.length+(j+2) }::N)++{ gK with nx:=s.nodes.length+(j+2) }::N2:=by
     rw[a5.nd,d3,a4.nd,eB];simp
    have eS:(nH (cC ws (f+1)) ws s).nodes=s.nodes++{ nd with ot:=s.nodes.length+(j+2) }::(N++{ gK with nx:=s.nodes.length+(j+2+i) }::N2):=by
     rw[eS0];show fP (ch (cC ws (f+1)) ws s).nodes.length (cC ws (f+1) (kf s.nodes.length (ch (cC ws (f+1)) ws s))).nodes.length (cC ws (f+1) (kf s.nodes.length (ch (cC ws (f+1)) ws s))).nodes=_;rw[eN5,ady _ _ _ _ _ (by rw[eN];simp)];have e3:(s.nodes++({ nd with ot:=s.nodes.length+(j+2) }:Nd)::N++({ gK with nx:=s.nodes.length+(j+2) }:Nd)::N2).length=s.nodes.length+(j+2+i):=(by simp[I9,agT];omega);rw[e3];simp
    have hRd:Rd ws (nH (cC ws (f+1)) ws s) (r++q):=(by rw[eS0];exact a5.rd);have eV5:(ch (cC ws (f+1)) ws s).vars <+: (cC ws (f+1) (kf s.nodes.length (ch (cC ws (f+1)) ws s))).vars:=(a4.vs.trans d2).trans a5.vs;have hB:I2 ws s (nH (cC ws (f+1)) ws s) (r++q) ((SB d (j+2)::(Tb.map (jh 1)++gt (j+2+i)::Te.map (jh (j+2)))).map (jh s.nodes.length)):=by
     refine⟨hRd,by rw[eS0];exact((a1.vs.trans t2).trans eV).trans eV5,_,eS,λvs hv=>?_⟩;have hv5:(cC ws (f+1) (kf s.nodes.length (ch (cC ws (f+1)) ws s))).vars <+: vs:=(by rw[eS0]at hv;exact hv);have Ip:=eV5.trans hv5;refine⟨N5 (t5.up (eV.trans Ip)) t4 (by show _=j+2+s.nodes.length;omega),?_⟩;have g5:=b5 vs (a3.vs.trans Ip);have g6:=d5 vs (a5.vs.trans hv5);show BV vs (s.nodes.length+1) _ ((Tb.map (jh 1)++gt (j+2+i)::Te.map (jh (j+2))).map (jh s.nodes.length));rw[map_append,map_cons,gB,gB,Nat.add_comm 1];refine g5.app ⟨zq1 (zq1 ⟨rfl,rfl,by show s.nodes.length+(j+2+i)=j+2+i+s.nodes.length;omega⟩),?_⟩;rw[I9,show s.nodes.length+1+j+1=s.nodes.length+(j+2) by omega,Nat.add_comm (j+2)];exact g6
    obtain⟨n',s',h7,h8,h9⟩:=ihr ws (f+1) n q (nH (cC ws (f+1)) ws s) (by omega) (by omega) hq hRd;have ec:jF (cC ws (f+1)) ws s=nH (cC ws (f+1)) ws s:=by
     unfold jF;rw[ci oW lO,show aV mt kX=true from aT _];rfl
    refine⟨n',s',?_,by simp only[length_append,length_cons];omega,?_⟩
    .rw[xM lO T1,ec];exact h7
    .have:=hB.trans h9;rw[hB.len]at this;rw[map_append,gB (j+2+i)];have e4:s.nodes.length+((SB d (j+2)::(Tb.map (jh 1)++gt (j+2+i)::Te.map (jh (j+2)))).map (jh s.nodes.length)).length=j+2+i+s.nodes.length:=(by simp[Lq,hTe];omega);rw[e4]at this;exact this
def uT(n:Nd):Bool:=decide (n.op=7\/n.op=8\/n.op=9)
def Fi(n:Nd):Bool:=decide (n.op=4)
def rI(P:Nd->Bool)(nds:List Nd)(n:Nat):Nat:=(nds.drop n).countP P
theorem Ki{P:Nd->Bool}{nds:List Nd}{n:Nat}(hn:n<nds.length):rI P nds n=rI P nds (n+1)+(if P (nds.getD n aK)=true then 1 else 0):=by
 unfold rI;rw[drop_eq_getElem_cons hn,countP_cons,getD_eq_getElem?_getD,getElem?_eq_getElem hn];rfl
theorem lA{P:Nd->Bool}{nds:List Nd}{n m:Nat}(h:n<=m):rI P nds m<=rI P nds n:=by
 unfold rI;refine List.Sublist.countP_le ?_;rw[show m=n+(m-n) by omega,<-drop_drop];exact drop_sublist _ _
theorem Kh{P:Nd->Bool}{nds:List Nd}{n m:Nat}(hn:n<nds.length)(h:n<m)(hp:P (nds.getD n aK)=true):rI P nds m+1<=rI P nds n:=by
 have h1:=Ki (P:=P) hn;rw[if_pos hp]at h1;have h2:=lA (P:=P) (nds:=nds) (n:=n+1) (m:=m) h;omega
def gu(nds:List Nd)(n:Nat)(f:CF):Nat:=9 ^ (a8 f+rI Fi nds n)*2 ^ (rI uT nds n)
structure xB(nds:List Nd)(n:Nat)(f:CF):Prop where
 td:Td f
 k3:K3 f
 nm:a8 f+rI Fi nds n<=9
theorem K3.jo{f:CF}(h:K3 f)(a b:Nat):K3 (wH f a b):=by
 intro p hp;obtain⟨q,hq,rfl⟩:=mem_map.1 hp;exact h q hq
theorem K3.owA{f:CF}(h:K3 f){i:Nat}(hi:i<f.ow.length):(owA f i).k=3:=h _ (rY hi)
theorem KM{f:CF}(h:K3 f)(c:Nat):(oG f c).1=[]\/(oG f c).1=[f]:=by
 unfold oG;split
 .exact zq0 rfl
 .rename_i i hi;unfold Vw;rw[if_pos (h.owA (gg hi).1)];exact zq1 rfl
theorem Xv{f:CF}(h:K3 f){c i:Nat}(hi:i<f.ow.length):gO f c i=if gi f c (owA f i).l=true then [] else [kF f c i]:=by
 unfold gO;rw[if_neg (show ¬ ((owA f i).k=4) by rw[h.owA hi];decide),append_nil]
def JoI(f:CF)(v:Nat)(x:CF):Prop:=∃i,i<f.ow.length/\x=wH f (owA f i).l (f.cl.getD (1+v) 0)
theorem XF{f:CF}(h:K3 f){v i:Nat}(hi:i<f.ow.length){r:List CF × Bool}(hr:∀x∈r.1,JoI f v x):(∀x∈(wP f v i r).1,JoI f v x)/\(wP f v i r).1.length<=r.1.length+1:=by
 unfold wP;rw[Xv h hi];split
 .exact⟨hr,by simp⟩
 .simp only[foldl_cons,foldl_nil];have h2:=KM (h.jo (owA f i).l (f.cl.getD (1+v) 0)) ((kF f (f.cl.getD (1+v) 0) i).cl.getD (1+v) 0);unfold BY;show(∀x∈r.1++(oG (kF f _ i) _).1,_)/\(r.1++(oG (kF f _ i) _).1).length<=_;have h3:(oG (kF f (f.cl.getD (1+v) 0) i) ((kF f (f.cl.getD (1+v) 0) i).cl.getD (1+v) 0)).1=[]\/(oG (kF f (f.cl.getD (1+v) 0) i) ((kF f (f.cl.getD (1+v) 0) i).cl.getD (1+v) 0)).1=[kF f (f.cl.getD (1+v) 0) i]:=h2;rcases h3 with e|e
  .rw[e,append_nil];exact⟨hr,by omega⟩
  .rw[e];refine⟨λx hx=>?_,by simp⟩;rcases mem_append.1 hx with hx|hx
   .exact hr x hx
   .rw[mem_singleton]at hx;exact⟨i,hi,hx⟩
theorem Nb{f:CF}(h:K3 f){v:Nat}:∀(l:List Nat) {r:List CF × Bool},(∀i∈l,i<f.ow.length)->(∀x∈r.1,JoI f v x)->(∀x∈(l.foldl (λr i=>wP f v i r) r).1,JoI f v x)/\(l.foldl (λr i=>wP f v i r) r).1.length<=r.1.length+l.length
 |[],r,_,hr=>⟨hr,by simp⟩
 |i::l,r,hl,hr=>by
  obtain⟨h1,h2⟩:=XF h (v:=v) (hl i (by simp)) hr;obtain⟨g1,g2⟩:=Nb h (v:=v) l (r:=wP f v i r) (λj hj=>hl j (by simp[hj])) h1;refine⟨g1,?_⟩;rw[foldl_cons,length_cons];omega
theorem XE{f:CF}(h:K3 f)(v:Nat):((jV f v).1=[]\/(jV f v).1=[f])\/(er f.ow (f.cl.getD (1+v) 0)=none/\(jV f v).1.length<=f.ow.length/\∀x∈(jV f v).1,JoI f v x):=by
 unfold jV;split
 .exact zq0 (zq0 rfl)
 .split
  .exact zq0 (KM h _)
  .rename_i hb;right;obtain⟨h1,h2⟩:=Nb h (v:=v) (range f.ow.length) (r:=([],false)) (λi hi=>mem_range.1 hi) (λx hx=>by simp at hx);exact⟨by simpa using hb,by simpa using h2,h1⟩
structure Opn(v:Nat)(G:CF->CF):Prop where
 ok:∀{x N},pT N v x->au (G x)
 lv:∀{x N},pT N v x->∀c∈dO (G x),c∈dO x
 k3:∀{x},K3 x->K3 (G x)
theorem DD{f:CF}{i:Nat}(hi:i<f.ow.length):(owA f i).l∈dO f/\(owA f i).r∈dO f:=wM (rY hi)
theorem JY{N v:Nat}{x:CF}(h:pT N v x):pV x (x.cl.getD (1+v) 0)<x.ow.length:=by
 obtain⟨i,hi⟩:=Option.isSome_iff_exists.1 h.bg;unfold pV;rw[hi];exact(gg hi).1
theorem J9{f:CF}{k i:Nat}(hi:i<4):qE f k i∈dO f:=by unfold qE;split;exact Bd (by omega);exact Bd (by omega)
theorem XI{n:Nd}:Opn n.ai (λg=>jd g n):=⟨λh=>(xT h).1,λh c hc=>by
 rcases yJ h.ok.c5 hc with hc|rfl
 .exact hc
 .exact(DD (JY h)).2,λh=>h⟩
theorem XK{n:Nd}(ha:n.ai<4):Opn n.v (λg=>uU g n):=⟨λh=>(Du h).1,λh c hc=>by
 rcases Rt h.ok.c5 hc with hc|rfl|rfl
 .exact hc
 .exact(DD (JY h)).1
 .exact J9 ha,fun {x} h p hp=>by
 rcases mem_or_eq_of_mem_set hp with hp|rfl
 .exact h p hp
 .show(owA x _).k=3;by_cases hi:pV x (x.cl.getD (1+n.v) 0)<x.ow.length
  .exact h.owA hi
  .have WK:(⟨(owA x (pV x (x.cl.getD (1+n.v) 0))).k,(owA x (pV x (x.cl.getD (1+n.v) 0))).l,qE x n.ak n.ai⟩:Pr)∈x.ow.set (pV x (x.cl.getD (1+n.v) 0)) ⟨(owA x (pV x (x.cl.getD (1+n.v) 0))).k,(owA x (pV x (x.cl.getD (1+n.v) 0))).l,qE x n.ak n.ai⟩:=hp;rw[set_eq_of_length_le (by omega)]at WK;have h9:=h _ WK;exact h9⟩
theorem XJ(v:Nat):Opn v (λg=>xV g v):=⟨λh=>(CW h).1,fun {x N} h c hc=>by
 have h1:=FK _ hc;exact Xt h.ok.c5 (show c∈dO (jD x _) from h1),fun {x} h p hp=>by
 have h1:p∈(jD x (pV x (x.cl.getD (1+v) 0))).ow:=by
  have e:=yT (jD x (pV x (x.cl.getD (1+v) 0))).ow (g:=dx (jD x (pV x (x.cl.getD (1+v) 0))) (x.cl.getD (1+v) 0) ((jD x (pV x (x.cl.getD (1+v) 0))).cl.getD 0 0)) (c:=x.cl.getD (1+v) 0);have WK:p∈(List.foldl (λh p=>dx h (x.cl.getD (1+v) 0) p.l) (dx (jD x (pV x (x.cl.getD (1+v) 0))) (x.cl.getD (1+v) 0) ((jD x (pV x (x.cl.getD (1+v) 0))).cl.getD 0 0)) (jD x (pV x (x.cl.getD (1+v) 0))).ow).ow:=hp;rw[e]at WK;exact WK
 exact h p ((mM _ _).subset h1)⟩
theorem lW{f g:CF}(h:au g)(hs:∀c∈dO g,c∈dO f):a8 (bR g)<=a8 f:=by
 have:=rW h (S:=range (a8 f)) (λc hc=>mem_range.2 (fM c (hs c hc)));simpa using this
theorem MX{f g:CF}{a b:Nat}(h:au g)(h5:f.cl.length=5)(ha:a∈dO f)(hb:b∈dO f)(uH:a≠b)(hs:∀c∈dO g,c∈dO (wH f a b)):a8 (bR g)+1<=a8 f:=by
 have h1:=rW h (S:=(range (a8 f)).erase b) (λc hc=>by
  obtain⟨h1,h2⟩:=Ua h5 (hs c hc);rw[List.Nodup.mem_erase_iff nodup_range,mem_range];refine⟨λe=>uH (h2 e),?_⟩;rcases h1 with h1|rfl
  .exact fM c h1
  .exact fM c ha)
 rw[length_erase_of_mem (mem_range.2 (fM b hb)),length_range]at h1;have:=fM b hb;omega
theorem Gt{α:Type}{g:α->Nat}{X:Nat}:∀(l:List α),(∀a∈l,g a<=X)->a6 g l<=l.length*X
 |[],_=>by simp[a6]
 |a::l,h=>by
  have h1:=h a (by simp);have h2:=Gt l (λb hb=>h b (by simp[hb]));simp only[a6,length_cons,Nat.succ_mul];omega
theorem r7{a b:Nat}(h:a<=b):9 ^ a<=9 ^ b:=Nat.pow_le_pow_right (by omega) h
theorem rZ{a b:Nat}(h:a<=b):2 ^ a<=2 ^ b:=Nat.pow_le_pow_right (by omega) h
theorem Ul{nds:List Nd}{n m:Nat}{f g:CF}(h:n<=m)(hn:a8 g<=a8 f):gu nds m g<=gu nds n f :=
 Nat.mul_le_mul (r7 (Nat.add_le_add hn (lA h))) (rZ (lA h))
theorem SK{nds:List Nd}{n m:Nat}{f g:CF}(h:n<=m)(hn:a8 g+1<=a8 f):9*gu nds m g<=gu nds n f:=by
 unfold gu;have h1:9*9 ^ (a8 g+rI Fi nds m)<=9 ^ (a8 f+rI Fi nds n):=by
  rw[Nat.mul_comm,<-Nat.pow_succ];exact r7 (by have:=lA (P:=Fi) (nds:=nds) h;omega)
 rw[<-Nat.mul_assoc];exact Nat.mul_le_mul h1 (rZ (lA h))
theorem XM{f:CF}(h:au f):f.ow.length<=a8 f:=by
 have:=List.Nodup.length_le_of_subset h.lf (l₂:=range (a8 f)) (λc hc=>by
  obtain⟨p,hp,rfl⟩:=mem_map.1 hc;exact mem_range.2 (fM _ (wM hp).1))
 simpa using this
theorem xB.of{nds:List Nd}{n m:Nat}{f g:CF}(h:xB nds n f)(hm:n<=m)(hg:au g)(hk:K3 g)(hn:a8 (bR g)<=a8 f):xB nds m (bR g):=⟨hg.tidy,hk.td,by have:=h.nm;have:=lA (P:=Fi) (nds:=nds) hm;omega⟩
theorem XH{nds:List Nd}{n m v:Nat}{f:CF}{G:CF->CF}(hv:v<4)(hm:n<=m)(h:xB nds n f)(hG:Opn v G):(∀g∈(cH (jV f v) G).nx,xB nds m g)/\a6 (gu nds m) (cH (jV f v) G).nx<=gu nds n f:=by
 have ng:=lX hv h.td.ok h.td.ln;show(∀g∈(jV f v).1.map (λx=>bR (G x)),_)/\a6 _ ((jV f v).1.map (λx=>bR (G x)))<=_;rcases XE h.k3 v with(e|e)|⟨hb,db,hJ⟩
 .rw[e];exact⟨λg hg=>by simp at hg,by simp[a6]⟩
 .have hx:=ng f (by rw[e];simp);have hn:=lW (hG.ok hx) (hG.lv hx);rw[e];refine⟨λg hg=>?_,?_⟩
  .simp only[map_cons,map_nil,mem_singleton]at hg;subst hg;exact h.of hm (hG.ok hx) (hG.k3 h.k3) hn
  .simp only[map_cons,map_nil,a6,Nat.add_zero];exact Ul hm hn
 .have key:∀x∈(jV f v).1,a8 (bR (G x))+1<=a8 f/\K3 (G x)/\au (G x):=by
   intro x hx;have ho:=ng x hx;obtain⟨i,hi,rfl⟩:=hJ x hx;refine⟨MX (hG.ok ho) h.td.ok.c5 (DD hi).1 (Bd (by omega)) (λe=>pW hb _ (rY hi) e) (hG.lv ho),hG.k3 (h.k3.jo _ _),hG.ok ho⟩
  refine⟨λg hg=>?_,?_⟩
  .obtain⟨x,hx,rfl⟩:=mem_map.1 hg;obtain⟨k1,k2,k3⟩:=key x hx;exact h.of hm k3 k2 (by omega)
  .have h9:f.ow.length<=9:=(by have:=XM h.td.ok;have:=h.nm;omega);obtain⟨X,hX⟩:∃X,X=gu nds n f / 9:=⟨_,rfl⟩;have h1:=Gt (g:=gu nds m) (X:=X) ((jV f v).1.map (λx=>bR (G x))) (λg hg=>by
    obtain⟨x,hx,rfl⟩:=mem_map.1 hg;have:=SK (nds:=nds) hm (key x hx).1;omega)
   rw[length_map]at h1;have h2:(jV f v).1.length*X<=9*X:=Nat.mul_le_mul_right _ (by omega);omega
theorem BH{α:Type}(g:α->Nat):∀(a b:List α),a6 g (a++b)=a6 g a+a6 g b
 |[],b=>by simp[a6]
 |x::a,b=>by simp only[cons_append,a6,BH g a b];omega
theorem N3{α:Type}(g:α->Nat){a b:List α}(h:a.Sublist b):a6 g a<=a6 g b:=by
 induction h with
 |slnil=>exact zq4 _
 |cons x _ ih=>simp only[a6];omega
 |cons_cons x _ ih=>simp only[a6];omega
structure UY(nds:List Nd)(n:Nat)(f:CF)(o:JI):Prop where
 nx:∀g∈o.nx,xB nds (nds.getD n aK).nx g
 ot:∀g∈o.ot,xB nds (nds.getD n aK).ot g
 w:a6 (gu nds (nds.getD n aK).nx) o.nx+a6 (gu nds (nds.getD n aK).ot) o.ot<=gu nds n f
structure Fwd(nds:List Nd):Prop where
 v:∀n,(nds.getD n aK).v<4/\(nds.getD n aK).ai<4
 nx:∀n,n<nds.length->(nds.getD n aK).op≠0->n<(nds.getD n aK).nx
 ot:∀n,n<nds.length->uT (nds.getD n aK)=true->n<(nds.getD n aK).ot
theorem YI{nds:List Nd}{n m k:Nat}{f g h:CF}(hn:n<nds.length)(ht:uT (nds.getD n aK)=true)(hm:n<m)(hk:n<k)(hg:a8 g<=a8 f)(hh:a8 h<=a8 f):gu nds m g+gu nds k h<=gu nds n f:=by
 have one:∀{m:Nat} {g:CF},n<m->a8 g<=a8 f->2*gu nds m g<=gu nds n f:=fun {m g} hm hg=>by
  unfold gu;have h1:=r7 (show a8 g+rI Fi nds m<=a8 f+rI Fi nds n by have:=lA (P:=Fi) (nds:=nds) (Nat.le_of_lt hm);omega);have h2:2*2 ^ (rI uT nds m)<=2 ^ (rI uT nds n):=by
   rw[Nat.mul_comm,<-Nat.pow_succ];exact rZ (Kh hn hm ht)
  calc 2*(9 ^ (a8 g+rI Fi nds m)*2 ^ (rI uT nds m))=9 ^ (a8 g+rI Fi nds m)*(2*2 ^ (rI uT nds m)):=by rw[Nat.mul_left_comm]
   _<=_:=Nat.mul_le_mul h1 h2
 have h1:=one hm hg;have h2:=one hk hh;omega
theorem aa0{nds:List Nd}(hF:Fwd nds){n:Nat}(hn:n<nds.length){f:CF}(h:xB nds n f):UY nds n f (cN (nds.getD n aK) f):=by
 obtain⟨hv,ha⟩:=hF.v n;have vy:=hF.nx n hn;have O3:=hF.ot n hn;obtain⟨nd,dV⟩:∃nd,nd=nds.getD n aK:=⟨_,rfl⟩;have h5:=h.td.ok.c5;have keep:∀{m:Nat} {g:CF},n<=m->au g->K3 g->(∀c∈dO g,c∈dO f)->xB nds m (bR g)/\gu nds m (bR g)<=gu nds n f:=λhm hg hk hl =>
  ⟨h.of hm hg hk (lW hg hl),Ul hm (lW hg hl)⟩
 have one:∀{g:CF},(nds.getD n aK).op≠0->au g->K3 g->(∀c∈dO g,c∈dO f)->UY nds n f ⟨[bR g],[],false,false,false⟩:=λho hg hk hl=>by
  obtain⟨k1,k2⟩:=keep (Nat.le_of_lt (vy ho)) hg hk hl;exact⟨λx hx=>by simp only[mem_singleton]at hx;subst hx;exact k1,λx hx=>by simp at hx,by simp only[a6,Nat.add_zero];exact k2⟩
 have opn:∀{v:Nat} {G:CF->CF},(nds.getD n aK).op≠0->v<4->Opn v G->UY nds n f (cH (jV f v) G):=λho hv hG=>by
  obtain⟨k1,k2⟩:=XH hv (Nat.le_of_lt (vy ho)) h hG;exact⟨k1,λx hx=>by simp[cH]at hx,by show _+a6 _ ([]:List CF)<=_;simp only[a6,Nat.add_zero];exact k2⟩
 -- the two sides of a test
 have hjo:∀{a b:Nat},a∈dO f->gi f a b=false->au (wH f a b)/\K3 (wH f a b)/\∀c∈dO (wH f a b),c∈dO f:=fun {a b} Wc hd=>⟨h.td.ok.jo (by have:=fM _ Wc;have:=h.nm;omega) (mn hd),h.k3.jo _ _,λc hc=>by
  rcases(Ua h5 hc).1 with hc|rfl
  .exact hc
  .exact Wc⟩
 have test:∀{x y:List CF} {m k:Nat},uT (nds.getD n aK)=true->n<m->n<k->(x=[]\/∃g,x=[bR g]/\au g/\K3 g/\∀c∈dO g,c∈dO f)->(y=[]\/∃g,y=[bR g]/\au g/\K3 g/\∀c∈dO g,c∈dO f)->(∀g∈x,xB nds m g)/\(∀g∈y,xB nds k g)/\a6 (gu nds m) x+a6 (gu nds k) y<=gu nds n f:=by
  intro x y m k ht hm hk hx hy;rcases hx with rfl|⟨g,rfl,g1,g2,g3⟩
  .rcases hy with rfl|⟨g',rfl,g1',g2',g3'⟩
   .exact⟨λz hz=>by simp at hz,λz hz=>by simp at hz,by simp[a6]⟩
   .obtain⟨k1,k2⟩:=keep (Nat.le_of_lt hk) g1' g2' g3';exact⟨λz hz=>by simp at hz,λz hz=>by rw[mem_singleton]at hz;subst hz;exact k1,by simp only[a6,Nat.add_zero,Nat.zero_add];exact k2⟩
  .rcases hy with rfl|⟨g',rfl,g1',g2',g3'⟩
   .obtain⟨k1,k2⟩:=keep (Nat.le_of_lt hm) g1 g2 g3;exact⟨λz hz=>by rw[mem_singleton]at hz;subst hz;exact k1,λz hz=>by simp at hz,by simp only[a6,Nat.add_zero];exact k2⟩
   .obtain⟨k1,-⟩:=keep (Nat.le_of_lt hm) g1 g2 g3;obtain⟨k1',-⟩:=keep (Nat.le_of_lt hk) g1' g2' g3';exact⟨λz hz=>by rw[mem_singleton]at hz;subst hz;exact k1,λz hz=>by rw[mem_singleton]at hz;subst hz;exact k1',by simp only[a6,Nat.add_zero];exact YI hn ht hm hk (lW g1 g3) (lW g1' g3')⟩
 have self:∃g,[bR f]=[bR g]/\au g/\K3 g/\∀c∈dO g,c∈dO f:=⟨f,rfl,h.td.ok,h.k3,λc hc=>hc⟩;have cm1:(og f nd).1=[]\/∃g,(og f nd).1=[bR g]/\au g/\K3 g/\∀c∈dO g,c∈dO f:=by
  simp only[og];split
  .exact zq0 rfl
  .rename_i hd;exact zq1 ⟨_,rfl,hjo (Bd (by rw[dV];omega)) (by simpa using hd)⟩
 have cm2:(og f nd).2=[]\/∃g,(og f nd).2=[bR g]/\au g/\K3 g/\∀c∈dO g,c∈dO f:=by
  simp only[og];split
  .exact zq0 rfl
  .exact zq1 ⟨_,rfl,h.td.ok.pa (h.td.ok.get _) (h.td.ok.cT _ _),h.k3,λc hc=>hc⟩
 rw[<-dV]at hv ha vy O3 one opn test ⊢;have QO:nd.op≠0->n<nd.nx:=vy;unfold cN;split
 .exact⟨λx hx=>by simp[DC]at hx,λx hx=>by simp[DC]at hx,by simp[DC,a6]⟩
 .rename_i h0;split
  .exact one h0 (h.td.ok.sC _ (h.td.ok.cT _ _)) h.k3 (λc hc=>by
    rcases yJ h5 hc with hc|rfl
    .exact hc
    .exact J9 ha)
  .split
   .exact opn h0 ha XI
   .split
    .exact opn h0 hv (XK ha)
    .split
     .rename_i h4;split
      .exact⟨λx hx=>by simp at hx,λx hx=>by simp at hx,by simp[a6]⟩
      .rename_i hN;have LH:=CJ (v:=nd.v) h.td.ok (by omega);have ar:=QO h0;have OX:=Kh (P:=Fi) hn ar (by rw[<-dV];simpa[Fi] using h4);have ZB:a8 (bR (I6 f nd.v))<=a8 f+1:=by
        have:=rW LH (S:=range (a8 f+1)) (λc hc=>by
         rw[mem_range];rcases yJ (f:=yz f ⟨3,a8 f,f.cl.getD 0 0⟩) h5 hc with hc|rfl
         .rcases Xs h5 hc with hc|rfl|rfl
          .have:=fM c hc;omega
          .exact Nat.lt_succ_self _
          .have:=fM _ (Bd (f:=f) (i:=0) (by omega));show f.cl.getD 0 0<a8 f+1;omega
         .exact Nat.lt_succ_self _)
        simpa using this
       have hk:K3 (I6 f nd.v):=by
        intro p hp;rcases mem_append.1 hp with hp|hp
        .exact h.k3 p hp
        .rw[mem_singleton]at hp;subst hp;rfl
       have anP:=h.nm;refine⟨λx hx=>?_,λx hx=>by simp at hx,?_⟩
       .simp only[mem_singleton]at hx;subst hx;exact⟨LH.tidy,hk.td,by rw[<-dV];omega⟩
       .simp only[a6,Nat.add_zero];rw[<-dV];exact Nat.mul_le_mul (r7 (by omega)) (rZ (lA (Nat.le_of_lt ar)))
     .split
      .exact opn h0 hv (XJ nd.v)
      .split
       .rename_i h7;have ht:uT nd=true:=(by simp[uT,h7]);obtain⟨k1,k2,k3⟩:=test ht (QO h0) (O3 ht) (zq1 self) (zq1 self);exact⟨by rw[<-dV];exact k1,by rw[<-dV];exact k2,by rw[<-dV];exact k3⟩
       .split
        .rename_i h8;have ht:uT nd=true:=(by simp[uT,h8]);obtain⟨k1,k2,k3⟩:=test ht (QO h0) (O3 ht) cm1 cm2;exact⟨by rw[<-dV];exact k1,by rw[<-dV];exact k2,by rw[<-dV];exact k3⟩
        .split
         .rename_i h9;have ht:uT nd=true:=(by simp[uT,h9]);obtain⟨k1,k2,k3⟩:=test ht (QO h0) (O3 ht) cm2 cm1;exact⟨by rw[<-dV];exact k1,by rw[<-dV];exact k2,by rw[<-dV];exact k3⟩
         .exact one h0 h.td.ok h.k3 (λc hc=>hc)
def rx(g:Nat->List fS->Nat):Nat->List (List fS)->Nat
 |_,[]=>0
 |k,a::l=>g k a+rx g (k+1) l
theorem uq(g:Nat->List fS->Nat):∀(l:List (List fS)) (k n:Nat) (x:List fS),n<l.length->rx g k (l.set n x)+g (k+n) (l.getD n [])=rx g k l+g (k+n) x
 |[],k,n,x,h=>by simp at h
 |a::l,k,0,x,_=>by simp[rx];omega
 |a::l,k,n+1,x,h=>by
  have:=uq g l (k+1) n x (by simpa using h);rw[show k+1+n=k+(n+1) by omega]at this;simp only[set_cons_succ,rx,getD_cons_succ];omega
theorem BI(g:Nat->List fS->Nat):∀(l:List (List fS)) (k n:Nat),n<l.length->g (k+n) (l.getD n [])<=rx g k l
 |[],k,n,h=>by simp at h
 |a::l,k,0,_=>by simp[rx]
 |a::l,k,n+1,h=>by
  have:=BI g l (k+1) n (by simpa using h);rw[show k+1+n=k+(n+1) by omega]at this;simp only[rx,getD_cons_succ];omega
def IR(nds:List Nd)(s:Sr):Nat:=rx (λn l=>a6 (gu nds n) (lH l)) 0 s.kn
structure sF(c:Cd)(cu rest:Nat)(s:Sr):Prop where
 kl:s.kn.length=c.nds.length
 fo:∀n,∀e∈bf s n,xB c.nds n e.f
 un:∀n,cu<=n->∀e∈bf s n,e.d=false
 dn:∀n,n<cu->∀e∈bf s n,e.d=true
 tw:IR c.nds s+rest<=q8
 ok:s.ok=true
theorem YH(nds:List Nd)(n:Nat)(f:CF):1<=gu nds n f:=Nat.mul_pos (Nat.pow_pos (by omega)) (Nat.pow_pos (by omega))
theorem FC{nds:List Nd}{n:Nat}:∀(l:List CF),l.length<=a6 (gu nds n) l
 |[]=>by simp
 |f::l=>by
  have:=YH nds n f;have:=FC (nds:=nds) (n:=n) l;simp only[a6,length_cons];omega
theorem ES{l:List fS}(h:∀e∈l,e.d=false):lH l=l.map (·.f):=by
 unfold lH;rw[filter_eq_self.2 (λe he=>by rw[h e he];rfl)]
theorem Ri{s:Sr}{n:Nat}(h:s.kn.length<=n):bf s n=[]:=by unfold bf;rw[getD_eq_getElem?_getD,getElem?_eq_none h];rfl
theorem mx{s:Sr}{n m:Nat}{x:List fS}{s':Sr}(e:s'.kn=s.kn.set n x):bf s' m=if m=n/\n<s.kn.length then x else bf s m:=by
 unfold bf;rw[e,getD_eq_getElem?_getD,getElem?_set];by_cases h:n=m
 .subst h;by_cases hl:n<s.kn.length
  .simp[hl]
  .rw[if_pos rfl,if_neg hl,if_neg (by simp[hl]),getD_eq_getElem?_getD,getElem?_eq_none (by omega)]
 .rw[if_neg h,if_neg (by rintro⟨rfl,-⟩;exact h rfl),getD_eq_getElem?_getD]
theorem sF.len{c:Cd}{cu rest n:Nat}{s:Sr}(h:sF c cu rest s)(hn:cu<=n):(bf s n).length<=q8:=by
 by_cases hl:n<s.kn.length
 .have h1:=BI (λn l=>a6 (gu c.nds n) (lH l)) s.kn 0 n hl;have h2:(bf s n).length<=a6 (gu c.nds n) (lH (bf s n)):=by
   have h3:=FC (nds:=c.nds) (n:=n) (lH (bf s n));rw[ES (h.un n hn),length_map]at h3;rw[ES (h.un n hn)];exact h3
  have h3:=h.tw;unfold IR at h3;rw[Nat.zero_add]at h1;have h4:(bf s n).length<=rx (λn l=>a6 (gu c.nds n) (lH l)) 0 s.kn:=zq3 h2 h1;omega
 .rw[Ri (by omega)];simp
structure U1(c:Cd):Prop where
 lp:c.lp=false
 bd:c.bd=false
 hd:∀n,c.hd.getD n false=false
 fw:Fwd c.nds
theorem Ba{c:Cd}(hc:U1 c){cu rest n:Nat}(hn:cu<=n){f:CF}(hf:xB c.nds n f){s:Sr}(h:sF c cu (rest+gu c.nds n f) s):sF c cu rest (bq c n f s):=by
 have hN:cG c n f=f:=by unfold cG;rw[if_neg (by rw[hc.hd n];decide)]
 have db:=h.len hn;unfold bq;rw[hN];split
 .exact⟨h.kl,h.fo,h.un,h.dn,by have:=h.tw;show IR c.nds s+rest<=q8;omega,by show(s.ok&&decide ((bf s n).length<=q8))=true;rw[h.ok];simpa using db⟩
 .obtain⟨x,hx⟩:∃x,x=(bf s n).filter (λe=>!Cm e.f f)++[⟨f,false⟩]:=⟨_,rfl⟩;obtain⟨s',hs'⟩:∃s',s'=ru c (oZ n f (nS c s (2*(bf s n).length))):=⟨_,rfl⟩;have f7:s'.kn=s.kn.set n x:=by rw[hs',hx];rfl
  have bE:s'.ok=true:=by rw[hs'];show(s.ok&&decide ((bf s n).length<=q8))=true;rw[h.ok];simpa using db
  rw[<-hs'];refine⟨by rw[f7,length_set];exact h.kl,λm e he=>?_,λm hm e he=>?_,λm hm e he=>?_,?_,bE⟩
  .rw[mx f7]at he;split at he
   .rename_i hm;rw[hm.1];rw[hx]at he;rcases mem_append.1 he with he|he
    .exact h.fo n e (mem_filter.1 he).1
    .rw[mem_singleton]at he;subst he;exact hf
   .exact h.fo m e he
  .rw[mx f7]at he;split at he
   .rw[hx]at he;rcases mem_append.1 he with he|he
    .exact h.un n hn e (mem_filter.1 he).1
    .rw[mem_singleton]at he;subst he;rfl
   .exact h.un m hm e he
  .rw[mx f7,if_neg (by rintro⟨rfl,-⟩;omega)]at he;exact h.dn m hm e he
  .have htw:=h.tw;unfold IR at htw ⊢;rw[f7];by_cases hl:n<s.kn.length
   .have h1:=uq (λn l=>a6 (gu c.nds n) (lH l)) s.kn 0 n x hl;rw[Nat.zero_add]at h1;have h2:a6 (gu c.nds n) (lH x)<=a6 (gu c.nds n) (lH (bf s n))+gu c.nds n f:=by
     have e1:lH x=lH ((bf s n).filter (λe=>!Cm e.f f))++[f]:=by
      rw[hx];unfold lH;rw[filter_append,map_append];rfl
     rw[e1,BH];have h3:a6 (gu c.nds n) (lH ((bf s n).filter (λe=>!Cm e.f f)))<=a6 (gu c.nds n) (lH (bf s n)):=N3 _ ((filter_sublist.filter _).map _);simp only[a6];omega
    have h3:a6 (gu c.nds n) (lH (s.kn.getD n []))=a6 (gu c.nds n) (lH (bf s n)):=rfl;omega
   .rw[set_eq_of_length_le (by omega)];omega
theorem AZ{c:Cd}(hc:U1 c){cu n fuel a:Nat}(hn:cu<=n):∀(l:List CF) {rest:Nat} {s:Sr},(∀f∈l,xB c.nds n f)->sF c cu (rest+a6 (gu c.nds n) l) s->sF c cu rest (l.foldl (λs g=>cZ c fuel a n g s) s)
 |[],rest,s,_,h=>h
 |f::l,rest,s,hl,h=>by
  have e:cZ c fuel a n f s=bq c n f s:=by unfold cZ;rw[if_pos (zq0 hc.lp)]
  rw[foldl_cons,e];refine AZ hc hn l (λg hg=>hl g (by simp[hg])) (Ba hc hn (hl f (by simp)) ?_);have e2:rest+a6 (gu c.nds n) (f::l)=rest+a6 (gu c.nds n) l+gu c.nds n f:=by simp only[a6];omega
  rw[<-e2];exact h
theorem sF.wrI{c:Cd}{cu rest n k:Nat}{b:Bool}{s:Sr}(h:sF c cu rest s):sF c cu rest (wrI b n k s):=by
 unfold Go.Proofs.YtciihepbeacppaaGreat.wrI;split
 .exact⟨h.kl,h.fo,h.un,h.dn,h.tw,h.ok⟩
 .exact h
theorem sF.fuS{c:Cd}{cu rest:Nat}{b:Bool}{s:Sr}(h:sF c cu rest s):sF c cu rest (fuS b s):=⟨h.kl,h.fo,h.un,h.dn,h.tw,h.ok⟩
theorem Sp{c:Cd}(hc:U1 c){n rest fuel:Nat}(hn:n<c.nds.length){f:CF}(hf:xB c.nds n f){s:Sr}(h:sF c (n+1) (rest+gu c.nds n f) s):sF c (n+1) rest (mf c fuel n f s):=by
 have hw:=aa0 hc.fw hn hf;have vy:=hc.fw.nx n hn;have O3:=hc.fw.ot n hn;obtain⟨o,ho⟩:∃o,o=cN (c.nds.getD n aK) f:=⟨_,rfl⟩;have rl:o.nx≠[]->n<(c.nds.getD n aK).nx:=λaY=>vy (λe=>aY (by rw[ho];unfold cN;rw[if_pos e];rfl));have aic:o.ot≠[]->n<(c.nds.getD n aK).ot:=λaY=>O3 (by
  apply Classical.byContradiction;intro hT;apply aY;have V7:¬ ((c.nds.getD n aK).op=7\/(c.nds.getD n aK).op=8\/(c.nds.getD n aK).op=9):=by simpa[uT] using hT
  rw[ho];unfold cN;split
  .rfl
  .split
   .rfl
   .split
    .rfl
    .split
     .rfl
     .split
      .split <;> rfl
      .split
       .rfl
       .split
        .exact absurd (zq0 (by assumption)) V7
        .split
         .exact absurd (zq1 (zq0 (by assumption))) V7
         .split
          .exact absurd (zq1 (zq1 (by assumption))) V7
          .rfl)
 rw[<-ho]at hw;unfold mf;simp only[<-ho];have lay1:∀{l:List CF} {m rest:Nat} {s:Sr},(l≠[]->n<m)->(∀g∈l,xB c.nds m g)->sF c (n+1) (rest+a6 (gu c.nds m) l) s->sF c (n+1) rest (l.foldl (λs g=>cZ c fuel n m g s) s):=by
  intro l m rest s hm hl hs;by_cases e:l=[]
  .subst e;exact hs
  .exact AZ hc (hm e) l hl hs
 refine lay1 aic hw.ot (lay1 rl hw.nx ?_);have h1:sF c (n+1) (rest+a6 (gu c.nds (c.nds.getD n aK).ot) o.ot+a6 (gu c.nds (c.nds.getD n aK).nx) o.nx) s:=⟨h.kl,h.fo,h.un,h.dn,by have:=h.tw;have:=hw.w;omega,h.ok⟩;exact h1.wrI.wrI.wrI.fuS
theorem GC{c:Cd}(hc:U1 c){n fuel:Nat}(hn:n<c.nds.length):∀(l:List CF) {s:Sr},(∀f∈l,xB c.nds n f)->sF c (n+1) (a6 (gu c.nds n) l) s->sF c (n+1) 0 (mg c fuel n l s)
 |[],s,_,h=>h
 |f::l,s,hl,h=>by
  unfold mg;split
  .exact⟨h.kl,h.fo,h.un,h.dn,by have:=h.tw;omega,h.ok⟩
  .refine GC hc hn l (λg hg=>hl g (by simp[hg])) (Sp hc hn (hl f (by simp)) ?_);have e:a6 (gu c.nds n) (f::l)=a6 (gu c.nds n) l+gu c.nds n f:=(by simp only[a6];omega);rw[<-e];exact h
theorem SE{c:Cd}(hc:U1 c){cu n fuel:Nat}{s:Sr}(hcu:cu<=n)(hn:n<c.nds.length)(hb:∀m,cu<=m->m<n->bf s m=[])(h:sF c cu 0 s):sF c (n+1) 0 (mZ c fuel n s):=by
 have hl:n<s.kn.length:=by rw[h.kl];exact hn
 have hF:∀f∈lH (bf s n),xB c.nds n f:=by
  intro f hf;obtain⟨e,he,rfl⟩:=mem_map.1 hf;exact h.fo n e (mem_filter.1 he).1
 refine GC hc hn _ hF ?_;obtain⟨x,hx⟩:∃x,x=(bf s n).map (λe=>(⟨e.f,true⟩:fS)):=⟨_,rfl⟩;have f7:({ s with kn:=s.kn.set n ((bf s n).map (λe=>⟨e.f,true⟩)) }:Sr).kn=s.kn.set n x:=by rw[hx]
 refine⟨by rw[f7,length_set];exact h.kl,λm e he=>?_,λm hm e he=>?_,λm hm e he=>?_,?_,h.ok⟩
 .rw[mx f7]at he;split at he
  .rename_i hm;rw[hx]at he;obtain⟨y,hy,rfl⟩:=mem_map.1 he;rw[hm.1];exact h.fo n y hy
  .exact h.fo m e he
 .rw[mx f7,if_neg (by rintro⟨rfl,-⟩;omega)]at he;exact h.un m (by omega) e he
 .rw[mx f7]at he;split at he
  .rw[hx]at he;obtain⟨y,-,rfl⟩:=mem_map.1 he;rfl
  .rename_i hm';by_cases hmc:m<cu
   .exact h.dn m hmc e he
   .rw[hb m (by omega) (by
     have:m≠n:=λe=>hm' ⟨e,hl⟩;omega)]at he
    simp at he
 .have htw:=h.tw;unfold IR at htw ⊢;rw[f7];have h1:=uq (λn l=>a6 (gu c.nds n) (lH l)) s.kn 0 n x hl;rw[Nat.zero_add]at h1;have h2:lH x=[]:=by
   rw[hx];unfold lH;rw[map_eq_nil_iff,filter_eq_nil_iff];intro e he;obtain⟨y,-,rfl⟩:=mem_map.1 he;simp
  have h3:a6 (gu c.nds n) (lH (s.kn.getD n []))=a6 (gu c.nds n) (lH (bf s n)):=rfl;rw[h2]at h1;simp only[a6]at h1;omega
theorem Gm{c:Cd}(hc:U1 c){fuel:Nat}:∀(k:Nat) {cu:Nat} {s:Sr},sF c cu 0 s->c.nds.length<k+cu->cu<=c.nds.length->(jY c fuel k s).ok=true
 |0,_,_,_,h,h'=>by omega
 |k+1,cu,s,h,hk,_=>by
  unfold jY;split
  .exact h.ok
  .rename_i n hp;split
   .exact h.ok
   .obtain⟨hn,oI,Lu⟩:=findIdx?_eq_some_iff_getElem.1 hp;have at_:∀j,(hj:j<s.kn.length)->bf s j=s.kn[j]:=λj hj=>by unfold bf;rw[getD_eq_getElem?_getD,getElem?_eq_getElem hj];rfl
    have hcu:cu<=n:=by
     apply Classical.byContradiction;intro ar;obtain⟨e,he,hde⟩:=any_eq_true.1 oI;rw[<-at_ n hn]at he;rw[h.dn n (by omega) e he]at hde;simp at hde
    have hn':n<c.nds.length:=(by rw[<-h.kl];exact hn);have hS:=SE hc (fuel:=fuel) hcu hn' (λm hm hmn=>by
     rw[eq_nil_iff_forall_not_mem];intro e he;have h1:=h.un m hm e he;have h2:=Lu m hmn;rw[at_ m (by omega)]at he;apply h2;rw[any_eq_true];exact⟨e,he,by rw[h1];rfl⟩) h
    exact Gm hc k hS (by omega) (by omega)
