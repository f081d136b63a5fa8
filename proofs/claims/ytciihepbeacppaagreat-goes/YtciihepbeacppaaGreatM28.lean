import Derived.Test.YtciihepbeacppaaGreatM27
set_option maxRecDepth 100000
set_option maxHeartbeats 0
namespace Go.Proofs.YtciihepbeacppaaGreat
open Tryz Go.RowKit List World Below
set_option linter.unusedVariables false
def kJ(nds:List Nd)(m:MS)(c:Int):MS × Nat :=
 if m.wh≠0 then (m,0) else
 let nd:=Oc nds m.nd
 let l:=m.st.getD nd.v 0
 let r:=vU m.st nd.ak nd.ai
 if nd.op=1 then (pi nds { m with st:=m.st.set nd.v r } nd.nx,0)
 else if nd.op=4 then Ix nds m nd c
 else if nd.op=2 then (P0 nds m nd r,0)
 else if nd.op=3 then ((match cq m.cs l with|some i=>ni nds { m with cs:=uV m.cs i r } nd l true|none=>ni nds m nd l false),0)
 else if nd.op=5 then ((match cq m.cs l with|some i=>ni nds { m with cs:=Kq m.cs i } nd l true|none=>ni nds m nd l false),0)
 else if nd.op=7 then (GR nds m nd (c.tmod 2 != 0),0)
 else if nd.op=8 then (GR nds m nd (l==r),0)
 else if nd.op=9 then (GR nds m nd (l != r),0)
 else if nd.op=6\/nd.op=10 then (pi nds m nd.nx,0)
 else (m,0)
section
variable {w w':World} {R Q:Nat} {ws:List ByteArray} {s:PS} {al:List bt} {m:MS} {vv pv nv sv cv:Value}
theorem bk6{w:World}{N T:Nat}{a b c d e f:Value}(h:Bk w N T [a,b,c,d,e,f]):w.cell? ⟨N,0,none⟩=some a/\w.cell? ⟨N,1,none⟩=some b/\w.cell? ⟨N,2,none⟩=some c/\w.cell? ⟨N,3,none⟩=some d/\w.cell? ⟨N,4,none⟩=some e/\w.cell? ⟨N,5,none⟩=some f/\∀j,w.frozen? ⟨N,j,none⟩=false :=
 ⟨h.cell 0 rfl,h.cell 1 rfl,h.cell 2 rfl,h.cell 3 rfl,h.cell 4 rfl,h.cell 5 rfl,h.frz⟩
theorem akU{w:World}{N T:Nat}{a b c d e f a' b' c' d' e' f':Value}(h:Bk w N T [a,b,c,d,e,f]):Bk ((((((w.setCell ⟨N,0,none⟩ a').setCell ⟨N,1,none⟩ b').setCell ⟨N,2,none⟩ c').setCell ⟨N,3,none⟩ d').setCell ⟨N,4,none⟩ e').setCell ⟨N,5,none⟩ f') N T [a',b',c',d',e',f'] :=
 (((((h.set 0 a').set 1 b').set 2 c').set 3 d').set 4 e').set 5 f'
theorem Lg{w w2:World}{T:TypeId}{xs:List Value}(ax:Below ((w.alloc (.cells xs.toArray T)).drew).heap.size (w.alloc (.cells xs.toArray T)).drew w2):Below w.heap.size w w2/\Bk w2 w.heap.size T xs:=by
 have h1:Below (w.alloc (.cells xs.toArray T)).heap.size (w.alloc (.cells xs.toArray T)) w2:=⟨ax.os,ax.tape,ax.output,ax.size,ax.block⟩;exact⟨(af w _).trans (h1.mono (af w _).size),(Bk.new w T xs).below h1⟩
theorem Ty(h:Mc w R Q ws s al m vv pv nv sv cv)(c:Int)(hl:s.nodes.length<=100000)(hc:m.cs.length<=99999):
  Calls prog 64 #[.pointer (some ⟨R,0,none⟩),.int .i64 c] w λe w'=>e=.returned (.int .i64 ((kJ s.nodes m c).2:Nat))/\∃cv',Mc w' R Q ws s al (kJ s.nodes m c).1 vv pv nv sv cv'/\am (cZ R sv cv) w (cZ R sv cv') w':=by
 have c0:=h.c0;have c1:=h.c1;have c2:=h.c2;have H:=ab h;by_cases Ep:m.wh≠0
 .have fS:((m.wh:Int) != 0)=true:=by simpa[bne] using Ep
  have HE:Hid (kJ s.nodes m c=(m,0)):=ab (by unfold kJ;rw[if_pos Ep]);clear h Ep;go_enter func64,ntmps64;go_wp2_with fail
  go_ret;exact⟨by rw[uh HE];rfl,cv,by rw[uh HE];exact uh H,am.refl _ _⟩
 .have fS:((m.wh:Int) != 0)=false:=by simpa[bne] using Ep
  have HWH:=ab Ep;obtain⟨nd,cH⟩:∃nd,nd=Oc s.nodes m.nd:=⟨_,rfl⟩;obtain⟨op,v,ak,ai,nx,ot⟩:=nd;have KE:=ab cH;have Wu:Hid (∀W,Below w.heap.size w W->Calls prog 103 #[.pointer (some ⟨Q,0,none⟩),.int .i64 m.nd] W λe w'=>e=.returned (.agg #[.int .i64 op,.int .i64 v,.int .i64 ak,.int .i64 ai,.int .i64 nx,.int .i64 ot])/\Below W.heap.size W w'):=ab (λW hb=>(Dl m.nd (h.below hb).cp hl).mono (by rintro e w1 ⟨rfl,aO⟩;rw[<-cH];exact⟨rfl,aO⟩));have wP:=h.bk.lt;obtain⟨mn,YT⟩:∃mn:Int,mn=(m.nd:Int):=⟨_,rfl⟩;rw[<-YT]at c1 Wu;have hbA:=af w (.cells #[Value.int .i64 0,.int .i64 0,.int .i64 0,.int .i64 0,.int .i64 0,.int .i64 0] 186);have a0:=(hbA.cell wP).trans c0;have a1:=(hbA.cell wP).trans c1;have HBA:=ab hbA;have HNA:=ab (Bk.new w 186 [Value.int .i64 0,.int .i64 0,.int .i64 0,.int .i64 0,.int .i64 0,.int .i64 0]);have PV:=ab h.lt;clear h Ep cH YT hbA;go_enter func64,ntmps64;go_upto_region 3 with fail;go_cut [5] (λp wx=>∃N,p=.pointer (some ⟨N,0,none⟩)/\Hid (Bk wx N 186 [.int .i64 op,.int .i64 v,.int .i64 ak,.int .i64 ai,.int .i64 nx,.int .i64 ot])/\Hid (w.heap.size<=N)/\Hid (Below w.heap.size w wx))
  case first =>
   have hNR:¬ (w.heap.size=R):=(by omega);go_region_held3 (λW=>W.cell? ⟨R,0,none⟩=some (.pointer (some ⟨Q,0,none⟩))/\W.cell? ⟨R,1,none⟩=some (.int .i64 mn)) (first|(simp only[cell?_drew,c0,c1,and_self];done)|(simp only[cell?_drew,a0,a1,and_self];done)|(simp only[q0,q1,and_self];done)|(simp only[r0,r1,and_self];done)|(simp[cell?_setCell_far,q0,q1,hNR];done)|(simp[q0,q1,cell?_alloc_some];done))
    (first
     |(go_at_call 103;refine(uh Wu _ (by first|exact(Below.refl _ _).drew|exact(uh HBA).drew)).mono ?_;rintro e w2 ⟨rfl,ax⟩;have bu:Hid (Below w.heap.size w w2):=ab (by first|exact⟨ax.os,ax.tape,ax.output,ax.size,ax.block⟩|exact(Lg (xs:=[Value.int .i64 0,.int .i64 0,.int .i64 0,.int .i64 0,.int .i64 0,.int .i64 0]) ax).1);have q0:=((uh bu).cell wP).trans c0;have q1:=((uh bu).cell wP).trans c1;have r0:=((af w2 (.cells #[Value.int .i64 0,.int .i64 0,.int .i64 0,.int .i64 0,.int .i64 0,.int .i64 0] 186)).cell (zq6 wP (uh bu).size)).trans q0;have r1:=((af w2 (.cells #[Value.int .i64 0,.int .i64 0,.int .i64 0,.int .i64 0,.int .i64 0,.int .i64 0] 186)).cell (zq6 wP (uh bu).size)).trans q1;(try (have HNB:=ab (Lg (xs:=[Value.int .i64 0,.int .i64 0,.int .i64 0,.int .i64 0,.int .i64 0,.int .i64 0]) ax).2;obtain⟨x0,x1,x2,x3,x4,x5,xf⟩:=bk6 (uh HNB)));clear ax))
   .go_wp2_with fail
    go_meet
    exact⟨w2.heap.size,rfl,ab (Bk.new w2 186 [.int .i64 op,.int .i64 v,.int .i64 ak,.int .i64 ai,.int .i64 nx,.int .i64 ot]),ab (uh bu).size,ab ((uh bu).alloc (uh bu).size _)⟩
   .have Wx:=ab (akU (a':=.int .i64 op) (b':=.int .i64 v) (c':=.int .i64 ak) (d':=.int .i64 ai) (e':=.int .i64 nx) (f':=.int .i64 ot) (uh HNB));have HBl:Hid (Below w.heap.size w ((((((w2.setCell ⟨w.heap.size,0,none⟩ (.int .i64 op)).setCell ⟨w.heap.size,1,none⟩ (.int .i64 v)).setCell ⟨w.heap.size,2,none⟩ (.int .i64 ak)).setCell ⟨w.heap.size,3,none⟩ (.int .i64 ai)).setCell ⟨w.heap.size,4,none⟩ (.int .i64 nx)).setCell ⟨w.heap.size,5,none⟩ (.int .i64 ot))):=ab (((((((uh bu).setCell (p:=⟨w.heap.size,0,none⟩) (zq4 _) _).setCell (p:=⟨w.heap.size,1,none⟩) (zq4 _) _).setCell (p:=⟨w.heap.size,2,none⟩) (zq4 _) _).setCell (p:=⟨w.heap.size,3,none⟩) (zq4 _) _).setCell (p:=⟨w.heap.size,4,none⟩) (zq4 _) _).setCell (p:=⟨w.heap.size,5,none⟩) (zq4 _) _);clear x0 x1 x2 x3 x4 x5 xf q0 q1 r0 r1;go_wp2_with fail
    go_meet
    exact⟨w.heap.size,rfl,Wx,ab (zq4 _),HBl⟩
  case rest =>
   obtain⟨N,rfl,hN,hNl,hbW⟩:=hcut;obtain⟨z,hz⟩:∃z:Int,z=(op:Int):=⟨_,rfl⟩;rw[<-hz]at hN;have xI:Hid (Nd.cells ⟨op,v,ak,ai,nx,ot⟩=[.int .i64 z,.int .i64 v,.int .i64 ak,.int .i64 ai,.int .i64 nx,.int .i64 ot]):=ab (by rw[hz];rfl);have HZ:=ab hz;have h1:=(uh H).below (uh hbW);have Ig:Hid (N ∉ cZ R sv cv):=ab (λhm=>by have h1:=uh PV _ hm;have h2:=uh hNl;omega);obtain⟨x0,x1,x2,x3,x4,x5,-⟩:=bk6 (uh hN);have H1:=ab h1;have bC:Hid (am (cZ R sv cv) w (cZ R sv cv) wc):=ab (am.ofBw (uh hbW));have HVa:=ab (BN (uh H1) v);obtain⟨l,YM⟩:∃l,l=m.st.getD v 0:=⟨_,rfl⟩;obtain⟨r,Qk⟩:∃r,r=vU m.st ak ai:=⟨_,rfl⟩;rw[<-YM]at HVa;have HL0:=ab YM;have px:=ab Qk;clear h1 hz c0 c1 c2 a0 a1 HBA HNA Wu YM Qk;go_wp2_with fail
   refine(uh HVa).mono ?_;rintro e w2 ⟨rfl,n2,rfl⟩;have ax:=cJ wc n2;have H2:=ab ((uh H1).below ax);have bz:=ab ((uh bC).trans (am.ofBw ax));have sY:=(uh hN).below ax;obtain⟨w2,lQ⟩:∃w2,w2=wc.drewN n2:=⟨_,rfl⟩;rw[<-lQ]at H2 bz sY ⊢;obtain⟨y0,y1,y2,y3,y4,y5,-⟩:=bk6 sY;have vX:=ab sY;have HVl:=ab (N7 (uh H2) ak ai);rw[<-uh px]at HVl;clear sY ax lQ x0 x1 x2 x3 x4 x5;go_wp2_with fail
   refine(uh HVl).mono ?_;rintro e w3 ⟨rfl,bF⟩;have H3:=ab ((uh H2).below bF);have dd:=ab ((uh bz).trans (am.ofBw bF));have qN:=(uh vX).below bF;obtain⟨x0,x1,x2,x3,x4,x5,-⟩:=bk6 qN;have HN3:=ab qN;have bA:Hid (kJ s.nodes m c=(if op=1 then (pi s.nodes { m with st:=m.st.set v r } nx,0)
     else if op=4 then Ix s.nodes m ⟨op,v,ak,ai,nx,ot⟩ c
     else if op=2 then (P0 s.nodes m ⟨op,v,ak,ai,nx,ot⟩ r,0)
     else if op=3 then ((match cq m.cs l with|some i=>ni s.nodes { m with cs:=uV m.cs i r } ⟨op,v,ak,ai,nx,ot⟩ l true|none=>ni s.nodes m ⟨op,v,ak,ai,nx,ot⟩ l false),0)
     else if op=5 then ((match cq m.cs l with|some i=>ni s.nodes { m with cs:=Kq m.cs i } ⟨op,v,ak,ai,nx,ot⟩ l true|none=>ni s.nodes m ⟨op,v,ak,ai,nx,ot⟩ l false),0)
     else if op=7 then (GR s.nodes m ⟨op,v,ak,ai,nx,ot⟩ (c.tmod 2 != 0),0)
     else if op=8 then (GR s.nodes m ⟨op,v,ak,ai,nx,ot⟩ (l==r),0)
     else if op=9 then (GR s.nodes m ⟨op,v,ak,ai,nx,ot⟩ (l != r),0)
     else if op=6\/op=10 then (pi s.nodes m nx,0)
     else (m,0))):=ab (by
    unfold kJ;rw[if_neg (uh HWH),<-uh KE,uh HL0,uh px])
   clear qN bF y0 y1 y2 y3 y4 y5 fS;by_cases dV:op=1
   .subst dV;have HE:Hid (kJ s.nodes m c=(pi s.nodes { m with st:=m.st.set v r } nx,0)):=ab (uh bA);have t1:(z==1)=true:=(by rw[uh HZ];rfl);go_wp2_with fail
    refine(tQ (uh H3) v r).mono ?_;rintro e w4 ⟨rfl,h4,eG⟩;have rE:=(uh HN3).stp eG (uh Ig);have y4:=rE.cell 4 rfl;have H4:=ab h4;have dW:=ab ((uh dd).trans eG);clear rE h4 eG;go_wp2_with fail
    refine(iX (uh H4) nx hl (by show m.cs.length<=100000;omega)).mono ?_;rintro e w5 ⟨rfl,h5,f9⟩;have H5:=ab h5;have gN:=ab ((uh dW).trans f9);clear h5 f9;go_wp2_with fail
    go_ret;exact⟨by rw[uh HE];rfl,cv,by rw[uh HE];exact uh H5,uh gN⟩
   by_cases dV:op=4
   .subst dV;have HE:Hid (kJ s.nodes m c=Ix s.nodes m ⟨4,v,ak,ai,nx,ot⟩ c):=ab (uh bA);have t1:(z==1)=false:=(by rw[uh HZ];rfl);have t4:(z==4)=true:=(by rw[uh HZ];rfl);have HP:=ab (Ts (uh H3) ⟨4,v,ak,ai,nx,ot⟩ c hl hc);rw[uh xI]at HP;go_wp2_with fail
    refine(uh HP).mono ?_;rintro e w4 ⟨rfl,cv1,h4,eG⟩;have H4:=ab h4;have dW:=ab ((uh dd).trans eG);clear h4 eG;go_wp2_with fail
    go_ret;exact⟨by rw[uh HE];rfl,cv1,by rw[uh HE];exact uh H4,uh dW⟩
   by_cases dV:op=2
   .subst dV;have HE:Hid (kJ s.nodes m c=(P0 s.nodes m ⟨2,v,ak,ai,nx,ot⟩ r,0)):=ab (uh bA);have t1:(z==1)=false:=(by rw[uh HZ];rfl);have t4:(z==4)=false:=(by rw[uh HZ];rfl);have t2:(z==2)=true:=(by rw[uh HZ];rfl);have HP:=ab (Tv (uh H3) ⟨2,v,ak,ai,nx,ot⟩ r hl (by omega));rw[uh xI]at HP;go_wp2_with fail
    refine(uh HP).mono ?_;rintro e w4 ⟨rfl,h4,eG⟩;have H4:=ab h4;have dW:=ab ((uh dd).trans eG);clear h4 eG;go_wp2_with fail
    go_ret;exact⟨by rw[uh HE];rfl,cv,by rw[uh HE];exact uh H4,uh dW⟩
   by_cases dV:op=3
   .subst dV;have HE:Hid (kJ s.nodes m c=((match cq m.cs l with|some i=>ni s.nodes { m with cs:=uV m.cs i r } ⟨3,v,ak,ai,nx,ot⟩ l true|none=>ni s.nodes m ⟨3,v,ak,ai,nx,ot⟩ l false),0)):=ab (uh bA);have t1:(z==1)=false:=(by rw[uh HZ];rfl);have t4:(z==4)=false:=(by rw[uh HZ];rfl);have t2:(z==2)=false:=(by rw[uh HZ];rfl);have t3:(z==3)=true:=(by rw[uh HZ];rfl);have HC:=ab (It l r (uh H3).c4 (uh H3).cs (uh H3).srt);have q4:=(uh H3).c4;clear q4;go_wp2_with fail
    refine(uh HC).mono ?_;rintro e w4 (⟨hf,rfl,rfl⟩|⟨i,hf,rfl,od,eG⟩)
    .have ig:Hid (kJ s.nodes m c=(ni s.nodes m ⟨3,v,ak,ai,nx,ot⟩ l false,0)):=ab (by rw[uh HE,hf]);have HP:=ab (lT (uh H3) ⟨3,v,ak,ai,nx,ot⟩ l false hl (by omega));rw[uh xI]at HP;clear hf;go_wp2_with fail
     refine(uh HP).mono ?_;rintro e w5 ⟨rfl,h5,f9⟩;have H5:=ab h5;have gN:=ab ((uh dd).trans f9);clear h5 f9;go_wp2_with fail
     go_ret;exact⟨by rw[uh ig];rfl,cv,by rw[uh ig];exact uh H5,uh gN⟩
    .have ig:Hid (kJ s.nodes m c=(ni s.nodes { m with cs:=uV m.cs i r } ⟨3,v,ak,ai,nx,ot⟩ l true,0)):=ab (by rw[uh HE,hf]);obtain⟨h4,dA⟩:=(uh H3).linked od (GM _ _ _) (GN (uh H3).srt _ _) eG;have rE:=(uh HN3).stp dA (uh Ig);obtain⟨y0,y1,y2,y3,y4,y5,-⟩:=bk6 rE;clear rE od eG;have HP:=ab (lT h4 ⟨3,v,ak,ai,nx,ot⟩ l true hl (by show(uV m.cs i r).length<=100000;rw[GM];omega));rw[uh xI]at HP;have dW:=ab ((uh dd).trans dA);clear hf h4 dA;go_wp2_with fail
     refine(uh HP).mono ?_;rintro e w5 ⟨rfl,h5,f9⟩;have H5:=ab h5;have gN:=ab ((uh dW).trans f9);clear h5 f9;go_wp2_with fail
     go_ret;exact⟨by rw[uh ig];rfl,_,by rw[uh ig];exact uh H5,uh gN⟩
   by_cases dV:op=5
   .subst dV;have HE:Hid (kJ s.nodes m c=((match cq m.cs l with|some i=>ni s.nodes { m with cs:=Kq m.cs i } ⟨5,v,ak,ai,nx,ot⟩ l true|none=>ni s.nodes m ⟨5,v,ak,ai,nx,ot⟩ l false),0)):=ab (uh bA);have t1:(z==1)=false:=(by rw[uh HZ];rfl);have t4:(z==4)=false:=(by rw[uh HZ];rfl);have t2:(z==2)=false:=(by rw[uh HZ];rfl);have t3:(z==3)=false:=(by rw[uh HZ];rfl);have t5:(z==5)=true:=(by rw[uh HZ];rfl);have HC:=ab (AH (o:=4) l (uh H3).bk rfl (uh H3).cs (uh H3).srt (uh H3).nds.2.1);have q4:=(uh H3).c4;clear q4;go_wp2_with fail
    refine(uh HC).mono ?_;rintro e w4 (⟨hf,rfl,rfl⟩|⟨i,hf,rfl,cv1,gX,od,Ec,eG⟩)
    .have ig:Hid (kJ s.nodes m c=(ni s.nodes m ⟨5,v,ak,ai,nx,ot⟩ l false,0)):=ab (by rw[uh HE,hf]);have HP:=ab (lT (uh H3) ⟨5,v,ak,ai,nx,ot⟩ l false hl (by omega));rw[uh xI]at HP;clear hf;go_wp2_with fail
     refine(uh HP).mono ?_;rintro e w5 ⟨rfl,h5,f9⟩;have H5:=ab h5;have gN:=ab ((uh dd).trans f9);clear h5 f9;go_wp2_with fail
     go_ret;exact⟨by rw[uh ig];rfl,cv,by rw[uh ig];exact uh H5,uh gN⟩
    .have ig:Hid (kJ s.nodes m c=(ni s.nodes { m with cs:=Kq m.cs i } ⟨5,v,ak,ai,nx,ot⟩ l true,0)):=ab (by rw[uh HE,hf]);obtain⟨kG,-⟩:=ey hf;obtain⟨h4,dA⟩:=(uh H3).cells gX od (He kG).symm (Hf (uh H3).srt _) (by rw[Ec];exact(uh H3).nds.2.1) (by rw[Ec];exact eG);have rE:=(uh HN3).stp dA (uh Ig);obtain⟨y0,y1,y2,y3,y4,y5,-⟩:=bk6 rE;clear rE od eG gX Ec;have HP:=ab (lT h4 ⟨5,v,ak,ai,nx,ot⟩ l true hl (by show(Kq m.cs i).length<=100000;rw[He kG];omega));rw[uh xI]at HP;have dW:=ab ((uh dd).trans dA);clear hf h4 dA;go_wp2_with fail
     refine(uh HP).mono ?_;rintro e w5 ⟨rfl,h5,f9⟩;have H5:=ab h5;have gN:=ab ((uh dW).trans f9);clear h5 f9;go_wp2_with fail
     go_ret;exact⟨by rw[uh ig];rfl,_,by rw[uh ig];exact uh H5,uh gN⟩
   by_cases dV:op=7
   .subst dV;have HE:Hid (kJ s.nodes m c=(GR s.nodes m ⟨7,v,ak,ai,nx,ot⟩ (c.tmod 2 != 0),0)):=ab (uh bA);have t1:(z==1)=false:=(by rw[uh HZ];rfl);have t4:(z==4)=false:=(by rw[uh HZ];rfl);have t2:(z==2)=false:=(by rw[uh HZ];rfl);have t3:(z==3)=false:=(by rw[uh HZ];rfl);have t5:(z==5)=false:=(by rw[uh HZ];rfl);have t7:(z==7)=true:=(by rw[uh HZ];rfl);have HP:=ab (yX (uh H3) ⟨7,v,ak,ai,nx,ot⟩ (c.tmod 2 != 0) hl (by omega));rw[uh xI]at HP;go_wp2_with fail
    refine(uh HP).mono ?_;rintro e w4 ⟨rfl,h4,eG⟩;have H4:=ab h4;have dW:=ab ((uh dd).trans eG);clear h4 eG;go_wp2_with fail
    go_ret;exact⟨by rw[uh HE];rfl,cv,by rw[uh HE];exact uh H4,uh dW⟩
   by_cases dV:op=8
   .subst dV;have HE:Hid (kJ s.nodes m c=(GR s.nodes m ⟨8,v,ak,ai,nx,ot⟩ (l==r),0)):=ab (uh bA);have t1:(z==1)=false:=(by rw[uh HZ];rfl);have t4:(z==4)=false:=(by rw[uh HZ];rfl);have t2:(z==2)=false:=(by rw[uh HZ];rfl);have t3:(z==3)=false:=(by rw[uh HZ];rfl);have t5:(z==5)=false:=(by rw[uh HZ];rfl);have t7:(z==7)=false:=(by rw[uh HZ];rfl);have t8:(z==8)=true:=(by rw[uh HZ];rfl);have HP:=ab (yX (uh H3) ⟨8,v,ak,ai,nx,ot⟩ (l==r) hl (by omega));rw[uh xI]at HP;go_wp2_with fail
    refine(uh HP).mono ?_;rintro e w4 ⟨rfl,h4,eG⟩;have H4:=ab h4;have dW:=ab ((uh dd).trans eG);clear h4 eG;go_wp2_with fail
    go_ret;exact⟨by rw[uh HE];rfl,cv,by rw[uh HE];exact uh H4,uh dW⟩
   by_cases dV:op=9
   .subst dV;have HE:Hid (kJ s.nodes m c=(GR s.nodes m ⟨9,v,ak,ai,nx,ot⟩ (l != r),0)):=ab (uh bA);have t1:(z==1)=false:=(by rw[uh HZ];rfl);have t4:(z==4)=false:=(by rw[uh HZ];rfl);have t2:(z==2)=false:=(by rw[uh HZ];rfl);have t3:(z==3)=false:=(by rw[uh HZ];rfl);have t5:(z==5)=false:=(by rw[uh HZ];rfl);have t7:(z==7)=false:=(by rw[uh HZ];rfl);have t8:(z==8)=false:=(by rw[uh HZ];rfl);have t9:(z==9)=true:=(by rw[uh HZ];rfl);have HP:=ab (yX (uh H3) ⟨9,v,ak,ai,nx,ot⟩ (l != r) hl (by omega));rw[uh xI]at HP;go_wp2_with fail
    refine(uh HP).mono ?_;rintro e w4 ⟨rfl,h4,eG⟩;have H4:=ab h4;have dW:=ab ((uh dd).trans eG);clear h4 eG;go_wp2_with fail
    go_ret;exact⟨by rw[uh HE];rfl,cv,by rw[uh HE];exact uh H4,uh dW⟩
   by_cases dV:op=6
   .subst dV;have HE:Hid (kJ s.nodes m c=(pi s.nodes m nx,0)):=ab (uh bA);have t1:(z==1)=false:=(by rw[uh HZ];rfl);have t4:(z==4)=false:=(by rw[uh HZ];rfl);have t2:(z==2)=false:=(by rw[uh HZ];rfl);have t3:(z==3)=false:=(by rw[uh HZ];rfl);have t5:(z==5)=false:=(by rw[uh HZ];rfl);have t7:(z==7)=false:=(by rw[uh HZ];rfl);have t8:(z==8)=false:=(by rw[uh HZ];rfl);have t9:(z==9)=false:=(by rw[uh HZ];rfl);have t6:(z==6)=true:=(by rw[uh HZ];rfl);go_wp2_with fail
    refine(iX (uh H3) nx hl (by omega)).mono ?_;rintro e w4 ⟨rfl,h4,eG⟩;have H4:=ab h4;have dW:=ab ((uh dd).trans eG);clear h4 eG;go_wp2_with fail
    go_ret;exact⟨by rw[uh HE];rfl,cv,by rw[uh HE];exact uh H4,uh dW⟩
   by_cases dV:op=10
   .subst dV;have HE:Hid (kJ s.nodes m c=(pi s.nodes m nx,0)):=ab (uh bA);have t1:(z==1)=false:=(by rw[uh HZ];rfl);have t4:(z==4)=false:=(by rw[uh HZ];rfl);have t2:(z==2)=false:=(by rw[uh HZ];rfl);have t3:(z==3)=false:=(by rw[uh HZ];rfl);have t5:(z==5)=false:=(by rw[uh HZ];rfl);have t7:(z==7)=false:=(by rw[uh HZ];rfl);have t8:(z==8)=false:=(by rw[uh HZ];rfl);have t9:(z==9)=false:=(by rw[uh HZ];rfl);have t6:(z==6)=false:=(by rw[uh HZ];rfl);have t10:(z==10)=true:=(by rw[uh HZ];rfl);go_wp2_with fail
    refine(iX (uh H3) nx hl (by omega)).mono ?_;rintro e w4 ⟨rfl,h4,eG⟩;have H4:=ab h4;have dW:=ab ((uh dd).trans eG);clear h4 eG;go_wp2_with fail
    go_ret;exact⟨by rw[uh HE];rfl,cv,by rw[uh HE];exact uh H4,uh dW⟩
   have HE:Hid (kJ s.nodes m c=(m,0)):=ab (by
    rw[uh bA];simp[*])
   have t1:(z==1)=false:=(by rw[uh HZ];simp;omega);have t4:(z==4)=false:=(by rw[uh HZ];simp;omega);have t2:(z==2)=false:=(by rw[uh HZ];simp;omega);have t3:(z==3)=false:=(by rw[uh HZ];simp;omega);have t5:(z==5)=false:=(by rw[uh HZ];simp;omega);have t7:(z==7)=false:=(by rw[uh HZ];simp;omega);have t8:(z==8)=false:=(by rw[uh HZ];simp;omega);have t9:(z==9)=false:=(by rw[uh HZ];simp;omega);have t6:(z==6)=false:=(by rw[uh HZ];simp;omega);have t10:(z==10)=false:=(by rw[uh HZ];simp;omega);go_wp2_with fail
   go_ret;exact⟨by rw[uh HE];rfl,cv,by rw[uh HE];exact uh H3,uh dd⟩
end
theorem nB.sl{w:World}{v:Value}{sz n:Nat}{xs:List Value}(h:nB w v sz n xs):∃ao cap,v=.slice ao n cap/\n<=cap/\cap<=9223372036854775807/\n<=40000:=by
 have h2:=h.2.1;rcases h.2.2 with⟨rfl,rfl⟩|⟨g,off,cap,rfl,h3,h4,_⟩
 .exact⟨_,_,rfl,by omega,by omega,by omega⟩
 .exact⟨_,_,rfl,h3,by unfold maxLen at h4;omega,h2⟩
theorem nB.at{w:World}{v:Value}{l:List Int}(h:nB w v 1 l.length (di l)){k:Nat}(hk:k<l.length):∃g off cap,v=.slice (some ⟨g,off,none⟩) l.length cap/\l.length<=cap/\cap<=9223372036854775807/\∀j,j<l.length->w.cell? ⟨g,off+j,none⟩=some (.int .i64 (l.getD j 0)):=by
 obtain⟨g,off,cap,hv,h1,h2,hc⟩:=h.get (by omega);exact⟨g,off,cap,hv,h1,by unfold maxLen at h2;omega,λj hj=>hc j _ (NK hj)⟩
theorem sizeInt:(prog.info? 3).map (·.size)=some 1:=by kernel_rfl
theorem wI{w:World}{v:Value}{l:List Int}(hF:nB w v 1 l.length (di l)):
  Calls prog 95 #[v] w λe w'=>∃g,e=.returned (.slice (some ⟨g,0,none⟩) l.length l.length)/\w'.ownsRow w.heap.size 3 1 (.slice (some ⟨g,0,none⟩) l.length l.length) l.length (di l)/\Below w.heap.size w w':=by
 obtain⟨i0,hi,dG,du,ef⟩:=info_parts infoInt;have HF:=ab hF;obtain⟨n,hn⟩:∃n,n=l.length:=⟨_,rfl⟩;obtain⟨ao,cap,rfl,wV,hm,iA⟩:=hF.sl;rw[<-hn]at iA wV ⊢;have HN:=ab hn;clear hF hn;go_enter func95,ntmps95;go_wp2_with (at_make;refine wpList_make_full _ rfl _ _ 29 rfl w.heap.size 3 i0 (.int .i64 0) 1 underlying29 hi dG du .i64 .i64 _ _ n rfl rfl rfl rfl ?b2 ?b3 ?b4 ?_)
 case b2=>first|omega|(rw[ef];omega)
 case b3=>unfold maxLen;omega
 try (case b4=>simp)
 intro w1 cF bH;have aO:Below w.heap.size w w1:=(Below.refl _ _).grown bH (zq4 _) (λk h=>by cases h);obtain⟨wT,uO⟩:=Ou cF;have HG1:=ab wT;have HL1:=ab uO;have cY:=ab aO;have HC:Hid (0<(di l).length->(some ⟨w.heap.size,0,none⟩:Option Addr)=some ⟨w.heap.size,0,none⟩/\∃ad,ao=some ad/\∀j v,(di l)[j]?=some v->w1.cell? (ad.add j)=some v):=ab (λhp=>by
  refine⟨rfl,?_⟩;rw[k9]at hp;obtain⟨g,off,cap',hv,-,-,hc⟩:=(uh HF).get (by omega);simp only[Value.slice.injEq]at hv;refine⟨_,hv.1,λj v hj=>?_⟩;rw[sD,aO.cell (block_lt_of_cell? w _ (hc j v hj))];exact hc j v hj)
 clear cF bH wT uO aO;go_wp2_with (refine wpList_copy_splice rfl (.tmp 7) (.tmp 8) 29 29 rfl 3 underlying29 sizeInt (some ⟨w.heap.size,0,none⟩) ao n n n cap rfl rfl w.heap.size 0 _ 3 (uh HG1) (di l) ?c1 (uh HC) ?c3 (NL l) w.heap.size w (uh cY) (zq4 _) ?_)
 case c1=>rw[k9,<-uh HN]
 case c3 =>
  have h1:=uh HL1;simp only[Array.length_toList]at h1;rw[k9,<-uh HN];omega
 intro w2 Qd ax;have e2:splice (madeCells #[Value.int .i64 0] n).toList 0 (di l)=di l:=by
  have h1:=uh HL1;unfold splice;rw[take_zero,nil_append,drop_eq_nil_of_le (by rw[h1,k9,<-uh HN];omega),append_nil]
 have WT:Hid (w2.ownsRow w.heap.size 3 1 (.slice (some ⟨w.heap.size,0,none⟩) n n) n (di l)):=ab (MX (by have:=uh Qd;rwa [e2]at this) (by rw[k9,<-uh HN]) (zq4 _) (by unfold maxLen;omega));have bu:=ab ax;clear Qd ax e2;go_wp2_with fail
 go_ret;exact⟨_,rfl,uh WT,uh bu⟩
def zM(l:List Int):Bool:=l.all (λv=>decide (0<=v)&&decide (v<=1048576))
theorem Aw{l:List Int}{k:Nat}(hk:k<l.length)(_h:∀j,j<k->0<=l.getD j 0/\l.getD j 0<=1048576)(h2:¬ (0<=l.getD k 0/\l.getD k 0<=1048576)):zM l=false:=by
 unfold zM;rw[all_eq_false];refine⟨l[k],getElem_mem hk,?_⟩;have e:l.getD k 0=l[k]:=by simp[hk]
 rw[e]at h2;simp only[Bool.and_eq_true,decide_eq_true_eq];exact h2
theorem Q3{l:List Int}(h:∀j,j<l.length->0<=l.getD j 0/\l.getD j 0<=1048576):zM l=true:=by
 unfold zM;rw[all_eq_true];intro x hx;obtain⟨k,hk,rfl⟩:=mem_iff_getElem.1 hx;have:=h k hk;have e:l.getD k 0=l[k]:=by simp[hk]
 rw[e]at this;simp[this]
theorem sF{w:World}{v:Value}{l:List Int}(hF:nB w v 1 l.length (di l)):
  Calls prog 93 #[v] w λe w'=>e=.returned (.bool (zM l))/\w'=w:=by
 have HF:=ab hF;obtain⟨ao,cap,rfl,wV,hm,iA⟩:=hF.sl;clear hF;go_enter func93,ntmps93;go_wp2_with fail
 go_loop [7] (λi=>∃k:Nat,k<=l.length/\i=.int .i64 k/\Hid (∀j,j<k->0<=l.getD j 0/\l.getD j 0<=1048576)) (λi=>l.length-(intOf i).toNat)
 case atStart=>exact⟨0,zq5 _,rfl,ab (λ_ h=>absurd h (by omega))⟩
 case round =>
  obtain⟨k,hk,rfl,cP⟩:=hrel;by_cases ar:k<l.length
  .obtain⟨g,off,cap',hv,-,-,hc⟩:=(uh HF).at ar;cases hv
   have x:=hc k ar;obtain⟨y,hy⟩:∃y,y=l.getD k 0:=⟨_,rfl⟩;rw[<-hy]at x;have HY:=ab hy;clear hc hy;by_cases h0:y<0
   .have HR:Hid (zM l=false):=ab (Aw ar (uh cP) (by rw[<-uh HY];omega));go_wp2_with fail
    go_ret;exact⟨aw (uh HR).symm,rfl⟩
   .have VH:decide (y<0)=false:=(by simpa using h0);by_cases h1:1048576<y
    .have HR:Hid (zM l=false):=ab (Aw ar (uh cP) (by rw[<-uh HY];omega));go_wp2_with fail
     go_ret;exact⟨aw (uh HR).symm,rfl⟩
    .have DW:decide (1048576<y)=false:=(by simpa using h1);go_wp2_with fail
     go_round
     case rel=>exact⟨k+1,by omega,by go_num,ab (λj hj=>by
      by_cases e:j=k
      .rw[e,<-uh HY];omega
      .exact uh cP j (by omega))⟩
     case measure=>simp[intOf];omega
  .have hd:decide ((k:Int)<(l.length:Int))=false:=(by simp;omega);have HR:Hid (zM l=true):=ab (Q3 (λj hj=>uh cP j (by omega)));go_wp2_with fail
   go_ret;exact⟨aw (uh HR).symm,rfl⟩
def Im:Int->List Int->Bool
 |_,[]=>true
 |last,a::r=>decide (last<a)&&(match r with|[]=>true|_::r'=>Im a r')
def mS(l:List Int):Bool:=decide (l.length%2=0)&&zM l&&Im 0 l
theorem xO(last a b:Int)(r:List Int):Im last (a::b::r)=(decide (last<a)&&Im a r):=rfl
theorem Au{w:World}{v:Value}{l:List Int}(hF:nB w v 1 l.length (di l)):
  Calls prog 94 #[v] w λe w'=>e=.returned (.bool (mS l))/\w'=w:=by
 have HV:=ab (sF hF);have HF:=ab hF;obtain⟨ao,cap,rfl,wV,hm,iA⟩:=hF.sl;clear hF;by_cases hev:l.length%2=0
 .cases eS:zM l with
  |false =>
   have HR:Hid (mS l=false):=ab (by unfold mS;rw[eS];simp);rw[eS]at HV;clear eS;go_enter func94,ntmps94;go_wp2_with fail
   refine(uh HV).mono ?_;rintro e w2 ⟨rfl,rfl⟩;go_wp2_with fail
   go_ret;exact⟨aw (uh HR).symm,rfl⟩
  |true =>
   have HR:Hid (mS l=Im 0 l):=ab (by unfold mS;rw[eS];simp[hev]);rw[eS]at HV;clear eS;go_enter func94,ntmps94;go_wp2_with fail
   refine(uh HV).mono ?_;rintro e w2 ⟨rfl,rfl⟩;go_wp2_with fail
   go_loop [3,4] (λla i=>∃(k:Nat) (last:Int),2*k<=l.length/\i=.int .i64 ((2*k:Nat):Int)/\la=.int .i64 last/\Hid (Im last (l.drop (2*k))=Im 0 l)) (λ_ i=>l.length-(intOf i).toNat)
   case atStart=>exact⟨0,0,zq5 _,rfl,rfl,ab (by simp)⟩
   case round =>
    obtain⟨k,last,hk,rfl,rfl,hE⟩:=hrel;obtain⟨q,hq⟩:∃q,q=2*k:=⟨_,rfl⟩;rw[<-hq]at hk hE ⊢;have hq2:q%2=0:=(by omega);have HQ:=ab hq;clear hq;by_cases ar:q<l.length
    .have bf:q+1<l.length:=(by omega);obtain⟨g,off,cap',hv,-,-,hc⟩:=(uh HF).at ar;cases hv
     have x:=hc q ar;have ed:l.drop q=l.getD q 0::l.getD (q+1) 0::l.drop (q+2):=by
      rw[drop_eq_getElem_cons ar,drop_eq_getElem_cons bf];simp[ar,bf]
     obtain⟨y,hy⟩:∃y,y=l.getD q 0:=⟨_,rfl⟩;have hE2:=uh hE;rw[ed,xO,<-hy]at hE2;rw[<-hy]at x;have ig:=ab hE2;clear hc hy hE2 ed hE;by_cases SG:y<=last
     .have vZ:Hid (Im 0 l=false):=ab (by rw[<-uh ig];simp;intro h;omega);go_wp2_with fail
      go_ret;exact⟨aw (by rw[uh HR,uh vZ]),rfl⟩
     .have hd:decide (y<=last)=false:=(by simpa using SG);have vZ:Hid (Im y (l.drop (q+2))=Im 0 l):=ab (by rw[<-uh ig];simp;intro _;omega);go_wp2_with fail
      go_round
      case rel=>exact⟨k+1,y,by have:=uh HQ;omega,by rw[show 2*(k+1)=q+2 by have:=uh HQ;omega];go_num,rfl,by rw[show 2*(k+1)=q+2 by have:=uh HQ;omega];exact vZ⟩
      case measure=>simp[intOf];omega
    .have hd:decide ((q:Int)<(l.length:Int))=false:=(by simp;omega);have vZ:Hid (Im 0 l=true):=ab (by rw[<-uh hE,drop_eq_nil_of_le (by omega)];rfl);go_wp2_with fail
     go_ret;exact⟨aw (by rw[uh HR,uh vZ]),rfl⟩
 .have HR:Hid (mS l=false):=ab (by unfold mS;simp[hev]);have hod:l.length%2=1:=by omega
  go_enter func94,ntmps94;go_wp2_with fail
  go_ret;exact⟨aw (uh HR).symm,rfl⟩
structure StV(B:Nat)(w:World)(m:MS)(g1 g2:Nat):Prop where
 r1:w.ownsRow B 3 1 (.slice (some ⟨g1,0,none⟩) m.st.length m.st.length) m.st.length (di m.st)
 r2:w.ownsRow B 3 1 (.slice (some ⟨g2,0,none⟩) (2*m.cs.length) (2*m.cs.length)) (2*m.cs.length) (dD m.cs)
 ne:g1≠g2
def Wj(m:MS)(g1 g2:Nat):Value:=.agg #[.int .i64 (m.nd:Int),.int .i64 (m.wh:Int),.slice (some ⟨g1,0,none⟩) m.st.length m.st.length,.slice (some ⟨g2,0,none⟩) (2*m.cs.length) (2*m.cs.length)]
section
variable {w w':World} {R Q:Nat} {ws:List ByteArray} {s:PS} {al:List bt} {m:MS} {vv pv nv sv cv:Value}
theorem EB(h:Mc w R Q ws s al m vv pv nv sv cv)(hc:m.cs.length<=100000):
  Calls prog 62 #[.pointer (some ⟨R,0,none⟩)] w λe w'=>∃g1 g2,e=.returned (Wj m g1 g2)/\StV w.heap.size w' m g1 g2/\Below w.heap.size w w':=by
 have aT:=af w (.cells #[Value.int .i64 0,.int .i64 0,.slice none 0 0,.slice none 0 0] 68);have h0:=h.below aT;have e3:=h0.c3;have HF:=ab (wI (nB.of_own h0.st (by have:=h0.ls;omega)));have H0:=ab h0;have uZ:=ab aT;have Wx:=ab (Bk.new w 68 [Value.int .i64 0,.int .i64 0,.slice none 0 0,.slice none 0 0]);clear h aT h0;go_enter func62,ntmps62;go_wp2_with fail
 refine(uh HF).mono ?_;rintro e w1 ⟨g1,rfl,k7,aO⟩;have adt:=(uh uZ).trans (aO.mono (uh uZ).size);have h1:=(uh H0).below aO;have zK:=ab (bW k7 (uh uZ).size);have wT:=k7.lt g1 rfl;have HN:=ab (x9 h1.c4 h1.cs hc);have cY:=ab adt;have H1:=ab h1;have ahj:=ab ((uh Wx).below aO);have HG1:=ab wT;clear k7 aO adt h1 wT e3;go_wp2_with fail
 refine(uh HN).mono ?_;rintro e w2 ⟨g2,rfl,fH,ax⟩;have IW:=(uh cY).trans (ax.mono (uh cY).size);have h2:=(uh H1).below ax;have HV:Hid (StV w.heap.size w2 m g1 g2):=ab ⟨b8 (uh zK) ax,bW fH (uh cY).size,by have h1:=uh HG1;have h2:=(fH.lt g2 rfl).1;omega⟩;have jf:=(uh ahj).below ax;have z0:=jf.cell 0 rfl;have z1:=jf.cell 1 rfl;have z2:=jf.cell 2 rfl;have z3:=jf.cell 3 rfl;have zf:=jf.frz;have e1:=h2.c1;have e2:=h2.c2;have bu:=ab IW;have Wy:=ab jf;have HG2:Hid (w.heap.size<g1/\w.heap.size<g2):=ab (by have h1:=uh HG1;have h2:=(fH.lt g2 rfl).1;simp at h1;omega);clear fH ax IW h2 jf;go_wp2_with fail
 go_region
 all_goals
  go_wp2_with fail
  obtain⟨w4,uT⟩:∃w4,w4=((((w2.setCell ⟨w.heap.size,0,none⟩ (.int .i64 (m.nd:Int))).setCell ⟨w.heap.size,1,none⟩ (.int .i64 (m.wh:Int))).setCell ⟨w.heap.size,2,none⟩ (.slice (some ⟨g1,0,none⟩) m.st.length m.st.length)).setCell ⟨w.heap.size,3,none⟩ (.slice (some ⟨g2,0,none⟩) (2*m.cs.length) (2*m.cs.length))).drew:=⟨_,rfl⟩;rw[<-uT];have nW:Bk w4 w.heap.size 68 [.int .i64 (m.nd:Int),.int .i64 (m.wh:Int),.slice (some ⟨g1,0,none⟩) m.st.length m.st.length,.slice (some ⟨g2,0,none⟩) (2*m.cs.length) (2*m.cs.length)]:=by
   rw[uT];exact((((uh Wy).set 0 _).set 1 _).set 2 _).set 3 _
  have y0:=nW.cell 0 rfl;have y1:=nW.cell 1 rfl;have y2:=nW.cell 2 rfl;have y3:=nW.cell 3 rfl;have hS:am [w.heap.size] w2 [w.heap.size] w4:=by
   rw[uT];exact(((((am.refl _ _).setCell (p:=⟨w.heap.size,0,none⟩) (zq0 (by simp)) _).setCell (p:=⟨w.heap.size,1,none⟩) (zq0 (by simp)) _).setCell (p:=⟨w.heap.size,2,none⟩) (zq0 (by simp)) _).setCell (p:=⟨w.heap.size,3,none⟩) (zq0 (by simp)) _).drew
  clear uT;refine bodyPost_ret (v:=Wj m g1 g2) ?_ rfl ⟨g1,g2,rfl,?_,?_⟩
  .simp[results,Tryz.results62,go_sem,Wj,y0,y1,y2,y3]
  .have hg:=uh HG2;exact⟨iZ (uh HV).r1 hS (λk hk=>by cases hk;simp;omega),iZ (uh HV).r2 hS (λk hk=>by cases hk;simp;omega),(uh HV).ne⟩
  .exact(uh bu).trans (hS.below (uh bu).size (by simp))
end
def qM(F:List (Option Int)->List Bool->Bool)(r:Nat)(val:List (Option Int))(fr:List Bool)(n:Int):Bool :=
 match val.getD r none with
 |some b=>if b=n then F (val.set r (some n)) fr else false
 |none=>F (val.set r (some n)) fr
def uF(E:List Bool->Int->Bool)(fd:Int->Option Nat)(nx:List Int)(lst:Bool):Nat->List Bool->Int->Bool
 |0,_,_=>false
 |m+1,fr,a=>match fd a with
  |none=>false
  |some i=>if fr.getD i false=true then E (fr.set i false) (nx.getD i 0)||(lst&&uF E fd nx lst m (fr.set i false) (nx.getD i 0)) else false
def Hz(ad:List Int)(fd:Int->Option Nat):Prop:=∀a i,fd a=some i↔i<ad.length/\ad.getD i 0=a
theorem J0{E:List Bool->Int->Bool}{fd:Int->Option Nat}{ad nx:List Int}{lst:Bool}(tj:Hz ad fd):∀(m:Nat) (fr:List Bool) (a:Int),uF E fd nx lst m fr a=true ->
  ∃q fr' e,B9 ad nx q a e/\tk fr q=some fr'/\(lst=false->q.length=1)/\E fr' e=true:=by
 intro m;induction m with
 |zero=>intro fr a h;cases h
 |succ m ih =>
  intro fr a h;unfold uF at h;cases hf:fd a with
  |none=>rw[hf]at h;cases h
  |some i =>
   rw[hf]at h;simp only at h;have hi:=(tj a i).1 hf;by_cases f7:fr.getD i false=true
   .rw[if_pos f7]at h;rw[Bool.or_eq_true]at h;rcases h with h1|h1
    .exact⟨[i],fr.set i false,nx.getD i 0,⟨hi.2,rfl⟩,by unfold tk;rw[if_pos f7];rfl,λ_=>rfl,h1⟩
    .rw[Bool.and_eq_true]at h1;obtain⟨hl,h2⟩:=h1;obtain⟨q,fr',e,g1,g2,g3,g4⟩:=ih _ _ h2;refine⟨i::q,fr',e,?_,by unfold tk;rw[if_pos f7];exact g2,λh0=>(by rw[h0]at hl;cases hl),g4⟩;cases q with
     |nil=>exact absurd rfl (zs g1)
     |cons k r=>exact⟨hi.2,g1⟩
   .rw[if_neg f7]at h;cases h
theorem oX{E:List Bool->Int->Bool}{fd:Int->Option Nat}{ad nx:List Int}{lst:Bool}(tj:Hz ad fd):∀(q:List Nat) (m:Nat) (fr fr':List Bool) (a e:Int),fr.length=ad.length->B9 ad nx q a e->tk fr q=some fr'->(lst=false->q.length=1)->E fr' e=true->q.length<=m ->
  uF E fd nx lst m fr a=true:=by
 intro q;induction q with
 |nil=>intro m fr fr' a e _ h;exact absurd rfl (zs h)
 |cons i q ih =>
  intro m fr fr' a e hl hs ht h1 hE hm;cases m with
  |zero=>simp at hm
  |succ m =>
   have f7:fr.getD i false=true:=by
    unfold tk at ht;by_cases h:fr.getD i false=true
    .exact h
    .rw[if_neg h]at ht;cases ht
   have kG:i<ad.length:=by
    rw[<-hl];rcases Nat.lt_or_ge i fr.length with h|h
    .exact h
    .simp[List.getD,getElem?_eq_none h]at f7
   have ajq:=(tj a i).2 ⟨kG,EV hs⟩;unfold tk at ht;rw[if_pos f7]at ht;unfold uF;rw[ajq];simp only;rw[if_pos f7];cases q with
   |nil =>
    cases ht
    have:nx.getD i 0=e:=hs.2;rw[this,hE];rfl
   |cons k r =>
    have Nj:lst=true:=by
     cases lst with
     |true=>rfl
     |false=>have:=h1 rfl;simp at this
    have:=ih m (fr.set i false) fr' (nx.getD i 0) e (by simpa using hl) hs.2 ht (λh=>by rw[Nj]at h;cases h) hE (by simpa using hm);rw[this,Nj];simp
def Iy(ap:List Pr)(val:List (Option Int)):Bool:=ap.all (λp=>p.l != p.r&&(match val.getD p.l none with|none=>true|some a=>val.getD p.r none != some a))
def iO(ap:List Pr)(fd:Int->Option Nat)(ad nx:List Int):List Pr->List (Option Int)->List Bool->Bool
 |[],val,fr=>!fr.any id&&Iy ap val
 |p::r,val,fr=>match val.getD p.l none with
  |some a=>uF (qM (iO ap fd ad nx r) p.r val) fd nx (p.k==4) (ad.length+1) fr a
  |none=>ad.any (λa=>uF (qM (iO ap fd ad nx r) p.r (val.set p.l (some a))) fd nx (p.k==4) (ad.length+1) fr a)
def Ag(val:List (Option Int))(v:Nat->Int):Prop:=∀c b,val.getD c none=some b->v c=b
theorem gZ{val:List (Option Int)}{c j:Nat}{x:Option Int}:(val.set c x).getD j none=if c=j/\c<val.length then x else val.getD j none:=by
 simp only[List.getD,getElem?_set];by_cases h:c=j
 .subst h;by_cases h2:c<val.length
  .simp[h2]
  .simp[h2]
 .simp[h]
theorem Ag.up{val:List (Option Int)}{v:Nat->Int}(h:Ag val v)(c:Nat):Ag (val.set c (some (v c))) v:=by
 intro j b hj;rw[gZ]at hj;split at hj
 .rename_i h1;cases hj
  rw[h1.1]
 .exact h j b hj
theorem Ag.down{val:List (Option Int)}{v:Nat->Int}{c:Nat}{e:Int}(hc:c<val.length)(h:Ag (val.set c (some e)) v)(hk:∀b,val.getD c none=some b->b=e):Ag val v/\v c=e:=by
 have h1:v c=e:=h c e (by rw[gZ,if_pos ⟨rfl,hc⟩]);refine⟨λj b hj=>?_,h1⟩;by_cases hj':c=j
 .subst hj';rw[h1,hk b hj]
 .exact h j b (by rw[gZ,if_neg (λx=>hj' x.1)];exact hj)
theorem AM{F:List (Option Int)->List Bool->Bool}{r:Nat}{val:List (Option Int)}{fr:List Bool}{n:Int}:qM F r val fr n=true↔F (val.set r (some n)) fr=true/\∀b,val.getD r none=some b->b=n:=by
 unfold qM;cases hv:val.getD r none with
 |none=>simp
 |some b =>
  simp only;by_cases hb:b=n
  .rw[if_pos hb];simp[hb]
  .rw[if_neg hb];simp[hb]
theorem Cq:∀{q:List Nat} {fr fr':List Bool},tk fr q=some fr'->q.length+fr'.count true=fr.count true:=by
  intro q;induction q with
  |nil=>intro fr fr' h;cases h;simp
  |cons k q ih =>
   intro fr fr' h;unfold tk at h;by_cases hk:fr.getD k false=true
   .rw[if_pos hk]at h;have h1:=ih h;have hl:k<fr.length:=by
     rcases Nat.lt_or_ge k fr.length with h|h
     .exact h
     .simp[List.getD,getElem?_eq_none h]at hk
    have kH:fr[k]=true:=(by simpa[List.getD,hl] using hk);have h2:=count_set (a:=false) (b:=true) (l:=fr) (i:=k) hl;have h3:0<fr.count true:=count_pos_iff.2 (by rw[<-kH];exact getElem_mem hl);simp only[kH,beq_self_eq_true,if_true]at h2;simp at h2;rw[length_cons];omega
   .rw[if_neg hk]at h;cases h
theorem Z9{q:List Nat}{fr fr':List Bool}(hq:tk fr q=some fr'):q.length<=fr.length:=by
 have h1:=Cq hq;have h2:=count_le_length (a:=true) (l:=fr);omega
theorem yl{ap:List Pr}{fd:Int->Option Nat}{ad nx:List Int}(tj:Hz ad fd){v:Nat->Int}(fQ:∀p∈ap,v p.l≠v p.r):∀(ow:List Pr) (val:List (Option Int)) (fr:List Bool),fr.length=ad.length->Ag val v->pf ad nx v ow fr->iO ap fd ad nx ow val fr=true:=by
 intro ow;induction ow with
 |nil =>
  intro val fr _ hA hS;have Sj:fr.any id=false:=hS;unfold iO Iy;rw[Sj];simp only[Bool.not_false,Bool.true_and,all_eq_true];intro p hp;have h1:=fQ p hp;rw[Bool.and_eq_true];refine⟨by simpa using λe:p.l=p.r=>h1 (by rw[e]),?_⟩;cases hl:val.getD p.l none with
  |none=>rfl
  |some a =>
   simp only[bne_iff_ne,ne_eq];intro hr;exact h1 ((hA _ _ hl).trans (hA _ _ hr).symm)
 |cons p r ih =>
  intro val fr hl hA hS;obtain⟨q,fr',h1,h2,h3,h4⟩:=hS;have Nj:(p.k==4)=false->q.length=1:=λh=>h3 (by simpa using h);have hq:=Z9 h2;have hE:∀val',Ag val' v->qM (iO ap fd ad nx r) p.r val' fr' (v p.r)=true:=λval' hA'=>AM.2 ⟨ih _ _ (by rw[aaa h2];exact hl) (hA'.up _) h4,λb hb=>(hA' _ _ hb).symm⟩;unfold iO;cases hv:val.getD p.l none with
  |some a =>
   have ha:=hA _ _ hv;simp only;rw[ha]at h1;exact oX tj q _ fr fr' a (v p.r) hl h1 h2 Nj (hE val hA) (by omega)
  |none =>
   simp only;rw[any_eq_true];refine⟨v p.l,?_,oX tj q _ fr fr' (v p.l) (v p.r) hl h1 h2 Nj (hE _ (hA.up _)) (by omega)⟩;cases q with
   |nil=>exact absurd rfl (zs h1)
   |cons i q =>
    have hi:=zA h2 i (by simp);have kG:i<ad.length:=by
     rw[<-hl];rcases Nat.lt_or_ge i fr.length with h|h
     .exact h
     .simp[List.getD,getElem?_eq_none h]at hi
    have:=EV h1;rw[<-this];simp[List.getD,kG]
theorem aab(val:List (Option Int)):∃M:Int,∀c b,val.getD c none=some b->b<=M:=by
 induction val with
 |nil=>exact⟨0,λc b h=>by simp at h⟩
 |cons x val ih =>
  obtain⟨M,hM⟩:=ih;refine⟨max M (x.getD 0),λc b h=>?_⟩;cases c with
  |zero =>
   have h':x=some b:=(by simpa using h);subst h';simp only[Option.getD_some];omega
  |succ c =>
   have:=hM c b (by simpa using h);omega
theorem ID{ap:List Pr}{fd:Int->Option Nat}{ad nx:List Int}(tj:Hz ad fd):∀(ow:List Pr) (val:List (Option Int)) (fr:List Bool),(∀p∈ow,p.l<val.length/\p.r<val.length)->iO ap fd ad nx ow val fr=true ->
  ∃v,Ag val v/\pf ad nx v ow fr/\∀p∈ap,v p.l≠v p.r:=by
 intro ow;induction ow with
 |nil =>
  intro val fr _ h;unfold iO at h;rw[Bool.and_eq_true]at h;obtain⟨h1,h2⟩:=h;obtain⟨M,hM⟩:=aab val;refine⟨λc=>match val.getD c none with|some b=>b|none=>M+1+c,λc b hb=>by simp only[hb],(by show fr.any id=false;exact(Bool.not_eq_true _).mp (λe=>by rw[e]at h1;cases h1)),λp hp=>?_⟩;unfold Iy at h2;have h3:=all_eq_true.1 h2 p hp;rw[Bool.and_eq_true]at h3;have aM:p.l≠p.r:=by simpa using h3.1
  have h4:=h3.2;cases hl:val.getD p.l none with
  |none =>
   cases hr:val.getD p.r none with
   |none=>simp only[hl,hr];omega
   |some b=>have:=hM _ _ hr;simp only[hl,hr];omega
  |some a =>
   rw[hl]at h4;cases hr:val.getD p.r none with
   |none=>have:=hM _ _ hl;simp only[hl,hr];omega
   |some b =>
    rw[hr]at h4;simp only[hl,hr];intro e;rw[e]at h4;simp at h4
 |cons p r ih =>
  intro val fr hb h;have hp:=hb p (by simp);have key:∀(val':List (Option Int)) (a:Int),val'.length=val.length->val'.getD p.l none=some a->uF (qM (iO ap fd ad nx r) p.r val') fd nx (p.k==4) (ad.length+1) fr a=true->∃v,Ag val' v/\pf ad nx v (p::r) fr/\∀p∈ap,v p.l≠v p.r:=by
   intro val' a hl ha hw;obtain⟨q,fr',e,g1,g2,g3,g4⟩:=J0 tj _ _ _ hw;obtain⟨k1,k2⟩:=AM.1 g4;obtain⟨v,w1,w2,w3⟩:=ih (val'.set p.r (some e)) fr' (λx hx=>by rw[length_set,hl];exact hb x (by simp[hx])) k1;obtain⟨u1,u2⟩:=Ag.down (by rw[hl];exact hp.2) w1 k2;exact⟨v,u1,⟨q,fr',by rw[u1 _ _ ha,u2];exact g1,g2,λhk=>g3 (by simpa using hk),w2⟩,w3⟩
  unfold iO at h;cases hv:val.getD p.l none with
  |some a =>
   rw[hv]at h;exact key val a rfl hv h
  |none =>
   rw[hv]at h;obtain⟨a,-,ha⟩:=any_eq_true.1 h;obtain⟨v,w1,w2,w3⟩:=key (val.set p.l (some a)) a (by simp) (by rw[gZ,if_pos ⟨rfl,hp.1⟩]) ha;exact⟨v,(Ag.down hp.1 w1 (λb ax=>by rw[hv]at ax;cases ax)).1,w2,w3⟩
def uk:List (Nat × Int)->List (Option Int)->Option (List (Option Int))
 |[],val=>some val
 |(c,x)::r,val=>match val.getD c none with
  |some b=>if b=x then uk r (val.set c (some x)) else none
  |none=>uk r (val.set c (some x))
theorem Um:∀{L:List (Nat × Int)} {val val':List (Option Int)},uk L val=some val'->val'.length=val.length:=by
 intro L;induction L with
 |nil=>intro val val' h;cases h;rfl
 |cons p L ih =>
  obtain⟨c,x⟩:=p;intro val val' h;unfold uk at h;split at h
  .split at h
   .have:=ih h;simpa using this
   .cases h
  .have:=ih h;simpa using this
theorem Ag.set_iff{val:List (Option Int)}{v:Nat->Int}{c:Nat}{x:Int}(hc:c<val.length)(hk:∀b,val.getD c none=some b->b=x):Ag (val.set c (some x)) v↔Ag val v/\v c=x:=by
 constructor
 .intro h;exact Ag.down hc h hk
 .rintro⟨h,rfl⟩;exact h.up c
theorem Ck{v:Nat->Int}:∀{L:List (Nat × Int)} {val val':List (Option Int)},(∀p∈L,p.1<val.length)->uk L val=some val'->(Ag val' v↔Ag val v/\∀p∈L,v p.1=p.2):=by
 intro L;induction L with
 |nil=>intro val val' _ h;cases h;simp
 |cons p L ih =>
  obtain⟨c,x⟩:=p;intro val val' hb h;have hc:c<val.length:=hb (c,x) (by simp);have m6:∀p∈L,p.1<(val.set c (some x)).length:=λp hp=>by rw[length_set];exact hb p (by simp[hp])
  unfold uk at h;have fin:∀(_:∀b,val.getD c none=some b->b=x),uk L (val.set c (some x))=some val'->(Ag val' v↔Ag val v/\∀p∈(c,x)::L,v p.1=p.2):=by
   intro hk h2;rw[ih m6 h2,Ag.set_iff hc hk,forall_mem_cons,and_assoc]
  cases hv:val.getD c none with
  |none=>rw[hv]at h;exact fin (λb ax=>by rw[hv]at ax;cases ax) h
  |some b =>
   rw[hv]at h;simp only at h;split at h
   .rename_i e;exact fin (λb' ax=>by rw[hv]at ax;cases ax;exact e) h
   .cases h
theorem O8{v:Nat->Int}:∀{L:List (Nat × Int)} {val:List (Option Int)},(∀p∈L,p.1<val.length)->uk L val=none->Ag val v->¬ ∀p∈L,v p.1=p.2:=by
 intro L;induction L with
 |nil=>intro val _ h;cases h
 |cons p L ih =>
  obtain⟨c,x⟩:=p;intro val hb h hA cP;have hc:c<val.length:=hb (c,x) (by simp);have m6:∀p∈L,p.1<(val.set c (some x)).length:=λp hp=>by rw[length_set];exact hb p (by simp[hp])
  have hx:v c=x:=cP (c,x) (by simp);have hA':Ag (val.set c (some x)) v:=by rw[<-hx];exact hA.up c
  have hL:∀p∈L,v p.1=p.2:=λp hp=>cP p (by simp[hp]);unfold uk at h;cases hv:val.getD c none with
  |none=>rw[hv]at h;exact ih m6 h hA' hL
  |some b =>
   rw[hv]at h;simp only at h;rw[if_pos ((hA c b hv).symm.trans hx)]at h;exact ih m6 h hA' hL
def NU(F:CF)(st:List Int):List (Nat × Int):=(F.cl.getD 0 0,0)::(range st.length).map (λi=>(F.cl.getD (1+i) 0,st.getD i 0))
def Je(al:List bt)(st:List Int)(fd:Int->Option Nat)(ad nx:List Int):Bool :=
 match uk (NU (bL al) st) (replicate 24 none) with
 |none=>false
 |some val=>if ad.length<(bL al).ow.length then false else iO (bL al).ap fd ad nx (bL al).ow val (replicate ad.length true)
theorem Uf{ad nx:List Int}{v:Nat->Int}:∀{ow:List Pr} {fr:List Bool},pf ad nx v ow fr->ow.length<=fr.count true:=by
 intro ow;induction ow with
 |nil=>intro fr _;exact zq5 _
 |cons p r ih =>
  rintro fr ⟨q,fr',h1,h2,-,h4⟩;have h5:=ih h4;have h6:=Cq h2;have h7:0<q.length:=length_pos_iff.2 (zs h1);rw[length_cons];omega
theorem SL{ad nx:List Int}{fd:Int->Option Nat}(tj:Hz ad fd){al:List bt}(ht:ij al){st:List Int}(aE:st.length<=4):
  Je al st fd ad nx=true↔∃s,AtH ad nx s al/\∀i,i<st.length->s (1+i)=st.getD i 0:=by
 have hL:∀p∈NU (bL al) st,p.1<(replicate 24 (none:Option Int)).length:=by
  intro p hp;rw[length_replicate];rcases mem_cons.1 hp with rfl|hp
  .show(bL al).cl.getD 0 0<24;rw[kO (by omega)];have:=j5 ht (i:=0) (by omega);omega
  .obtain⟨i,hi,rfl⟩:=mem_map.1 hp;rw[mem_range]at hi;show(bL al).cl.getD (1+i) 0<24;rw[kO (by omega)];have:=j5 ht (i:=1+i) (by omega);omega
 have vm:∀v,Ag (replicate 24 none) v:=by
  intro v c b h;simp only[List.getD,getElem?_replicate]at h;split at h <;> simp at h
 constructor
 .intro h;unfold Je at h;cases hs:uk (NU (bL al) st) (replicate 24 none) with
  |none=>rw[hs]at h;cases h
  |some val =>
   rw[hs]at h;simp only at h;split at h
   .cases h
   .have mu:val.length=24:=(by rw[Um hs,length_replicate]);obtain⟨v,w1,w2,w3⟩:=ID tj _ _ _ (λp hp=>by have:=afc ht p hp;omega) h;have w4:=((Ck hL hs).1 w1).2;have hk:∀i,i<5->v ((iY al).getD i 0)=v ((bL al).cl.getD i 0):=λi hi=>by rw[kO hi]
    refine⟨λt=>v ((iY al).getD t 0),⟨?_,λa ha I8=>?_,λa ha kH=>?_,?_⟩,λi hi=>?_⟩
    .show v ((iY al).getD 0 0)=0;rw[hk 0 (by omega)];exact w4 _ (mem_cons_self ..)
    .show v _=v _;rw[show(iY al).getD (tm a).l 0=(iY al).getD (tm a).r 0 from Zt al _ ht (by simp) a ha I8]
    .exact w3 (gT (iY al) a) (mem_map.2 ⟨a,mem_filter.2 ⟨ha,by simp[kH]⟩,rfl⟩)
    .exact Fr (f:=gT (iY al)) (g:=tm) (λa _=>⟨rfl,rfl,rfl⟩) w2
    .show v ((iY al).getD (1+i) 0)=st.getD i 0;rw[hk (1+i) (by omega)];exact w4 ((bL al).cl.getD (1+i) 0,st.getD i 0) (mem_cons_of_mem _ (mem_map.2 ⟨i,mem_range.2 hi,rfl⟩))
 .rintro⟨s,hA,hS⟩;have hM:=hA.mod ht;have cP:∀p∈NU (bL al) st,s p.1=p.2:=by
   intro p hp;rcases mem_cons.1 hp with rfl|hp
   .exact hM.nl
   .obtain⟨i,hi,rfl⟩:=mem_map.1 hp;rw[mem_range]at hi;show s ((bL al).cl.getD (1+i) 0)=st.getD i 0;rw[kO (by omega),Ez ht hA.eq (by omega)];exact hS i hi
  unfold Je;cases hs:uk (NU (bL al) st) (replicate 24 none) with
  |none=>exact absurd cP (O8 hL hs (vm s))
  |some val =>
   simp only;have h1:=Uf hM.sp;rw[count_replicate_self]at h1;rw[if_neg (by omega)];exact yl tj hM.ap _ _ _ (by simp) ((Ck hL hs).2 ⟨vm s,cP⟩) hM.sp
