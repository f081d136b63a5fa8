import Derived.Test.YtciihepbeacppaaGreatM18
set_option maxRecDepth 100000
set_option maxHeartbeats 0
namespace Go.Proofs.YtciihepbeacppaaGreat
open Tryz Go.RowKit List World Below
set_option linter.unusedVariables false
def Rg(n:Nd):Value:=.agg #[.int .i64 (n.op:Int),.int .i64 (n.v:Int),.int .i64 (n.ak:Int),.int .i64 (n.ai:Int),.int .i64 (n.nx:Int),.int .i64 (n.ot:Int)]
theorem jL(w:World)(n:Nat):Below w.heap.size w (w.drewN n):=⟨rfl,rfl,rfl,zq4 _,λ_ _=>rfl⟩
section
variable {w W W':World} {O A:Nat} {f:CF} {av ov nv tv:Value} {nu da fu:Bool} {Ln Lt:List FE}
theorem rA{n:Nd}(h:Os w w O A f av ov false false false (.slice none 0 0) (.slice none 0 0) [] [])(hO:am f)(ha:f.ap.length<=40000)(hv:n.v<4)(hi:n.ai<4):
  Calls prog 244 #[.pointer (some ⟨O,0,none⟩),.pointer (some ⟨A,0,none⟩),Rg n] w λe w'=>e=.returned (.tuple #[])/\nQ w O ⟨(jM f n).1,(jM f n).2,false,false,false⟩ w':=by
 have gl:=hO.owLen;have kj:jM f n=(if dS f (f.cl.getD (1+n.v) 0) (nV f n.ak n.ai)=true then [] else [bz (sS f (f.cl.getD (1+n.v) 0) (nV f n.ak n.ai))],if f.cl.getD (1+n.v) 0=nV f n.ak n.ai then [] else [bz (cC f (f.cl.getD (1+n.v) 0) (nV f n.ak n.ai))]):=rfl;obtain⟨op,v,ak,ai,nx,ot⟩:=n;simp only at hv hi kj;unfold Rg;simp only;obtain⟨W1,dI⟩:∃W1,W1=w.alloc (.cells #[Value.int .i64 (op:Int),.int .i64 (v:Int),.int .i64 (ak:Int),.int .i64 (ai:Int),.int .i64 (nx:Int),.int .i64 (ot:Int)] 186):=⟨_,rfl⟩;have bQ:Below w.heap.size w W1:=by rw[dI];exact ah w _
 have hX:Bk W1 w.heap.size 186 [Value.int .i64 (op:Int),.int .i64 (v:Int),.int .i64 (ak:Int),.int .i64 (ai:Int),.int .i64 (nx:Int),.int .i64 (ot:Int)]:=by rw[dI];exact Bk.new w _ _
 obtain⟨X,fS⟩:∃X,X=w.heap.size:=⟨_,rfl⟩;rw[<-fS]at hX;have sL:=h.below bQ;have b1:=hX.cell 1 rfl;have b2:=hX.cell 2 rfl;have b3:=hX.cell 3 rfl;have x1:=sL.ff.cls (i:=1+v) (by omega);unfold fH at x1;obtain⟨a,haE⟩:∃a,a=f.cl.getD (1+v) 0:=⟨_,rfl⟩;obtain⟨b,hbE⟩:∃b,b=nV f ak ai:=⟨_,rfl⟩;rw[<-haE]at x1;rw[<-haE,<-hbE]at kj;have Y3:a<24:=by rw[haE];exact hO.get _
 have aeZ:b<24:=by rw[hbE];exact hO.cT _ _
 have i1:(0:Int)<=1+(v:Int):=by omega
 have i2:1+(v:Int)<5:=by omega
 have i3:(1+(v:Int)).toNat=1+v:=by omega
 obtain⟨oR,hoR⟩:∃oR:Lz,oR=⟨(jM f ⟨op,v,ak,ai,nx,ot⟩).1,(jM f ⟨op,v,ak,ai,nx,ot⟩).2,false,false,false⟩:=⟨_,rfl⟩;rw[<-hoR];rw[kj]at hoR;have Lq:=ab hoR;have HO:=ab hO;have H1:=ab sL;have nO:=ab hbE;clear h hO sL hoR kj bQ hX haE hbE;go_enter func244,ntmps244;go_upto_region 1 with fail;rw[<-dI,<-fS];clear dI fS;go_quiet (fail)
 obtain⟨W2,ey⟩:∃W2,W2=W1.drewN nq:=⟨_,rfl⟩;rw[<-ey];have aL:Below W1.heap.size W1 W2:=by rw[ey];exact jL W1 nq
 have d2:W2.cell? ⟨X,2,none⟩=some (.int .i64 (ak:Int)):=by rw[ey];exact b2
 have d3:W2.cell? ⟨X,3,none⟩=some (.int .i64 (ai:Int)):=by rw[ey];exact b3
 have YS:=(uh H1).below aL;have vp:=ab (qz YS.ff ak ai hi);rw[<-uh nO]at vp;have H2:=ab YS;clear ey aL YS b1 b2 b3 x1 H1;go_wp2_with fail
 refine(uh vp).mono ?_;rintro e W3 ⟨rfl,cB⟩;have Nj:=(uh H2).below cB;have Vr:=ab (kF a b Nj.ff);have H3:=ab Nj;clear cB Nj H2 vp d2 d3;go_wp2_with fail
 refine(uh Vr).mono ?_;rintro e W4 ⟨rfl,mA⟩;have JC:=(uh H3).below mA;have H4:=ab JC;clear mA H3 Vr;cases vZ:dS f a b
 .
  rw[vZ]at Lq;have jI:=ab (cE JC.ff (uh HO).c5 ha (zq3 gl (by omega)));have CZ:=ab (gi vZ);clear JC vZ;go_wp2_with fail
  refine(uh jI).mono ?_;rintro e W5 ⟨A5,rfl,hN5⟩;obtain⟨av5,ov5,BT⟩:=hN5.frf;have HJO:=ab (xn BT.fm (zq3 ha (by omega)) (zq3 gl (by omega)) a b);have Vt:=ab BT;clear hN5 BT jI;go_wp2_with fail
  refine(uh HJO).mono ?_;rintro e W6 ⟨rfl,S8,BG⟩;have GJ:=(uh Vt).step (x':=⟨A5,sS f a b,av5,ov5⟩) S8 BG;have hO6:=(uh H4).below GJ.bw;have qv:=ab (gI hO6.oo GJ.fm ((uh HO).jo Y3 (uh CZ)) (by
   show(f.ap.map _).length<=100000;rw[length_map];omega) ((uh H4).fresh GJ.ge) (by simp))
  have H6:=ab hO6;have Ad:=ab (λk hk=>zq3 (uh H4).st.size (GJ.ge k hk));clear S8 BG GJ hO6 HJO;go_wp2_with fail
  refine(uh qv).mono ?_;rintro e W7 ⟨rfl,nv7,x7,-,hx7,af6,xG⟩;have hO7:=(uh H6).next (uh Ad) af6 xG;have H7:=ab hO7;have HX7:=ab hx7;clear af6 xG hx7 qv;by_cases og:a=b
  .have d1:((a:Int) != (b:Int))=false:=(by simp[og]);have QN:Hid (oR=⟨[bz (sS f a b)],[],false,false,false⟩):=ab (by rw[uh Lq,if_neg (by decide),if_pos og]);clear og hO7;go_wp2_with fail
   go_end0
   exact⟨rfl,by rw[uh QN];exact(uh H7).out (o:=⟨[bz (sS f a b)],[],false,false,false⟩) (by simp[uh HX7]) rfl⟩
  .have d1:((a:Int) != (b:Int))=true:=(by rw[bne_iff_ne];omega);have QN:Hid (oR=⟨[bz (sS f a b)],[bz (cC f a b)],false,false,false⟩):=ab (by rw[uh Lq,if_neg (by decide),if_neg og]);have jI:=ab (cE hO7.ff (uh HO).c5 ha (zq3 gl (by omega)));clear og hO7;go_wp2_with fail
   refine(uh jI).mono ?_;rintro e W8 ⟨A8,rfl,hN8⟩;obtain⟨av8,ov8,vA⟩:=hN8.frf;have FH:=ab (pO vA.fm a b (zq3 ha (by omega)));have Ru:=ab vA;clear hN8 vA jI;go_wp2_with fail
   refine(uh FH).mono ?_;rintro e W9 ⟨rfl,av9,Ne,Nx⟩;have v7:=(uh Ru).step (x':=⟨A8,cC f a b,av9,ov8⟩) Ne Nx;have YT:=(uh H7).below v7.bw;have VK:=ab (vh YT.oo v7.fm ((uh HO).pa Y3 aeZ) (by
    show(f.ap++[_]).length<=100000;rw[length_append,length_singleton];omega) ((uh H7).fresh v7.ge) (by simp))
   have H9:=ab YT;have Xy:=ab (λk hk=>zq3 (uh H7).st.size (v7.ge k hk));clear Ne Nx v7 YT FH;go_wp2_with fail
   refine(uh VK).mono ?_;rintro e Wa ⟨rfl,tva,xa,-,hxa,Oh,EF⟩;have HN:=ab ((uh H9).next (uh Xy) Oh EF);have HXA:=ab hxa;clear Oh EF hxa VK;go_wp2_with fail
   go_end0
   exact⟨rfl,by rw[uh QN];exact(uh HN).out (o:=⟨[bz (sS f a b)],[bz (cC f a b)],false,false,false⟩) (by simp[uh HX7]) (by simp[uh HXA])⟩
 .rw[vZ]at Lq;have og:a≠b:=λe=>by rw[e]at vZ;unfold dS at vZ;simp at vZ
  have d1:((a:Int) != (b:Int))=true:=by rw[bne_iff_ne];omega
  have QN:Hid (oR=⟨[],[bz (cC f a b)],false,false,false⟩):=ab (by rw[uh Lq,if_pos rfl,if_neg og]);have jI:=ab (cE JC.ff (uh HO).c5 ha (zq3 gl (by omega)));clear og JC vZ;go_wp2_with fail
  refine(uh jI).mono ?_;rintro e W8 ⟨A8,rfl,hN8⟩;obtain⟨av8,ov8,vA⟩:=hN8.frf;have FH:=ab (pO vA.fm a b (zq3 ha (by omega)));have Ru:=ab vA;clear hN8 vA jI;go_wp2_with fail
  refine(uh FH).mono ?_;rintro e W9 ⟨rfl,av9,Ne,Nx⟩;have v7:=(uh Ru).step (x':=⟨A8,cC f a b,av9,ov8⟩) Ne Nx;have YT:=(uh H4).below v7.bw;have VK:=ab (vh YT.oo v7.fm ((uh HO).pa Y3 aeZ) (by
   show(f.ap++[_]).length<=100000;rw[length_append,length_singleton];omega) ((uh H4).fresh v7.ge) (by simp))
  have H9:=ab YT;have Xy:=ab (λk hk=>zq3 (uh H4).st.size (v7.ge k hk));clear Ne Nx v7 YT FH;go_wp2_with fail
  refine(uh VK).mono ?_;rintro e Wa ⟨rfl,tva,xa,-,hxa,Oh,EF⟩;have HN:=ab ((uh H9).next (uh Xy) Oh EF);have HXA:=ab hxa;clear Oh EF hxa VK;go_wp2_with fail
  go_end0
  exact⟨rfl,by rw[uh QN];exact(uh HN).out (o:=⟨[],[bz (cC f a b)],false,false,false⟩) rfl (by simp[uh HXA])⟩
end
def cX:Value:=.slice none 0 0
structure Lo(w W:World)(O A:Nat)(f:CF)(av ov:Value)(nu da fu:Bool)(nv:Value)(Ln:List FE)(B:Nat)(lv:Value)(L:List FE)(j:Nat):Prop where
 os:Os w W O A f av ov nu da fu nv cX Ln []
 pe:fh W B lv L j
 dj:∀k∈lU lv L j,k ∉ dV O nv cX Ln []
 wB:w.heap.size<=B
section
variable {w W W':World} {O A:Nat} {f:CF} {av ov nv lv:Value} {nu da fu:Bool} {Ln L:List FE} {B j:Nat}
theorem Lo.mid{x':FE}(h:Lo w W O A f av ov nu da fu nv Ln B lv L j)(hj:j<L.length)(hs:ar L[j].bs W x'.bs W'):
  Os w W' O A f av ov nu da fu nv cX Ln []/\(∀k∈x'.bs,k ∉ dV O nv cX Ln [])/\(∀k∈x'.bs,w.heap.size<=k)/\fh W' B lv L (j+1)/\(∀k∈lU lv L (j+1),k ∉ dV O nv cX Ln []/\k ∉ x'.bs):=by
 obtain⟨h1,h2,h3,h4,h5⟩:=h.pe.next hj;have B7:∀k∈L[j].bs,k ∉ dV O nv cX Ln []:=λk hk=>h.dj k (h5 k hk);have sj:Oo W' O nu da fu nv cX Ln []:=h.os.oo.stp hs (λk hk hn=>B7 k hn hk);refine⟨h.os.next (B:=L[j].bs) (λk hk=>zq3 h.wB (h2 k hk)) sj ((hs.wide (λk hk=>mem_append_right _ hk)).foots (λk hk=>zq0 (mem_append_left _ hk))),λk hk hn=>?_,λk hk=>?_,h3.stp hs (λk hk hn=>(h4 k hk).2 hn),λk hk=>⟨h.dj k (h4 k hk).1,λhn=>?_⟩⟩
 .rcases hs.foot k hk with q|q
  .exact B7 k q hn
  .have:=h.os.oo.lt k hn;omega
 .rcases hs.foot k hk with q|q
  .exact zq3 h.wB (h2 k q)
  .exact zq3 h.os.st.size q
 .rcases hs.foot k hn with q|q
  .exact(h4 k hk).2 q
  .have:=h3.lt k hk;omega
theorem Lo.fin {x' y:FE} {nv':Value} {W'':World} (hO:Os w W' O A f av ov nu da fu nv cX Ln []) (cq:∀k∈x'.bs,w.heap.size<=k) (hP:fh W' B lv L (j+1)) (hd:∀k∈lU lv L (j+1),k ∉ dV O nv cX Ln []/\k ∉ x'.bs) (hw:w.heap.size<=B)
  (sj:Oo W'' O nu da fu nv' cX (Ln++[y]) []) (hs:ar (dV O nv cX Ln []++x'.bs) W' (dV O nv' cX (Ln++[y]) []) W''):Lo w W'' O A f av ov nu da fu nv' (Ln++[y]) B lv L (j+1):=by
 have hn:∀k∈lU lv L (j+1),k ∉ dV O nv cX Ln []++x'.bs:=λk hk hm=>by
  rcases mem_append.1 hm with q|q
  .exact(hd k hk).1 q
  .exact(hd k hk).2 q
 refine⟨hO.next cq sj hs,hP.stp hs hn,λk hk hm=>?_,hw⟩;rcases hs.foot k hm with q|q
 .exact hn k hk q
 .have:=hP.lt k hk;omega
theorem Lo.start{w2:World}{nu' da' fu':Bool}(h:Os w W O A f av ov nu da fu cX cX [] [])(jE:Fl w2 W.heap.size lv L)(Dj:Bk w2 O 280 [cX,cX,.bool nu',.bool da',.bool fu'])(hs:ar [O] W (O::a9 lv L) w2):Lo w w2 O A f av ov nu' da' fu' cX [] W.heap.size lv L 0:=by
 have hfp:dV O cX cX [] []=[O]:=rfl;have sd:Fl w2 0 cX []:=Fl.nil0 w2 0;refine⟨⟨⟨Dj,sd,sd,by simp[a9,cX,Value.ownBlock]⟩,h.ff.of_eq (λk hk=>hs.block k (h.ff.lt k hk) (λhn=>h.of (by rw[mem_singleton]at hn;rw[<-hn];exact hk))),?_,h.ol,h.of,h.fw⟩,jE.pend,λk hk hn=>?_,h.st.size⟩
 .rw[hfp];have h0:=h.st;rw[hfp]at h0;exact(h0.trans (hs.foots (F'':=[O]) (λk hk=>zq0 hk)))
 .rw[hfp,mem_singleton]at hn;have h1:=jE.pend.geB k hk;have h2:=h.ol;have h3:=h.st.size;omega
end
theorem nQ.pre{w W w':World}{O:Nat}{o:Lz}(h:nQ W O o w')(hb:Below w.heap.size w W):nQ w O o w':=by
 obtain⟨nv,tv,Ln,Lt,h1,h2,h3,h4⟩:=h;refine⟨nv,tv,Ln,Lt,h1,h2,h3,⟨h4.os.trans hb.os,h4.tape.trans hb.tape,h4.output.trans hb.output,zq3 hb.size h4.size,λk hk hn=>(h4.block k (zq6 hk hb.size) hn).trans (hb.block k hk),λk hk=>?_⟩⟩;rcases h4.foot k hk with q|q
 .exact zq0 q
 .exact zq1 (zq3 hb.size q)
theorem Os.rebase{w W:World}{O A:Nat}{f:CF}{av ov:Value}(h:Os w w O A f av ov false false false cX cX [] [])(hb:Below w.heap.size w W):Os W W O A f av ov false false false cX cX [] [] :=
 Os.start (h.oo.below hb) (h.ff.below hb) rfl h.of
section
variable {w:World} {O A:Nat} {f:CF} {av ov:Value}
theorem Ec{n:Nd}(h:Os w w O A f av ov false false false cX cX [] [])(hO:am f)(ha:f.ap.length<=40000)(hv:n.v<4)(hi:n.ai<4):
  Calls prog 237 #[.pointer (some ⟨O,0,none⟩),.pointer (some ⟨A,0,none⟩),Rg n] w λe w'=>e=.returned (.tuple #[])/\nQ w O (br (fC f n.ai) (λg=>gG g n)) w':=by
 have gl:=hO.owLen;obtain⟨N,hN⟩:∃N,N=n:=⟨_,rfl⟩;obtain⟨op,v,ak,ai,nx,ot⟩:=n;simp only at hv hi;unfold Rg;simp only;rw[<-hN];have hNv:N.v=v:=by rw[hN]
 have QY:N.ai=ai:=by rw[hN]
 obtain⟨W1,dI⟩:∃W1,W1=w.alloc (.cells #[Value.int .i64 (op:Int),.int .i64 (v:Int),.int .i64 (ak:Int),.int .i64 (ai:Int),.int .i64 (nx:Int),.int .i64 (ot:Int)] 186):=⟨_,rfl⟩;have bQ:Below w.heap.size w W1:=by rw[dI];exact ah w _
 have hX:Bk W1 w.heap.size 186 [Value.int .i64 (op:Int),.int .i64 (v:Int),.int .i64 (ak:Int),.int .i64 (ai:Int),.int .i64 (nx:Int),.int .i64 (ot:Int)]:=by rw[dI];exact Bk.new w _ _
 obtain⟨X,fS⟩:∃X,X=w.heap.size:=⟨_,rfl⟩;rw[<-fS]at hX;have hXO:X≠O:=by have:=h.ol;omega
 have sL:=h.rebase bQ;have b3:=hX.cell 3 rfl;have kW:=ab (iU (N:=40000) hi hO ha);have Ag:=ab (rb hi sL.oo.bk sL.ff hO ha sL.of);obtain⟨r,hr⟩:∃r,r=fC f ai:=⟨_,rfl⟩;rw[<-hr]at Ag kW;have VF:Hid (r.1.length<=96):=ab (by rw[hr];exact sW hO ai);rw[<-hr];have H1:=ab sL;have HX:=ab hX;have HBX:=ab bQ;have HNv:=ab hNv;have HNa:=ab QY;clear h hO sL bQ hX hr hN hNv QY;go_enter func237,ntmps237;go_upto_region 1 with fail;rw[<-dI,<-fS];clear dI fS;go_wp2_with fail
 refine(uh Ag).mono ?_;rintro e w2 ⟨lv,L,rfl,jE,Nf,BN,fR⟩;have Wd:=Lo.start (uh H1) jE (by simpa using BN) fR;obtain⟨la,lc,dX,-,-⟩:=aj jE.row;subst dX;have Vw:=ab Nf;have hLL:L.length<=96:=by
  have h1:=congrArg List.length Nf;rw[length_map]at h1;have:=uh VF;omega
 have bX:Hid (Lo W1 w2 O A f av ov r.2.1 r.2.2.1 r.2.2.2 cX [] W1.heap.size (.slice la L.length lc) L 0):=ab (by simpa using Wd);clear jE Nf BN fR Wd Ag b3;obtain⟨B,hB⟩:∃B,B=W1.heap.size:=⟨_,rfl⟩;rw[<-hB]at bX;clear hB;go_wp2_with fail
 go_loopg [16] L.length (λgn iv wx=>∃(j:Nat) (nv:Value) (Ln:List FE),j+gn=L.length/\iv=.int .i64 j/\Ln.length=j/\Hid (Lo W1 wx O A f av ov r.2.1 r.2.2.1 r.2.2.2 nv Ln B (.slice la L.length lc) L j/\Ln.map (·.f)=(L.take j).map (λx=>bz (gG x.f N))))
 case atStart=>exact⟨0,cX,[],by omega,rfl,rfl,ab ⟨uh bX,rfl⟩⟩
 case round =>
  clear bX;obtain⟨j,nv,Ln,xD,rfl,YO,hI⟩:=hrel;obtain⟨G,hG⟩:∃G,G=gk:=⟨_,rfl⟩;by_cases eu:j<L.length
  .have hd:decide ((j:Int)<(L.length:Int))=true:=(by simp;omega);obtain⟨g2,cap2,cZ,aw⟩:=(uh hI).1.pe.cell eu;simp only[Value.slice.injEq,true_and]at cZ;obtain⟨rfl,rfl⟩:=cZ;obtain⟨hx,-,-,-,-⟩:=(uh hI).1.pe.next eu;have bf:=uh kW L[j].f (by rw[<-uh Vw];exact mem_map_of_mem (getElem_mem eu));have Tn:=(uh HX).stp (uh hI).1.os.st (by simpa using hXO);have b1:=Tn.cell 1 rfl;have b3:=Tn.cell 3 rfl;have rK:(L.take (j+1)).map (λx=>bz (gG x.f N))=(L.take j).map (λx=>bz (gG x.f N))++[bz (gG L[j].f N)]:=by
    rw[take_add_one,getElem?_eq_getElem eu,map_append];rfl
   have tB:Hid (∀(x':FE) (W':World),ar L[j].bs wr x'.bs W'->_):=ab (λx' W' hs=>(uh hI).1.mid (x':=x') eu hs);obtain⟨x,AH⟩:∃x,x=L[j]:=⟨_,rfl⟩;rw[<-AH]at aw hx bf rK tB;obtain⟨i',oU⟩:=Option.isSome_iff_exists.1 bf.bg;obtain⟨xB,-⟩:=eO oU;have xc:=hx.is.cls (i:=1+ai) (by omega);have xv:=hx.is.cls (i:=1+v) (by omega);have zv:=ownsRow.frozenAt hx.is.ob (1+v);unfold fH at xc;obtain⟨xa,xf,xav,xov⟩:=x;simp only at aw hx bf rK oU xB xc xv zv;obtain⟨oa,oc,d7,-,-⟩:=aj hx.is.ow;subst d7;have c6:=hx.is.c6;obtain⟨go,gc,kK,-,-⟩:=az hx.is.ow xB;simp only[Value.slice.injEq,true_and]at kK;obtain⟨rfl,rfl⟩:=kK;obtain⟨-,-,y2⟩:=ax hx.is.ow xB;obtain⟨rr,AF⟩:∃rr,rr=(xf.ow.getD i' au).r:=⟨_,rfl⟩;rw[<-AF]at y2;obtain⟨cx,vz⟩:∃cx,cx=xf.cl.getD (1+ai) 0:=⟨_,rfl⟩;rw[<-vz]at xc;have kV:Hid (∀m:Nat,Calls prog 208 #[.pointer (some ⟨xa,0,none⟩),.int .i64 cx] (wr.drewN m) λe w''=>e=.returned (.int .i64 (i':Int))/\∃q,w''=wr.drewN q):=ab (λm=>(bU (w:=wr.drewN m) cx (hx.is.of_eq (λ_ _=>rfl))).mono (λe w'' hw=>by
    have h1:=hw.1;rw[vz,oU]at h1;exact⟨h1,m,hw.2⟩))
   have hfg:setC xf (1+v) rr=gG xf N:=by
    unfold gG;rw[uh HNv,uh HNa];show setC xf (1+v) rr=setC xf (1+v) (owA xf (oZ xf (xf.cl.getD (1+ai) 0))).r;unfold oZ;rw[oU,AF];rfl
   have nA:=hx.setCl (1+v) rr (by omega);have bE:ar (aD xa xav (.slice (some ⟨go,0,none⟩) xf.ow.length oc)) wr (aD xa xav (.slice (some ⟨go,0,none⟩) xf.ow.length oc)) (wr.setCell ⟨xa,1+v,none⟩ (.int .i64 (rr:Int))):=(ar.refl _ _).setCell (p:=⟨xa,1+v,none⟩) (zq0 (by simp[aD])) _;have rt:=ab nA;have cH:=ab bE;have KF:=ab hfg;have vS:=ab rK;have qP:=yF (n:=N) (by rw[uh HNa];exact bf);have Xw:=ab qP;have qv:Hid (∀W':World,Fm W' xa (gG xf N) xav (.slice (some ⟨go,0,none⟩) xf.ow.length oc)->ar (aD xa xav (.slice (some ⟨go,0,none⟩) xf.ow.length oc)) wr (aD xa xav (.slice (some ⟨go,0,none⟩) xf.ow.length oc)) W'->Calls prog 242 #[.pointer (some ⟨O,0,none⟩),.pointer (some ⟨xa,0,none⟩)] W' λe w''=>e=.returned (.tuple #[])/\∃nv' y,y.f=bz (gG xf N)/\Lo W1 w'' O A f av ov r.2.1 r.2.2.1 r.2.2.2 nv' (Ln++[y]) B (.slice (some ⟨g2,0,none⟩) L.length lc) L (j+1)):=ab (λW' hf hs=>by
    have hwB:=(uh hI).1.wB;obtain⟨m1,m2,m3,m4,m5⟩:=uh tB ⟨xa,gG xf N,xav,.slice (some ⟨go,0,none⟩) xf.ow.length oc⟩ W' hs;refine(gI m1.oo hf qP.1 (zq3 qP.2 (by omega)) m2 (by omega)).mono ?_;rintro e w'' ⟨rfl,nv',y,-,hy,sj,aE⟩;exact⟨rfl,nv',y,hy,Lo.fin m1 m3 m4 m5 hwB sj aE⟩)
   have y9:(FE.p ⟨xa,xf,xav,.slice (some ⟨go,0,none⟩) xf.ow.length oc⟩)=.pointer (some ⟨xa,0,none⟩):=rfl;rw[y9]at aw;have i1:(0:Int)<=1+(ai:Int):=(by omega);have i2:1+(ai:Int)<5:=(by omega);have i3:(1+(ai:Int)).toNat=1+ai:=(by omega);have i4:(0:Int)<=1+(v:Int):=(by omega);have i5:1+(v:Int)<5:=(by omega);have i6:(1+(v:Int)).toNat=1+v:=(by omega);have i7:(0:Int)<=(j:Int):=(by omega);have i8:(j:Int)<(L.length:Int):=(by omega);have i9:(0:Int)<=(i':Int):=(by omega);have ia:(i':Int)<(xf.ow.length:Int):=(by omega);have Vu:Hid (Ln.map (·.f)=(L.take j).map (λx=>bz (gG x.f N))):=ab (uh hI).2;have HwB:=ab (uh hI).1.wB;clear hx bf rK Tn AF vz hfg nA bE qP y9 AH oU hI;go_wp2_with fail
   go_quiet ((go_at_call 208;exact uh kV _))
   go_wp2_with fail
   go_region
   go_wp2_with fail
   refine(uh qv ((wr.drewN (nq+1)).setCell ⟨xa,1+v,none⟩ (.int .i64 (rr:Int))) (by rw[<-uh KF];exact(uh rt).of_eq (λ_ _=>rfl)) ⟨(uh cH).os,(uh cH).tape,(uh cH).output,(uh cH).size,(uh cH).block,(uh cH).foot⟩).mono ?_;rintro e w5 ⟨rfl,nv5,y5,hy5,Ng⟩;have HN:Hid (Lo W1 w5 O A f av ov r.2.1 r.2.2.1 r.2.2.2 nv5 (Ln++[y5]) B (.slice (some ⟨g2,0,none⟩) L.length lc) L (j+1)/\(Ln++[y5]).map (·.f)=(L.take (j+1)).map (λx=>bz (gG x.f N))):=ab ⟨Ng,by rw[uh vS,map_append,uh Vu];simp[hy5]⟩;have Ww:(Ln++[y5]).length=j+1:=(by rw[length_append,length_singleton,YO]);have XD:=ab Ww;clear hy5 Ng Ww qv rt cH KF vS Xw Vu tB;go_wp2_with fail
   go_roundg (G-1)
   case rel=>exact⟨j+1,nv5,Ln++[y5],by omega,by go_num,uh XD,HN⟩
   case measure=>omega
  .have hd:decide ((j:Int)<(L.length:Int))=false:=(by simp;omega);have hN:Ln.map (·.f)=r.1.map (λg=>bz (gG g N)):=by
    rw[(uh hI).2,take_of_length_le (by omega),<-uh Vw,map_map];rfl
   have tC:=ab hN;clear hN;go_wp2_with fail
   go_end0
   exact⟨rfl,((uh hI).1.os.out (o:=br r (λg=>gG g N)) (uh tC) rfl).pre (uh HBX)⟩
end
section
variable {w:World} {O A:Nat} {f:CF} {av ov:Value}
theorem OO{n:Nd}(h:Os w w O A f av ov false false false cX cX [] [])(hO:am f)(ha:f.ap.length<=40000)(hv:n.v<4)(hi:n.ai<4):
  Calls prog 238 #[.pointer (some ⟨O,0,none⟩),.pointer (some ⟨A,0,none⟩),Rg n] w λe w'=>e=.returned (.tuple #[])/\nQ w O (br (fC f n.v) (λg=>qX g n)) w':=by
 have gl:=hO.owLen;obtain⟨N,hN⟩:∃N,N=n:=⟨_,rfl⟩;obtain⟨op,v,ak,ai,nx,ot⟩:=n;simp only at hv hi;unfold Rg;simp only;rw[<-hN];have hNv:N.v=v:=by rw[hN]
 have QY:N.ai=ai:=by rw[hN]
 have hNk:N.ak=ak:=by rw[hN]
 obtain⟨W1,dI⟩:∃W1,W1=w.alloc (.cells #[Value.int .i64 (op:Int),.int .i64 (v:Int),.int .i64 (ak:Int),.int .i64 (ai:Int),.int .i64 (nx:Int),.int .i64 (ot:Int)] 186):=⟨_,rfl⟩;have bQ:Below w.heap.size w W1:=by rw[dI];exact ah w _
 have hX:Bk W1 w.heap.size 186 [Value.int .i64 (op:Int),.int .i64 (v:Int),.int .i64 (ak:Int),.int .i64 (ai:Int),.int .i64 (nx:Int),.int .i64 (ot:Int)]:=by rw[dI];exact Bk.new w _ _
 obtain⟨X,fS⟩:∃X,X=w.heap.size:=⟨_,rfl⟩;rw[<-fS]at hX;have hXO:X≠O:=by have:=h.ol;omega
 have sL:=h.rebase bQ;have b1:=hX.cell 1 rfl;have kW:=ab (iU (N:=40000) hv hO ha);have Ag:=ab (rb hv sL.oo.bk sL.ff hO ha sL.of);obtain⟨r,hr⟩:∃r,r=fC f v:=⟨_,rfl⟩;rw[<-hr]at Ag kW;have VF:Hid (r.1.length<=96):=ab (by rw[hr];exact sW hO v);rw[<-hr];have H1:=ab sL;have HX:=ab hX;have HBX:=ab bQ;have HNv:=ab hNv;have HNa:=ab QY;have HNk:=ab hNk;clear h hO sL bQ hX hr hN hNv QY hNk;go_enter func238,ntmps238;go_upto_region 1 with fail;rw[<-dI,<-fS];clear dI fS;go_wp2_with fail
 refine(uh Ag).mono ?_;rintro e w2 ⟨lv,L,rfl,jE,Nf,BN,fR⟩;have Wd:=Lo.start (uh H1) jE (by simpa using BN) fR;obtain⟨la,lc,dX,-,-⟩:=aj jE.row;subst dX;have Vw:=ab Nf;have hLL:L.length<=96:=by
  have h1:=congrArg List.length Nf;rw[length_map]at h1;have:=uh VF;omega
 have bX:Hid (Lo W1 w2 O A f av ov r.2.1 r.2.2.1 r.2.2.2 cX [] W1.heap.size (.slice la L.length lc) L 0):=ab (by simpa using Wd);clear jE Nf BN fR Wd Ag b1;obtain⟨B,hB⟩:∃B,B=W1.heap.size:=⟨_,rfl⟩;rw[<-hB]at bX;clear hB;go_wp2_with fail
 go_loopg [15] L.length (λgn iv wx=>∃(j:Nat) (nv:Value) (Ln:List FE),j+gn=L.length/\iv=.int .i64 j/\Ln.length=j/\Hid (Lo W1 wx O A f av ov r.2.1 r.2.2.1 r.2.2.2 nv Ln B (.slice la L.length lc) L j/\Ln.map (·.f)=(L.take j).map (λx=>bz (qX x.f N))))
 case atStart=>exact⟨0,cX,[],by omega,rfl,rfl,ab ⟨uh bX,rfl⟩⟩
 case round =>
  clear bX;obtain⟨j,nv,Ln,xD,rfl,YO,hI⟩:=hrel;obtain⟨G,hG⟩:∃G,G=gk:=⟨_,rfl⟩;by_cases eu:j<L.length
  .have hd:decide ((j:Int)<(L.length:Int))=true:=(by simp;omega);obtain⟨g2,cap2,cZ,aw⟩:=(uh hI).1.pe.cell eu;simp only[Value.slice.injEq,true_and]at cZ;obtain⟨rfl,rfl⟩:=cZ;obtain⟨hx,-,-,-,-⟩:=(uh hI).1.pe.next eu;have bf:=uh kW L[j].f (by rw[<-uh Vw];exact mem_map_of_mem (getElem_mem eu));have Tn:=(uh HX).stp (uh hI).1.os.st (by simpa using hXO);have b1:=Tn.cell 1 rfl;have b2:=Tn.cell 2 rfl;have b3:=Tn.cell 3 rfl;have rK:(L.take (j+1)).map (λx=>bz (qX x.f N))=(L.take j).map (λx=>bz (qX x.f N))++[bz (qX L[j].f N)]:=by
    rw[take_add_one,getElem?_eq_getElem eu,map_append];rfl
   have tB:Hid (∀(x':FE) (W':World),ar L[j].bs wr x'.bs W'->_):=ab (λx' W' hs=>(uh hI).1.mid (x':=x') eu hs);obtain⟨x,AH⟩:∃x,x=L[j]:=⟨_,rfl⟩;rw[<-AH]at aw hx bf rK tB;obtain⟨i',oU⟩:=Option.isSome_iff_exists.1 bf.bg;obtain⟨xB,-⟩:=eO oU;have xc:=hx.is.cls (i:=1+v) (by omega);unfold fH at xc;obtain⟨xa,xf,xav,xov⟩:=x;simp only at aw hx bf rK oU xB xc;obtain⟨oa,oc,d7,-,-⟩:=aj hx.is.ow;subst d7;have c6:=hx.is.c6;obtain⟨go,gc,kK,-,-⟩:=az hx.is.ow xB;simp only[Value.slice.injEq,true_and]at kK;obtain⟨rfl,rfl⟩:=kK;obtain⟨-,-,y2⟩:=ax hx.is.ow xB;obtain⟨cx,vz⟩:∃cx,cx=xf.cl.getD (1+v) 0:=⟨_,rfl⟩;rw[<-vz]at xc;have kV:Hid (∀m:Nat,Calls prog 208 #[.pointer (some ⟨xa,0,none⟩),.int .i64 cx] (wr.drewN m) λe w''=>e=.returned (.int .i64 (i':Int))/\∃q,w''=wr.drewN q):=ab (λm=>(bU (w:=wr.drewN m) cx (hx.is.of_eq (λ_ _=>rfl))).mono (λe w'' hw=>by
    have h1:=hw.1;rw[vz,oU]at h1;exact⟨h1,m,hw.2⟩))
   obtain⟨b,hbE⟩:∃b,b=nV xf ak ai:=⟨_,rfl⟩;have hfg:setO xf i' ⟨(owA xf i').k,(owA xf i').l,b⟩=qX xf N:=by
    unfold qX;rw[uh HNv,uh HNa,uh HNk];unfold oZ;rw[oU,hbE];rfl
   have HPO:Hid (∀W':World,Below wr.heap.size wr W'->Fm W' xa xf xav (.slice (some ⟨go,0,none⟩) xf.ow.length oc)):=ab (λW' hb=>hx.below hb);have k9:=(hx.is.ow.lt go rfl).2;have vK:=hx.lt xa (by simp[aD]);have yL:=Tn.lt;have hgx:go≠xa:=λe=>hx.nds.2.1 (by rw[e];rfl);have hgX:go≠X:=λe=>by
    have h1:=(uh hI).1.pe.next eu;have h2:=h1.2.1 go (by rw[<-AH];simp[FE.bs,aD,Value.ownBlock]);have h3:=(uh HX).lt;have h4:=(uh hI).1.wB;omega
   have KF:=ab hfg;have nO:=ab hbE;have vS:=ab rK;have qP:=EM (n:=N) (by rw[uh HNv];exact bf);have Xw:=ab qP;have qv:Hid (∀W':World,Fm W' xa (qX xf N) xav (.slice (some ⟨go,0,none⟩) xf.ow.length oc)->ar (aD xa xav (.slice (some ⟨go,0,none⟩) xf.ow.length oc)) wr (aD xa xav (.slice (some ⟨go,0,none⟩) xf.ow.length oc)) W'->Calls prog 242 #[.pointer (some ⟨O,0,none⟩),.pointer (some ⟨xa,0,none⟩)] W' λe w''=>e=.returned (.tuple #[])/\∃nv' y,y.f=bz (qX xf N)/\Lo W1 w'' O A f av ov r.2.1 r.2.2.1 r.2.2.2 nv' (Ln++[y]) B (.slice (some ⟨g2,0,none⟩) L.length lc) L (j+1)):=ab (λW' hf hs=>by
    have hwB:=(uh hI).1.wB;obtain⟨m1,m2,m3,m4,m5⟩:=uh tB ⟨xa,qX xf N,xav,.slice (some ⟨go,0,none⟩) xf.ow.length oc⟩ W' hs;refine(gI m1.oo hf qP.1 (zq3 qP.2 (by omega)) m2 (by omega)).mono ?_;rintro e w'' ⟨rfl,nv',y,-,hy,sj,aE⟩;exact⟨rfl,nv',y,hy,Lo.fin m1 m3 m4 m5 hwB sj aE⟩)
   have y9:(FE.p ⟨xa,xf,xav,.slice (some ⟨go,0,none⟩) xf.ow.length oc⟩)=.pointer (some ⟨xa,0,none⟩):=rfl;rw[y9]at aw;have i1:(0:Int)<=1+(ai:Int):=(by omega);have i2:1+(ai:Int)<5:=(by omega);have i3:(1+(ai:Int)).toNat=1+ai:=(by omega);have i4:(0:Int)<=1+(v:Int):=(by omega);have i5:1+(v:Int)<5:=(by omega);have i6:(1+(v:Int)).toNat=1+v:=(by omega);have i7:(0:Int)<=(j:Int):=(by omega);have i8:(j:Int)<(L.length:Int):=(by omega);have i9:(0:Int)<=(i':Int):=(by omega);have ia:(i':Int)<(xf.ow.length:Int):=(by omega);have Vu:Hid (Ln.map (·.f)=(L.take j).map (λx=>bz (qX x.f N))):=ab (uh hI).2;have HwB:=ab (uh hI).1.wB;clear hx bf rK Tn vz hfg qP y9 AH oU hI hbE;go_wp2_with fail
   go_quiet ((go_at_call 208;exact uh kV _))
   obtain⟨W4,vY⟩:∃W4,W4=wr.drewN nq:=⟨_,rfl⟩;rw[<-vY];have mA:Below wr.heap.size wr W4:=(by rw[vY];exact jL wr nq);have p6:=(mA.cell vK).trans c6;have p2:=(mA.cell yL).trans b2;have p3:=(mA.cell yL).trans b3;have qt:=ab mA;have vp:Hid (∀W':World,Below wr.heap.size wr W'->Calls prog 236 #[.pointer (some ⟨xa,0,none⟩),.agg #[.int .i64 (ak:Int),.int .i64 (ai:Int)]] W' λe w''=>e=.returned (.int .i64 (b:Int))/\Below wr.heap.size wr w''):=ab (λW' hb=>(qz (uh HPO W' hb).is ak ai hi).mono (λe w'' hw=>⟨by rw[uh nO];exact hw.1,hb.trans (hw.2.mono hb.size)⟩));clear vY mA;have akM:¬ (go=xa):=hgx;have hgX':¬ (go=X):=hgX;have arP:¬ (xa=go):=λe=>hgx e.symm;have aqG:¬ (X=go):=λe=>hgX e.symm;go_wp2_with fail
   go_region_held3 (λW=>W.cell? ⟨xa,6,none⟩=some (.slice (some ⟨go,0,none⟩) xf.ow.length oc)/\W.cell? ⟨X,2,none⟩=some (.int .i64 (ak:Int))/\W.cell? ⟨X,3,none⟩=some (.int .i64 (ai:Int))) (first|(simp only[cell?_drew,p6,p2,p3,and_self];done)|(simp only[q6,q2,q3,and_self];done)|(simp[cell?_setCell_far,q6,q2,q3,akM,hgX'];done))
    (first
     |(go_at_call 236;refine(uh vp _ (by first|exact(uh qt).drew|exact uh qt)).mono ?_;rintro e w6 ⟨rfl,ib⟩;have q6:=(ib.cell vK).trans c6;have q2:=(ib.cell yL).trans b2;have q3:=(ib.cell yL).trans b3;have S8:=uh HPO w6 ib;have y6:=(ib.cell k9).trans y2;have z6:=S8.is.ow.frozenAt (i'*3+2);have tt:=ab ib;have HF6:=ab S8;clear ib S8))
   have HPU:=ab (Fm.putO (uh HF6) xB b);go_wp2_with fail
   refine(uh qv (w6.setCell ⟨go,i'*3+2,none⟩ (.int .i64 (b:Int))) (by rw[<-uh KF];exact(uh HPU).1) ((ar.ofBw (F:=aD xa xav (.slice (some ⟨go,0,none⟩) xf.ow.length oc)) (uh tt)).trans (uh HPU).2.1)).mono ?_;rintro e w5 ⟨rfl,nv5,y5,hy5,Ng⟩;have HN:Hid (Lo W1 w5 O A f av ov r.2.1 r.2.2.1 r.2.2.2 nv5 (Ln++[y5]) B (.slice (some ⟨g2,0,none⟩) L.length lc) L (j+1)/\(Ln++[y5]).map (·.f)=(L.take (j+1)).map (λx=>bz (qX x.f N))):=ab ⟨Ng,by rw[uh vS,map_append,uh Vu];simp[hy5]⟩;have Ww:(Ln++[y5]).length=j+1:=(by rw[length_append,length_singleton,YO]);have XD:=ab Ww;clear hy5 Ng Ww qv KF vS Xw Vu tB HPO vp qt tt HF6 HPU;go_wp2_with fail
   go_roundg (G-1)
   case rel=>exact⟨j+1,nv5,Ln++[y5],by omega,by go_num,uh XD,HN⟩
   case measure=>omega
  .have hd:decide ((j:Int)<(L.length:Int))=false:=(by simp;omega);have hN:Ln.map (·.f)=r.1.map (λg=>bz (qX g N)):=by
    rw[(uh hI).2,take_of_length_le (by omega),<-uh Vw,map_map];rfl
   have tC:=ab hN;clear hN;go_wp2_with fail
   go_end0
   exact⟨rfl,((uh hI).1.os.out (o:=br r (λg=>qX g N)) (uh tC) rfl).pre (uh HBX)⟩
end
theorem If:∀(l:List Pr) {g:CF} {c:Nat},(l.foldl (λh p=>cC h c p.l) g).ap.length=g.ap.length+l.length
 |[],_,_=>rfl
 |p::r,g,c=>by
  rw[foldl_cons,If r (g:=cC g c p.l),length_cons];show(g.ap++[_]).length+_=_;rw[length_append,length_singleton];omega
section
variable {w:World} {O A:Nat} {f:CF} {av ov:Value}
theorem M6{v:Nat}(h:Os w w O A f av ov false false false cX cX [] [])(hO:am f)(ha:f.ap.length<=40000)(hv:v<4):
  Calls prog 240 #[.pointer (some ⟨O,0,none⟩),.pointer (some ⟨A,0,none⟩),.int .i64 v] w λe w'=>e=.returned (.tuple #[])/\nQ w O (br (fC f v) (λg=>qK g v)) w':=by
 have gl:=hO.owLen;have kW:=ab (iU (N:=40000) hv hO ha);have Ag:=ab (rb hv h.oo.bk h.ff hO ha h.of);obtain⟨r,hr⟩:∃r,r=fC f v:=⟨_,rfl⟩;rw[<-hr]at Ag kW;have VF:Hid (r.1.length<=96):=ab (by rw[hr];exact sW hO v);rw[<-hr];have H1:=ab h;have i1:(0:Int)<=1+(v:Int):=by omega
 have i2:1+(v:Int)<5:=by omega
 have i3:(1+(v:Int)).toNat=1+v:=by omega
 clear h hO hr;go_enter func240,ntmps240;go_wp2_with fail
 refine(uh Ag).mono ?_;rintro e w2 ⟨lv,L,rfl,jE,Nf,BN,fR⟩;have Wd:=Lo.start (uh H1) jE (by simpa using BN) fR;obtain⟨la,lc,dX,-,-⟩:=aj jE.row;subst dX;have Vw:=ab Nf;have hLL:L.length<=96:=by
  have h1:=congrArg List.length Nf;rw[length_map]at h1;have:=uh VF;omega
 have bX:Hid (Lo w w2 O A f av ov r.2.1 r.2.2.1 r.2.2.2 cX [] w.heap.size (.slice la L.length lc) L 0):=ab (by simpa using Wd);clear jE Nf BN fR Wd Ag;obtain⟨B,hB⟩:∃B,B=w.heap.size:=⟨_,rfl⟩;rw[<-hB]at bX;clear hB;go_wp2_with fail
 go_loopg [17] L.length (λgn iv wx=>∃(j:Nat) (nv:Value) (Ln:List FE),j+gn=L.length/\iv=.int .i64 j/\Ln.length=j/\Hid (Lo w wx O A f av ov r.2.1 r.2.2.1 r.2.2.2 nv Ln B (.slice la L.length lc) L j/\Ln.map (·.f)=(L.take j).map (λx=>bz (qK x.f v))))
 case atStart=>exact⟨0,cX,[],by omega,rfl,rfl,ab ⟨uh bX,rfl⟩⟩
 case round =>
  clear bX;obtain⟨j,nv,Ln,xD,rfl,YO,hI⟩:=hrel;obtain⟨G,hG⟩:∃G,G=gk:=⟨_,rfl⟩;by_cases eu:j<L.length
  .have hd:decide ((j:Int)<(L.length:Int))=true:=(by simp;omega);obtain⟨g2,cap2,cZ,aw⟩:=(uh hI).1.pe.cell eu;simp only[Value.slice.injEq,true_and]at cZ;obtain⟨rfl,rfl⟩:=cZ;obtain⟨hx,-,-,-,-⟩:=(uh hI).1.pe.next eu;have bf:=uh kW L[j].f (by rw[<-uh Vw];exact mem_map_of_mem (getElem_mem eu));have rK:(L.take (j+1)).map (λx=>bz (qK x.f v))=(L.take j).map (λx=>bz (qK x.f v))++[bz (qK L[j].f v)]:=by
    rw[take_add_one,getElem?_eq_getElem eu,map_append];rfl
   have tB:Hid (∀(x':FE) (W':World),ar L[j].bs wr x'.bs W'->_):=ab (λx' W' hs=>(uh hI).1.mid (x':=x') eu hs);obtain⟨x,AH⟩:∃x,x=L[j]:=⟨_,rfl⟩;rw[<-AH]at aw hx bf rK tB;obtain⟨i',oU⟩:=Option.isSome_iff_exists.1 bf.bg;obtain⟨xB,-⟩:=eO oU;obtain⟨xa,xf,xav,xov⟩:=x;simp only at aw hx bf rK oU xB;have xc:=hx.is.cls (i:=1+v) (by omega);unfold fH at xc;have hfrE:qK xf v=(jh xf i').ow.foldl (λh p=>cC h (xf.cl.getD (1+v) 0) p.l) (cC (jh xf i') (xf.cl.getD (1+v) 0) ((jh xf i').cl.getD 0 0)):=by
    have e:oZ xf (xf.cl.getD (1+v) 0)=i':=(by unfold oZ;rw[oU];rfl);show(jh xf (oZ xf (xf.cl.getD (1+v) 0))).ow.foldl _ (cC (jh xf (oZ xf (xf.cl.getD (1+v) 0))) _ _)=_;rw[e]
   obtain⟨cx,vz⟩:∃cx,cx=xf.cl.getD (1+v) 0:=⟨_,rfl⟩;rw[<-vz]at xc oU hfrE;have alX:=bf.ok.owLen;have kV:=ab (bU cx hx.is);rw[oU,show dp (some i')=(i':Int) from rfl]at kV;have HTA:=ab (xr hx (zq3 alX (by omega)) i');have qP:=qL bf;have qv:Hid (∀(W':World) (av' ov':Value),Fm W' xa (qK xf v) av' ov'->ar (aD xa xav xov) wr (aD xa av' ov') W'->Calls prog 242 #[.pointer (some ⟨O,0,none⟩),.pointer (some ⟨xa,0,none⟩)] W' λe w''=>e=.returned (.tuple #[])/\∃nv' y,y.f=bz (qK xf v)/\Lo w w'' O A f av ov r.2.1 r.2.2.1 r.2.2.2 nv' (Ln++[y]) B (.slice (some ⟨g2,0,none⟩) L.length lc) L (j+1)):=ab (λW' av' ov' hf hs=>by
    have hwB:=(uh hI).1.wB;obtain⟨m1,m2,m3,m4,m5⟩:=uh tB ⟨xa,qK xf v,av',ov'⟩ W' hs;refine(gI m1.oo hf qP.1 (zq3 qP.2 (by omega)) m2 (by omega)).mono ?_;rintro e w'' ⟨rfl,nv',y,-,hy,sj,aE⟩;exact⟨rfl,nv',y,hy,Lo.fin m1 m3 m4 m5 hwB sj aE⟩)
   have y9:(FE.p ⟨xa,xf,xav,xov⟩)=.pointer (some ⟨xa,0,none⟩):=rfl;rw[y9]at aw;have arN:=bf.ln;have htl:(jh xf i').ow.length<=24:=(bf.ok.tk i').owLen;have vH:(jh xf i').ap.length<=40000:=bf.ln;have vS:=ab rK;have HFE:=ab hfrE;have Vu:Hid (Ln.map (·.f)=(L.take j).map (λx=>bz (qK x.f v))):=ab (uh hI).2;have i7:(0:Int)<=(j:Int):=(by omega);have i8:(j:Int)<(L.length:Int):=(by omega);clear hx bf rK vz hfrE qP y9 AH oU hI;go_wp2_with fail
   refine(uh kV).mono ?_;rintro e w3 ⟨rfl,rfl⟩;go_wp2_with fail
   refine(uh HTA).mono ?_;rintro e w4 ⟨rfl,ov4,qN,er⟩;obtain⟨T,hT⟩:∃T,T=jh xf i':=⟨_,rfl⟩;have YH:Fm w4 xa T xav ov4:=(by rw[hT];exact qN);rw[<-hT]at HFE htl vH;have x0:=YH.is.cls (i:=0) (by omega);unfold fH at x0;obtain⟨n0,oq⟩:∃n0,n0=T.cl.getD 0 0:=⟨_,rfl⟩;rw[<-oq]at x0 HFE;have FH:=ab (pO YH cx n0 (zq3 vH (by omega)));have kt:=ab er;clear qN YH er oq hT HTA kV xc aw;go_wp2_with fail
   refine(uh FH).mono ?_;rintro e w5 ⟨rfl,av5,BE,eT⟩;have c6:=BE.is.c6;obtain⟨oa,oc,d7,-,-⟩:=aj BE.is.ow;have B9:ov4=.slice oa T.ow.length oc:=d7;subst B9;have mV:Hid (Fm w5 xa ((T.ow.take 0).foldl (λh p=>cC h cx p.l) (cC T cx n0)) av5 (.slice oa T.ow.length oc)/\ar (aD xa xav xov) w3 (aD xa av5 (.slice oa T.ow.length oc)) w5):=ab ⟨BE,(uh kt).trans eT⟩;clear BE eT FH x0 d7;go_wp2_with fail
   go_loopg [47] T.ow.length (λgn iv wx=>∃(m:Nat) (av6:Value),m+gn=T.ow.length/\iv=.int .i64 m/\Hid (Fm wx xa ((T.ow.take m).foldl (λh p=>cC h cx p.l) (cC T cx n0)) av6 (.slice oa T.ow.length oc)/\ar (aD xa xav xov) w3 (aD xa av6 (.slice oa T.ow.length oc)) wx))
   case atStart=>exact⟨0,av5,by omega,rfl,mV⟩
   case round =>
    clear mV c6;obtain⟨m,av6,hmn,rfl,hJ⟩:=hrel;obtain⟨G2,BF⟩:∃G2,G2=gk:=⟨_,rfl⟩;have howE:((T.ow.take m).foldl (λh p=>cC h cx p.l) (cC T cx n0)).ow=T.ow:=zF _;have hapE:((T.ow.take m).foldl (λh p=>cC h cx p.l) (cC T cx n0)).ap.length<=100000:=by
     rw[If];show(T.ap++[_]).length+(T.ow.take m).length<=_;rw[length_append,length_singleton,length_take];omega
    by_cases dJ:m<T.ow.length
    .have jb:decide ((m:Int)<(T.ow.length:Int))=true:=(by simp;omega);have aR:wr.ownsRow 0 182 3 (.slice oa T.ow.length oc) T.ow.length (af T.ow):=by
      have:=(uh hJ).1.is.ow;rwa [howE]at this
     obtain⟨go,gc,kK,-,-⟩:=az aR dJ;simp only[Value.slice.injEq,true_and]at kK;obtain⟨rfl,rfl⟩:=kK;obtain⟨y0,y1,y2⟩:=ax aR dJ;have oT:=iG (g:=λh p=>cC h cx p.l) (a:=cC T cx n0) dJ;obtain⟨p,hp⟩:∃p,p=T.ow.getD m au:=⟨_,rfl⟩;rw[<-hp]at y0 y1 y2 oT;obtain⟨W1,dI⟩:∃W1,W1=wr.alloc (.cells #[Value.int .i64 p.k,.int .i64 p.l,.int .i64 p.r] 182):=⟨_,rfl⟩;have bQ:Below wr.heap.size wr W1:=(by rw[dI];exact ah wr _);have iI:Bk W1 wr.heap.size 182 [Value.int .i64 p.k,.int .i64 p.l,.int .i64 p.r]:=(by rw[dI];exact Bk.new wr _ _);obtain⟨X,fS⟩:∃X,X=wr.heap.size:=⟨_,rfl⟩;rw[<-fS]at iI;have b1:=iI.cell 1 rfl;have VA:=ab (pO ((uh hJ).1.below bQ) cx p.l hapE);have HSB:=ab ((uh hJ).2.trans (ar.ofBw bQ));have ai0:=ab oT;have k1:(0:Int)<=(m:Int):=(by omega);have k2:(m:Int)<(T.ow.length:Int):=(by omega);clear aR oT hp bQ iI hJ howE hapE;go_upto_region 10 with fail;rw[<-dI,<-fS];clear dI fS;go_wp2_with fail
     refine(uh VA).mono ?_;rintro e w7 ⟨rfl,av7,S9,Dh⟩;have HN:Hid (Fm w7 xa ((T.ow.take (m+1)).foldl (λh p=>cC h cx p.l) (cC T cx n0)) av7 (.slice (some ⟨go,0,none⟩) T.ow.length oc)/\ar (aD xa xav xov) w3 (aD xa av7 (.slice (some ⟨go,0,none⟩) T.ow.length oc)) w7):=ab ⟨by rw[uh ai0];exact S9,(uh HSB).trans Dh⟩;clear S9 Dh VA HSB;go_wp2_with fail
     go_roundg (G2-1)
     case rel=>exact⟨m+1,av7,by omega,by go_num,HN⟩
     case measure=>omega
    .have jb:decide ((m:Int)<(T.ow.length:Int))=false:=(by simp;omega);have hfe:(T.ow.take m).foldl (λh p=>cC h cx p.l) (cC T cx n0)=qK xf v:=(by rw[take_of_length_le (by omega)];exact(uh HFE).symm);rw[hfe]at hJ;clear hfe howE hapE;go_wp2_with fail
     refine(uh qv _ _ _ (uh hJ).1 (uh hJ).2).mono ?_;rintro e w8 ⟨rfl,nv8,y8,hy8,aey⟩;have HN:Hid (Lo w w8 O A f av ov r.2.1 r.2.2.1 r.2.2.2 nv8 (Ln++[y8]) B (.slice (some ⟨g2,0,none⟩) L.length lc) L (j+1)/\(Ln++[y8]).map (·.f)=(L.take (j+1)).map (λx=>bz (qK x.f v))):=ab ⟨aey,by rw[uh vS,map_append,uh Vu];simp[hy8]⟩;have hl8:(Ln++[y8]).length=j+1:=(by rw[length_append,length_singleton,YO]);have HL8:=ab hl8;clear hy8 aey hl8 qv vS Vu tB hJ;go_wp2_with fail
     go_roundg (G-1)
     case rel=>exact⟨j+1,nv8,Ln++[y8],by omega,by go_num,uh HL8,HN⟩
     case measure=>omega
  .have hd:decide ((j:Int)<(L.length:Int))=false:=(by simp;omega);have hN:Ln.map (·.f)=r.1.map (λg=>bz (qK g v)):=by
    rw[(uh hI).2,take_of_length_le (by omega),<-uh Vw,map_map];rfl
   have tC:=ab hN;clear hN;go_wp2_with fail
   go_end0
   exact⟨rfl,(uh hI).1.os.out (o:=br r (λg=>qK g v)) (uh tC) rfl⟩
end
def XU(w:World)(o:Lz)(O:Nat)(w':World):Prop:=∃nv tv Ln Lt,Oo w' O o.nu o.da o.fu nv tv Ln Lt/\Ln.map (·.f)=o.nx/\Lt.map (·.f)=o.ot/\(∀k∈dV O nv tv Ln Lt,w.heap.size<=k)/\Below w.heap.size w w'
theorem nQ.own{w W w':World}{O:Nat}{o:Lz}(h:nQ W O o w')(hb:Below w.heap.size w W)(hO:w.heap.size<=O):XU w o O w':=by
 obtain⟨nv,tv,Ln,Lt,h1,h2,h3,h4⟩:=h;refine⟨nv,tv,Ln,Lt,h1,h2,h3,λk hk=>?_,⟨h4.os.trans hb.os,h4.tape.trans hb.tape,h4.output.trans hb.output,zq3 hb.size h4.size,λk hk=>(h4.block k (zq6 hk hb.size) (λhn=>by rw[mem_singleton]at hn;omega)).trans (hb.block k hk)⟩⟩;rcases h4.foot k hk with q|q
 .rw[mem_singleton]at q;omega
 .exact zq3 hb.size q
theorem Oo.swap{w:World}{O:Nat}{nu da fu:Bool}{nv tv:Value}{Ln Lt:List FE}(h:Oo w O nu da fu nv tv Ln Lt):Oo ((w.setCell ⟨O,0,none⟩ tv).setCell ⟨O,1,none⟩ nv) O nu da fu tv nv Lt Ln:=by
 have c9:=nodup_cons.1 h.nd;have ug:=nodup_append.1 c9.2;have e:∀k,k≠O->((w.setCell ⟨O,0,none⟩ tv).setCell ⟨O,1,none⟩ nv).heap[k]?=w.heap[k]?:=λk hk=>(heap_setCell _ _ _ _ hk).trans (heap_setCell _ _ _ _ hk);refine⟨(h.bk.set 0 tv).set 1 nv,h.ot.of_eq (λk hk=>e k (λq=>c9.1 (by rw[<-q];exact mem_append_right _ hk))),h.nx.of_eq (λk hk=>e k (λq=>c9.1 (by rw[<-q];exact mem_append_left _ hk))),?_⟩;rw[nodup_cons,nodup_append];refine⟨λhm=>c9.1 ?_,ug.2.1,ug.1,λa ha b hb q=>ug.2.2 b hb a ha q.symm⟩;rcases mem_append.1 hm with q|q
 .exact mem_append_right _ q
 .exact mem_append_left _ q
section
variable {w:World} {A:Nat} {f:CF} {av ov:Value}
theorem Mw{n:Nd}(h:dF w A f av ov)(hT:Td f)(hv:n.v<4)(hi:n.ai<4)(mC:n.op<=1000):
  Calls prog 203 #[Rg n,.pointer (some ⟨A,0,none⟩)] w λe w'=>∃O,e=.returned (.pointer (some ⟨O,0,none⟩))/\XU w (b8 n f) O w':=by
 have hO:=hT.ok;have ha:f.ap.length<=40000:=zq3 hT.ln (by omega);have gl:=hO.owLen;obtain⟨oR,hoR⟩:∃oR,oR=b8 n f:=⟨_,rfl⟩;obtain⟨W1,dI⟩:∃W1,W1=w.alloc (.cells #[Value.int .i64 (n.op:Int),.int .i64 (n.v:Int),.int .i64 (n.ak:Int),.int .i64 (n.ai:Int),.int .i64 (n.nx:Int),.int .i64 (n.ot:Int)] 186):=⟨_,rfl⟩;obtain⟨W2,ey⟩:∃W2,W2=W1.alloc (.cells #[Value.slice none 0 0,.slice none 0 0,.bool false,.bool false,.bool false] 280):=⟨_,rfl⟩;have a7:Below w.heap.size w W1:=by rw[dI];exact ah w _
 have aL:Below W1.heap.size W1 W2:=by rw[ey];exact ah W1 _
 have hX:Bk W2 w.heap.size 186 [Value.int .i64 (n.op:Int),.int .i64 (n.v:Int),.int .i64 (n.ak:Int),.int .i64 (n.ai:Int),.int .i64 (n.nx:Int),.int .i64 (n.ot:Int)]:=by
  refine Bk.below ?_ aL;rw[dI];exact Bk.new w _ _
 have Ay:Bk W2 W1.heap.size 280 [cX,cX,.bool false,.bool false,.bool false]:=by rw[ey];exact Bk.new W1 _ _
 have ko:W1.heap.size=w.heap.size+1:=by rw[dI];simp
 obtain⟨X,fS⟩:∃X,X=w.heap.size:=⟨_,rfl⟩;obtain⟨O,hOe⟩:∃O,O=W1.heap.size:=⟨_,rfl⟩;rw[<-fS]at hX;rw[<-hOe]at Ay;have hb:=a7.trans (aL.mono a7.size);have hwO:w.heap.size<=O:=by omega
 have hOs:Os W2 W2 O A f av ov false false false cX cX [] []:=Os.start ⟨Ay,Fl.nil0 _ _,Fl.nil0 _ _,by simp[a9,cX,Value.ownBlock]⟩ (h.below hb) rfl (λhn=>by have:=h.lt O hn;omega);have aeG:O=w.heap.size+1:=by omega
 have hXO:X≠O:=by omega
 have b0:=hX.cell 0 rfl;have b1:=hX.cell 1 rfl;have b2:=hX.cell 2 rfl;have b3:=hX.cell 3 rfl;have b4:=hX.cell 4 rfl;have b5:=hX.cell 5 rfl;have HS:=ab hOs;have HO:=ab hO;have HB:=ab hb;have HWO:=ab hwO;have HX:=ab hX;have QN:=ab hoR;obtain⟨z,hz⟩:∃z,z=(n.op:Int):=⟨_,rfl⟩;have HZ:=ab hz;rw[<-hoR];have Zi:oR=b8 n f:=hoR;unfold b8 at Zi;have FC:=ab Zi;have QL:Hid (∀w':World,nQ W2 O oR w'->∃O',(Ending.returned (.pointer (some ⟨O,0,none⟩)):Ending)=.returned (.pointer (some ⟨O',0,none⟩))/\XU w oR O' w'):=ab (λw' hp=>⟨O,rfl,hp.own hb hwO⟩);have c9:Rg n=.agg #[.int .i64 z,.int .i64 (n.v:Int),.int .i64 (n.ak:Int),.int .i64 (n.ai:Int),.int .i64 (n.nx:Int),.int .i64 (n.ot:Int)]:=by rw[hz];rfl
 rw[<-hz]at dI b0;clear h hT hO a7 aL hX Ay ko hb hOs hoR hz Zi;rw[c9];have HND:Hid (Rg n=.agg #[.int .i64 z,.int .i64 (n.v:Int),.int .i64 (n.ak:Int),.int .i64 (n.ai:Int),.int .i64 (n.nx:Int),.int .i64 (n.ot:Int)]):=ab c9;clear c9;go_enter func203,ntmps203;go_upto_region 2 with fail;rw[<-dI,<-ey,<-aeG,<-fS];clear dI ey fS hOe aeG;by_cases h0:n.op=0
 .have z0:z=0:=by rw[uh HZ,h0];rfl
  have HE:Hid (oR=uF):=ab (by rw[uh FC,if_pos h0]);subst z0;clear h0;go_wp2_with fail
  go_ret;exact uh QL _ (by rw[uh HE];exact(uh HS).out (o:=uF) rfl rfl)
 .have z0:(z==0)=false:=by rw[uh HZ];simp;omega
  by_cases h4:n.op=4
  .have z4:z=4:=(by rw[uh HZ,h4];rfl);have HE:Hid (oR=if 24<=aI f then ⟨[],[],false,false,true⟩ else ⟨[bz (C9 f n.v)],[],false,false,false⟩):=ab (by rw[uh FC,if_neg h0,if_neg (by omega),if_neg (by omega),if_neg (by omega),if_pos h4]);have tx:=ab (DZ (v:=n.v) (uh HS) (uh HO) ha hv);rw[<-uh HE]at tx;subst z4;clear h0 h4 z0;go_wp2_with fail
   refine(uh tx).mono ?_;rintro e w3 ⟨rfl,hP⟩;have HP:=ab hP;clear hP tx;go_wp2_with fail
   go_ret;exact uh QL _ (uh HP)
  .have z4:(z==4)=false:=(by rw[uh HZ];simp;omega);by_cases h5:n.op=5
   .have z5:z=5:=(by rw[uh HZ,h5];rfl);have HE:Hid (oR=br (fC f n.v) (λg=>qK g n.v)):=ab (by rw[uh FC,if_neg h0,if_neg (by omega),if_neg (by omega),if_neg (by omega),if_neg (by omega),if_pos h5]);have tx:=ab (M6 (v:=n.v) (uh HS) (uh HO) ha hv);rw[<-uh HE]at tx;subst z5;clear h0 h4 h5 z0 z4;go_wp2_with fail
    refine(uh tx).mono ?_;rintro e w3 ⟨rfl,hP⟩;have HP:=ab hP;clear hP tx;go_wp2_with fail
    go_ret;exact uh QL _ (uh HP)
   .have z5:(z==5)=false:=(by rw[uh HZ];simp;omega);by_cases h2:n.op=2
    .have z2:z=2:=(by rw[uh HZ,h2];rfl);have HE:Hid (oR=br (fC f n.ai) (λg=>gG g n)):=ab (by rw[uh FC,if_neg h0,if_neg (by omega),if_pos h2]);have tx:=ab (Ec (uh HS) (uh HO) ha hv hi);rw[<-uh HE,uh HND]at tx;subst z2;clear h0 h4 h5 h2 z0 z4 z5;go_wp2_with fail
     refine(uh tx).mono ?_;rintro e w3 ⟨rfl,hP⟩;have HP:=ab hP;clear hP tx;go_wp2_with fail
     go_ret;exact uh QL _ (uh HP)
    .have z2:(z==2)=false:=(by rw[uh HZ];simp;omega);by_cases h3:n.op=3
     .have z3:z=3:=(by rw[uh HZ,h3];rfl);have HE:Hid (oR=br (fC f n.v) (λg=>qX g n)):=ab (by rw[uh FC,if_neg h0,if_neg (by omega),if_neg (by omega),if_pos h3]);have tx:=ab (OO (uh HS) (uh HO) ha hv hi);rw[<-uh HE,uh HND]at tx;subst z3;clear h0 h4 h5 h2 h3 z0 z4 z5 z2;go_wp2_with fail
      refine(uh tx).mono ?_;rintro e w3 ⟨rfl,hP⟩;have HP:=ab hP;clear hP tx;go_wp2_with fail
      go_ret;exact uh QL _ (uh HP)
     .have z3:(z==3)=false:=(by rw[uh HZ];simp;omega);by_cases h8:n.op=8
      .have z8:z=8:=(by rw[uh HZ,h8];rfl);have HE:Hid (oR=⟨(jM f n).1,(jM f n).2,false,false,false⟩):=ab (by rw[uh FC,if_neg h0,if_neg (by omega),if_neg (by omega),if_neg (by omega),if_neg (by omega),if_neg (by omega),if_neg (by omega),if_pos h8]);have tx:=ab (rA (uh HS) (uh HO) ha hv hi);rw[<-uh HE,uh HND]at tx;subst z8;clear h0 h4 h5 h2 h3 h8 z0 z4 z5 z2 z3;go_wp2_with fail
       refine(uh tx).mono ?_;rintro e w3 ⟨rfl,hP⟩;have HP:=ab hP;clear hP tx;go_wp2_with fail
       go_ret;exact uh QL _ (uh HP)
      .have z8:(z==8)=false:=(by rw[uh HZ];simp;omega);by_cases h9:n.op=9
       .have z9:z=9:=(by rw[uh HZ,h9];rfl);have HE:Hid (oR=⟨(jM f n).2,(jM f n).1,false,false,false⟩):=ab (by rw[uh FC,if_neg h0,if_neg (by omega),if_neg (by omega),if_neg (by omega),if_neg (by omega),if_neg (by omega),if_neg (by omega),if_neg (by omega),if_pos h9]);have tx:=ab (rA (n:=n) (uh HS) (uh HO) ha hv hi);rw[uh HND]at tx;subst z9;clear h0 h4 h5 h2 h3 h8 h9 z0 z4 z5 z2 z3 z8;go_wp2_with fail
        refine(uh tx).mono ?_;rintro e w3 ⟨rfl,nv,tv,Ln,Lt,sj,hm1,sR,aE⟩;obtain⟨na,nc,AD,-,-⟩:=aj sj.nx.row;subst AD;obtain⟨ta,tc,htv,-,-⟩:=aj sj.ot.row;subst htv;have o0:=sj.bk.cell 0 rfl;have o1:=sj.bk.cell 1 rfl;have oz:=sj.bk.frz 0;have BM:=sj.bk.set 0 (.slice ta Lt.length tc);have o1':=BM.cell 1 rfl;have oz':=BM.frz 1;have hsw:=sj.swap;have hP:nQ W2 O oR ((w3.setCell ⟨O,0,none⟩ (.slice ta Lt.length tc)).setCell ⟨O,1,none⟩ (.slice na Ln.length nc)):=by
         rw[uh HE];refine⟨_,_,Lt,Ln,hsw,sR,hm1,((aE.setCell (p:=⟨O,0,none⟩) (zq0 (by simp)) _).setCell (p:=⟨O,1,none⟩) (zq0 (by simp)) _).foots (λk hk=>aE.foot k ?_)⟩;simp only[dV,mem_cons,mem_append]at hk ⊢;rcases hk with q|q|q
         .exact zq0 q
         .exact zq1 (zq1 q)
         .exact zq1 (zq0 q)
        have HP:=ab hP;clear sj hm1 sR aE BM hsw hP tx;go_wp2_with fail
        go_ret;exact uh QL _ (uh HP)
       .have z9:(z==9)=false:=(by rw[uh HZ];simp;omega);by_cases h7:n.op=7
        .have z7:z=7:=(by rw[uh HZ,h7];rfl);have HE:Hid (oR=⟨[bz f],[bz f],false,false,false⟩):=ab (by rw[uh FC,if_neg h0,if_neg (by omega),if_neg (by omega),if_neg (by omega),if_neg (by omega),if_neg (by omega),if_pos h7]);have jI:=ab (cE (uh HS).ff (uh HO).c5 ha (zq3 gl (by omega)));subst z7;clear h0 h4 h5 h2 h3 h8 h9 h7 z0 z4 z5 z2 z3 z8 z9;go_wp2_with fail
         refine(uh jI).mono ?_;rintro e w3 ⟨A3,rfl,Ax⟩;obtain⟨av3,ov3,lV⟩:=Ax.frf;have Nj:=(uh HS).below lV.bw;have qv:=ab (gI Nj.oo lV.fm (uh HO) (zq3 ha (by omega)) ((uh HS).fresh lV.ge) (by simp));have H3:=ab Nj;have HG3:=ab lV.ge;clear Ax lV Nj jI;go_wp2_with fail
         refine(uh qv).mono ?_;rintro e w4 ⟨rfl,nv4,x4,-,Z1,Og,uo⟩;have JC:=(uh H3).next (uh HG3) Og uo;have acV:=ab (cE JC.ff (uh HO).c5 ha (zq3 gl (by omega)));have H4:=ab JC;have HX4:=ab Z1;clear Og uo Z1 JC qv;go_wp2_with fail
         refine(uh acV).mono ?_;rintro e w5 ⟨A5,rfl,hN5⟩;obtain⟨av5,ov5,BT⟩:=hN5.frf;have hO5:=(uh H4).below BT.bw;have VK:=ab (vh hO5.oo BT.fm (uh HO) (zq3 ha (by omega)) ((uh H4).fresh BT.ge) (by simp));have H5:=ab hO5;have HG5:=ab (λk hk=>zq3 (uh H4).st.size (BT.ge k hk));clear hN5 BT hO5 acV;go_wp2_with fail
         refine(uh VK).mono ?_;rintro e w6 ⟨rfl,tv6,x6,-,hx6,af5,Cc⟩;have HN:=ab ((uh H5).next (uh HG5) af5 Cc);have HX6:=ab hx6;clear af5 Cc hx6 VK;go_wp2_with fail
         go_ret;exact uh QL _ (by rw[uh HE];exact(uh HN).out (o:=⟨[bz f],[bz f],false,false,false⟩) (by simp[uh HX4]) (by simp[uh HX6]))
        .have z7:(z==7)=false:=(by rw[uh HZ];simp;omega);by_cases h1:n.op=1
         .have z1:z=1:=(by rw[uh HZ,h1];rfl);have HE:Hid (oR=⟨[bz (setC f (1+n.v) (nV f n.ak n.ai))],[],false,false,false⟩):=ab (by rw[uh FC,if_neg h0,if_pos h1]);have vp:Hid (∀W':World,Below W2.heap.size W2 W'->Calls prog 236 #[.pointer (some ⟨A,0,none⟩),.agg #[.int .i64 (n.ak:Int),.int .i64 (n.ai:Int)]] W' λe w''=>e=.returned (.int .i64 (nV f n.ak n.ai:Nat))/\Below W2.heap.size W2 w''):=ab (λW' hb=>(qz ((uh HS).ff.below hb) n.ak n.ai hi).mono (λe w'' hw=>⟨hw.1,hb.trans (hw.2.mono hb.size)⟩));have HAS:Hid (∀W':World,Below W2.heap.size W2 W'->Calls prog 235 #[.pointer (some ⟨O,0,none⟩),.pointer (some ⟨A,0,none⟩),.int .i64 (n.v:Int),.int .i64 (nV f n.ak n.ai:Nat)] W' λe w''=>e=.returned (.tuple #[])/\nQ W2 O oR w''/\Bk w'' X 186 [Value.int .i64 (n.op:Int),.int .i64 (n.v:Int),.int .i64 (n.ak:Int),.int .i64 (n.ai:Int),.int .i64 (n.nx:Int),.int .i64 (n.ot:Int)]):=ab (λW' hb=>(DQ ((uh HS).rebase hb) (uh HO) ha hv ((uh HO).cT _ _)).mono (λe w'' hw=>⟨hw.1,by rw[uh HE];exact hw.2.pre hb,by
           obtain⟨nv,tv,Ln,Lt,-,-,-,aE⟩:=hw.2;exact((uh HX).below hb).stp aE (by simpa using hXO)⟩))
          have yL:=(uh HX).lt;obtain⟨cc,Q2⟩:∃cc,cc=nV f n.ak n.ai:=⟨_,rfl⟩;rw[<-Q2]at vp HAS;obtain⟨nv',TA⟩:∃q,q=n.v:=⟨_,rfl⟩;obtain⟨nk',Of⟩:∃q,q=n.ak:=⟨_,rfl⟩;obtain⟨ni',Oe⟩:∃q,q=n.ai:=⟨_,rfl⟩;rw[<-TA,<-Of,<-Oe]at HAS;rw[<-Of,<-Oe]at vp;rw[<-TA]at b1;rw[<-Of]at b2;rw[<-Oe]at b3;rw[<-TA,<-Of,<-Oe];subst z1;clear h0 h4 h5 h2 h3 h8 h9 h7 h1 z0 z4 z5 z2 z3 z8 z9 z7 Q2 TA Of Oe;go_upto_region 7 with fail;go_region_held3 (λW=>W.cell? ⟨X,1,none⟩=some (.int .i64 (nv':Int))/\W.cell? ⟨X,2,none⟩=some (.int .i64 (nk':Int))/\W.cell? ⟨X,3,none⟩=some (.int .i64 (ni':Int))) (first|(simp only[cell?_drew,b1,b2,b3,and_self];done)|(simp only[q1,q2,q3,and_self];done)|(simp only[r1,r2,r3,and_self];done))
           (first
            |(go_at_call 235;refine(uh HAS _ (uh oL)).mono ?_;rintro e w4 ⟨rfl,hP,Y1⟩;have r1:=Y1.cell 1 rfl;have r2:=Y1.cell 2 rfl;have r3:=Y1.cell 3 rfl;have HP:=ab hP;clear hP Y1)
            |(go_at_call 236;refine(uh vp _ (Below.refl _ _).drew).mono ?_;rintro e w3 ⟨rfl,cB⟩;have q1:=(cB.cell yL).trans b1;have q2:=(cB.cell yL).trans b2;have q3:=(cB.cell yL).trans b3;have oL:=ab cB;clear cB))
          go_wp2_with fail
          go_ret;exact uh QL _ (uh HP)
         .have z1:(z==1)=false:=(by rw[uh HZ];simp;omega);have HE:Hid (oR=⟨[bz f],[],false,false,false⟩):=ab (by rw[uh FC,if_neg h0,if_neg h1,if_neg h2,if_neg h3,if_neg h4,if_neg h5,if_neg h7,if_neg h8,if_neg h9]);have jI:=ab (cE (uh HS).ff (uh HO).c5 ha (zq3 gl (by omega)));clear h0 h4 h5 h2 h3 h8 h9 h7 h1;go_wp2_with fail
          refine(uh jI).mono ?_;rintro e w3 ⟨A3,rfl,Ax⟩;obtain⟨av3,ov3,lV⟩:=Ax.frf;have Nj:=(uh HS).below lV.bw;have qv:=ab (gI Nj.oo lV.fm (uh HO) (zq3 ha (by omega)) ((uh HS).fresh lV.ge) (by simp));have H3:=ab Nj;have HG3:=ab lV.ge;clear Ax lV Nj jI;go_wp2_with fail
          refine(uh qv).mono ?_;rintro e w4 ⟨rfl,nv4,x4,-,Z1,Og,uo⟩;have HN:=ab ((uh H3).next (uh HG3) Og uo);have HX4:=ab Z1;clear Og uo Z1 qv;go_wp2_with fail
          go_ret;exact uh QL _ (by rw[uh HE];exact(uh HN).out (o:=⟨[bz f],[],false,false,false⟩) (by simp[uh HX4]) rfl)
end
