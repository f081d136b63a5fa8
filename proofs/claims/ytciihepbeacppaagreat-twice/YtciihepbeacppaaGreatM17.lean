import Derived.Test.YtciihepbeacppaaGreatM16
set_option maxRecDepth 100000
set_option maxHeartbeats 0
namespace Go.Proofs.YtciihepbeacppaaGreat
open Tryz Go.RowKit List World Below
set_option linter.unusedVariables false
theorem nE.pre{w W w':World}{O:Nat}{o:JI}(h:nE W O o w')(hb:Below w.heap.size w W):nE w O o w':=by
 obtain⟨nv,tv,Ln,Lt,h1,h2,h3,h4⟩:=h;refine⟨nv,tv,Ln,Lt,h1,h2,h3,⟨h4.os.trans hb.os,h4.tape.trans hb.tape,h4.output.trans hb.output,zq3 hb.size h4.size,λk hk hn=>(h4.block k (zq6 hk hb.size) hn).trans (hb.block k hk),λk hk=>?_⟩⟩;rcases h4.foot k hk with q|q
 .exact zq0 q
 .exact zq1 (zq3 hb.size q)
theorem Os.rebase{w W:World}{O A:Nat}{f:CF}{av ov:Value}(h:Os w w O A f av ov false false false cX cX [] [])(hb:Below w.heap.size w W):Os W W O A f av ov false false false cX cX [] [] :=
 Os.start (h.oo.below hb) (h.ff.below hb) rfl h.of
section
variable {w:World} {O A:Nat} {f:CF} {av ov:Value}
theorem CT{n:Nd}(h:Os w w O A f av ov false false false cX cX [] [])(hO:au f)(ha:f.ap.length<=40000)(hv:n.v<4)(hi:n.ai<4):
  Calls prog 237 #[.pointer (some ⟨O,0,none⟩),.pointer (some ⟨A,0,none⟩),O7 n] w λe w'=>e=.returned (.tuple #[])/\nE w O (cH (jV f n.ai) (λg=>jd g n)) w':=by
 have gG:=hO.owLen;obtain⟨N,hN⟩:∃N,N=n:=⟨_,rfl⟩;obtain⟨op,v,ak,ai,nx,ot⟩:=n;simp only at hv hi;unfold O7;simp only;rw[<-hN];have hNv:N.v=v:=by rw[hN]
 have OP:N.ai=ai:=by rw[hN]
 obtain⟨W1,dE⟩:∃W1,W1=w.alloc (.cells #[Value.int .i64 (op:Int),.int .i64 (v:Int),.int .i64 (ak:Int),.int .i64 (ai:Int),.int .i64 (nx:Int),.int .i64 (ot:Int)] 186):=⟨_,rfl⟩;have bV:Below w.heap.size w W1:=by rw[dE];exact ah w _
 have hX:Bk W1 w.heap.size 186 [Value.int .i64 (op:Int),.int .i64 (v:Int),.int .i64 (ak:Int),.int .i64 (ai:Int),.int .i64 (nx:Int),.int .i64 (ot:Int)]:=by rw[dE];exact Bk.new w _ _
 obtain⟨X,fV⟩:∃X,X=w.heap.size:=⟨_,rfl⟩;rw[<-fV]at hX;have hXO:X≠O:=by have:=h.ol;omega
 have rP:=h.rebase bV;have b3:=hX.cell 3 rfl;have kQ:=ab (lX (N:=40000) hi hO ha);have zs:=ab (qs hi rP.oo.bk rP.ff hO ha rP.of);obtain⟨r,hr⟩:∃r,r=jV f ai:=⟨_,rfl⟩;rw[<-hr]at zs kQ;have S0:Hid (r.1.length<=96):=ab (by rw[hr];exact rX hO ai);rw[<-hr];have H1:=ab rP;have HX:=ab hX;have YS:=ab bV;have HNv:=ab hNv;have HNa:=ab OP;clear h hO rP bV hX hr hN hNv OP;go_enter func237,ntmps237;go_upto_region 1 with fail;rw[<-dE,<-fV];clear dE fV;go_wp2_with fail
 refine(uh zs).mono ?_;rintro e w2 ⟨lv,L,rfl,kh,K8,Ay,dF⟩;have Tw:=Lo.start (uh H1) kh (by simpa using Ay) dF;obtain⟨la,lc,jO,-,-⟩:=aj kh.row;subst jO;have ST:=ab K8;have hLL:L.length<=96:=by
  have h1:=congrArg List.length K8;rw[length_map]at h1;have:=uh S0;omega
 have cd:Hid (Lo W1 w2 O A f av ov r.2.1 r.2.2.1 r.2.2.2 cX [] W1.heap.size (.slice la L.length lc) L 0):=ab (by simpa using Tw);clear kh K8 Ay dF Tw zs b3;obtain⟨B,hB⟩:∃B,B=W1.heap.size:=⟨_,rfl⟩;rw[<-hB]at cd;clear hB;go_wp2_with fail
 go_loopg [16] L.length (λgn iv wx=>∃(j:Nat) (nv:Value) (Ln:List FE),j+gn=L.length/\iv=.int .i64 j/\Ln.length=j/\Hid (Lo W1 wx O A f av ov r.2.1 r.2.2.1 r.2.2.2 nv Ln B (.slice la L.length lc) L j/\Ln.map (·.f)=(L.take j).map (λx=>bR (jd x.f N))))
 case atStart=>exact⟨0,cX,[],by omega,rfl,rfl,ab ⟨uh cd,rfl⟩⟩
 case round =>
  clear cd;obtain⟨j,nv,Ln,yc,rfl,VW,hI⟩:=hrel;obtain⟨G,hG⟩:∃G,G=gk:=⟨_,rfl⟩;by_cases fC:j<L.length
  .have hd:decide ((j:Int)<(L.length:Int))=true:=(by simp;omega);obtain⟨g2,cap2,cO,aw⟩:=(uh hI).1.pe.cell fC;simp only[Value.slice.injEq,true_and]at cO;obtain⟨rfl,rfl⟩:=cO;obtain⟨hx,-,-,-,-⟩:=(uh hI).1.pe.next fC;have bE:=uh kQ L[j].f (by rw[<-uh ST];exact mem_map_of_mem (getElem_mem fC));have QC:=(uh HX).stp (uh hI).1.os.st (by simpa using hXO);have b1:=QC.cell 1 rfl;have b3:=QC.cell 3 rfl;have qQ:(L.take (j+1)).map (λx=>bR (jd x.f N))=(L.take j).map (λx=>bR (jd x.f N))++[bR (jd L[j].f N)]:=by
    rw[take_add_one,getElem?_eq_getElem fC,map_append];rfl
   have so:Hid (∀(x':FE) (W':World),aq L[j].bs wr x'.bs W'->_):=ab (λx' W' hs=>(uh hI).1.mid (x':=x') fC hs);obtain⟨x,zI⟩:∃x,x=L[j]:=⟨_,rfl⟩;rw[<-zI]at aw hx bE qQ so;obtain⟨i',lN⟩:=Option.isSome_iff_exists.1 bE.bg;obtain⟨ya,-⟩:=gg lN;have xc:=hx.is.cls (i:=1+ai) (by omega);have xv:=hx.is.cls (i:=1+v) (by omega);have zv:=ownsRow.frozenAt hx.is.ob (1+v);unfold fX at xc;obtain⟨xa,xf,xav,xov⟩:=x;simp only at aw hx bE qQ lN ya xc xv zv;obtain⟨oa,oc,fx,-,-⟩:=aj hx.is.ow;subst fx;have c6:=hx.is.c6;obtain⟨go,gc,mT,-,-⟩:=aD hx.is.ow ya;simp only[Value.slice.injEq,true_and]at mT;obtain⟨rfl,rfl⟩:=mT;obtain⟨-,-,y2⟩:=aA hx.is.ow ya;obtain⟨rr,Ik⟩:∃rr,rr=(xf.ow.getD i' aE).r:=⟨_,rfl⟩;rw[<-Ik]at y2;obtain⟨cx,uK⟩:∃cx,cx=xf.cl.getD (1+ai) 0:=⟨_,rfl⟩;rw[<-uK]at xc;have lz:Hid (∀m:Nat,Calls prog 208 #[.pointer (some ⟨xa,0,none⟩),.int .i64 cx] (wr.drewN m) λe w''=>e=.returned (.int .i64 (i':Int))/\∃q,w''=wr.drewN q):=ab (λm=>(cB (w:=wr.drewN m) cx (hx.is.of_eq (λ_ _=>rfl))).mono (λe w'' hw=>by
    have h1:=hw.1;rw[uK,lN]at h1;exact⟨h1,m,hw.2⟩))
   have hfg:nZ xf (1+v) rr=jd xf N:=by
    unfold jd;rw[uh HNv,uh HNa];show nZ xf (1+v) rr=nZ xf (1+v) (owA xf (pV xf (xf.cl.getD (1+ai) 0))).r;unfold pV;rw[lN,Ik];rfl
   have oj:=hx.setCl (1+v) rr (by omega);have bO:aq (aG xa xav (.slice (some ⟨go,0,none⟩) xf.ow.length oc)) wr (aG xa xav (.slice (some ⟨go,0,none⟩) xf.ow.length oc)) (wr.setCell ⟨xa,1+v,none⟩ (.int .i64 (rr:Int))):=(aq.refl _ _).setCell (p:=⟨xa,1+v,none⟩) (zq0 (by simp[aG])) _;have uZ:=ab oj;have cj:=ab bO;have IV:=ab hfg;have ve:=ab qQ;have qi:=xT (n:=N) (by rw[uh HNa];exact bE);have UC:=ab qi;have pR:Hid (∀W':World,Fm W' xa (jd xf N) xav (.slice (some ⟨go,0,none⟩) xf.ow.length oc)->aq (aG xa xav (.slice (some ⟨go,0,none⟩) xf.ow.length oc)) wr (aG xa xav (.slice (some ⟨go,0,none⟩) xf.ow.length oc)) W'->Calls prog 242 #[.pointer (some ⟨O,0,none⟩),.pointer (some ⟨xa,0,none⟩)] W' λe w''=>e=.returned (.tuple #[])/\∃nv' y,y.f=bR (jd xf N)/\Lo W1 w'' O A f av ov r.2.1 r.2.2.1 r.2.2.2 nv' (Ln++[y]) B (.slice (some ⟨g2,0,none⟩) L.length lc) L (j+1)):=ab (λW' hf hs=>by
    have hwB:=(uh hI).1.wB;obtain⟨m1,m2,m3,m4,m5⟩:=uh so ⟨xa,jd xf N,xav,.slice (some ⟨go,0,none⟩) xf.ow.length oc⟩ W' hs;refine(gD m1.oo hf qi.1 (zq3 qi.2 (by omega)) m2 (by omega)).mono ?_;rintro e w'' ⟨rfl,nv',y,-,hy,ro,aS⟩;exact⟨rfl,nv',y,hy,Lo.fin m1 m3 m4 m5 hwB ro aS⟩)
   have yo:(FE.p ⟨xa,xf,xav,.slice (some ⟨go,0,none⟩) xf.ow.length oc⟩)=.pointer (some ⟨xa,0,none⟩):=rfl;rw[yo]at aw;have i1:(0:Int)<=1+(ai:Int):=(by omega);have i2:1+(ai:Int)<5:=(by omega);have i3:(1+(ai:Int)).toNat=1+ai:=(by omega);have i4:(0:Int)<=1+(v:Int):=(by omega);have i5:1+(v:Int)<5:=(by omega);have i6:(1+(v:Int)).toNat=1+v:=(by omega);have i7:(0:Int)<=(j:Int):=(by omega);have i8:(j:Int)<(L.length:Int):=(by omega);have i9:(0:Int)<=(i':Int):=(by omega);have ia:(i':Int)<(xf.ow.length:Int):=(by omega);have SQ:Hid (Ln.map (·.f)=(L.take j).map (λx=>bR (jd x.f N))):=ab (uh hI).2;have HwB:=ab (uh hI).1.wB;clear hx bE qQ QC Ik uK hfg oj bO qi yo zI lN hI;go_wp2_with fail
   go_quiet ((go_at_call 208;exact uh lz _))
   go_wp2_with fail
   go_region
   go_wp2_with fail
   refine(uh pR ((wr.drewN (nq+1)).setCell ⟨xa,1+v,none⟩ (.int .i64 (rr:Int))) (by rw[<-uh IV];exact(uh uZ).of_eq (λ_ _=>rfl)) ⟨(uh cj).os,(uh cj).tape,(uh cj).output,(uh cj).size,(uh cj).block,(uh cj).foot⟩).mono ?_;rintro e w5 ⟨rfl,nv5,y5,hy5,K9⟩;have HN:Hid (Lo W1 w5 O A f av ov r.2.1 r.2.2.1 r.2.2.2 nv5 (Ln++[y5]) B (.slice (some ⟨g2,0,none⟩) L.length lc) L (j+1)/\(Ln++[y5]).map (·.f)=(L.take (j+1)).map (λx=>bR (jd x.f N))):=ab ⟨K9,by rw[uh ve,map_append,uh SQ];simp[hy5]⟩;have TN:(Ln++[y5]).length=j+1:=(by rw[length_append,length_singleton,VW]);have UH:=ab TN;clear hy5 K9 TN pR uZ cj IV ve UC SQ so;go_wp2_with fail
   go_roundg (G-1)
   case rel=>exact⟨j+1,nv5,Ln++[y5],by omega,by go_num,uh UH,HN⟩
   case measure=>omega
  .have hd:decide ((j:Int)<(L.length:Int))=false:=(by simp;omega);have hN:Ln.map (·.f)=r.1.map (λg=>bR (jd g N)):=by
    rw[(uh hI).2,take_of_length_le (by omega),<-uh ST,map_map];rfl
   have vL:=ab hN;clear hN;go_wp2_with fail
   go_end0
   exact⟨rfl,((uh hI).1.os.out (o:=cH r (λg=>jd g N)) (uh vL) rfl).pre (uh YS)⟩
end
section
variable {w:World} {O A:Nat} {f:CF} {av ov:Value}
theorem MK{n:Nd}(h:Os w w O A f av ov false false false cX cX [] [])(hO:au f)(ha:f.ap.length<=40000)(hv:n.v<4)(hi:n.ai<4):
  Calls prog 238 #[.pointer (some ⟨O,0,none⟩),.pointer (some ⟨A,0,none⟩),O7 n] w λe w'=>e=.returned (.tuple #[])/\nE w O (cH (jV f n.v) (λg=>uU g n)) w':=by
 have gG:=hO.owLen;obtain⟨N,hN⟩:∃N,N=n:=⟨_,rfl⟩;obtain⟨op,v,ak,ai,nx,ot⟩:=n;simp only at hv hi;unfold O7;simp only;rw[<-hN];have hNv:N.v=v:=by rw[hN]
 have OP:N.ai=ai:=by rw[hN]
 have hNk:N.ak=ak:=by rw[hN]
 obtain⟨W1,dE⟩:∃W1,W1=w.alloc (.cells #[Value.int .i64 (op:Int),.int .i64 (v:Int),.int .i64 (ak:Int),.int .i64 (ai:Int),.int .i64 (nx:Int),.int .i64 (ot:Int)] 186):=⟨_,rfl⟩;have bV:Below w.heap.size w W1:=by rw[dE];exact ah w _
 have hX:Bk W1 w.heap.size 186 [Value.int .i64 (op:Int),.int .i64 (v:Int),.int .i64 (ak:Int),.int .i64 (ai:Int),.int .i64 (nx:Int),.int .i64 (ot:Int)]:=by rw[dE];exact Bk.new w _ _
 obtain⟨X,fV⟩:∃X,X=w.heap.size:=⟨_,rfl⟩;rw[<-fV]at hX;have hXO:X≠O:=by have:=h.ol;omega
 have rP:=h.rebase bV;have b1:=hX.cell 1 rfl;have kQ:=ab (lX (N:=40000) hv hO ha);have zs:=ab (qs hv rP.oo.bk rP.ff hO ha rP.of);obtain⟨r,hr⟩:∃r,r=jV f v:=⟨_,rfl⟩;rw[<-hr]at zs kQ;have S0:Hid (r.1.length<=96):=ab (by rw[hr];exact rX hO v);rw[<-hr];have H1:=ab rP;have HX:=ab hX;have YS:=ab bV;have HNv:=ab hNv;have HNa:=ab OP;have HNk:=ab hNk;clear h hO rP bV hX hr hN hNv OP hNk;go_enter func238,ntmps238;go_upto_region 1 with fail;rw[<-dE,<-fV];clear dE fV;go_wp2_with fail
 refine(uh zs).mono ?_;rintro e w2 ⟨lv,L,rfl,kh,K8,Ay,dF⟩;have Tw:=Lo.start (uh H1) kh (by simpa using Ay) dF;obtain⟨la,lc,jO,-,-⟩:=aj kh.row;subst jO;have ST:=ab K8;have hLL:L.length<=96:=by
  have h1:=congrArg List.length K8;rw[length_map]at h1;have:=uh S0;omega
 have cd:Hid (Lo W1 w2 O A f av ov r.2.1 r.2.2.1 r.2.2.2 cX [] W1.heap.size (.slice la L.length lc) L 0):=ab (by simpa using Tw);clear kh K8 Ay dF Tw zs b1;obtain⟨B,hB⟩:∃B,B=W1.heap.size:=⟨_,rfl⟩;rw[<-hB]at cd;clear hB;go_wp2_with fail
 go_loopg [15] L.length (λgn iv wx=>∃(j:Nat) (nv:Value) (Ln:List FE),j+gn=L.length/\iv=.int .i64 j/\Ln.length=j/\Hid (Lo W1 wx O A f av ov r.2.1 r.2.2.1 r.2.2.2 nv Ln B (.slice la L.length lc) L j/\Ln.map (·.f)=(L.take j).map (λx=>bR (uU x.f N))))
 case atStart=>exact⟨0,cX,[],by omega,rfl,rfl,ab ⟨uh cd,rfl⟩⟩
 case round =>
  clear cd;obtain⟨j,nv,Ln,yc,rfl,VW,hI⟩:=hrel;obtain⟨G,hG⟩:∃G,G=gk:=⟨_,rfl⟩;by_cases fC:j<L.length
  .have hd:decide ((j:Int)<(L.length:Int))=true:=(by simp;omega);obtain⟨g2,cap2,cO,aw⟩:=(uh hI).1.pe.cell fC;simp only[Value.slice.injEq,true_and]at cO;obtain⟨rfl,rfl⟩:=cO;obtain⟨hx,-,-,-,-⟩:=(uh hI).1.pe.next fC;have bE:=uh kQ L[j].f (by rw[<-uh ST];exact mem_map_of_mem (getElem_mem fC));have QC:=(uh HX).stp (uh hI).1.os.st (by simpa using hXO);have b1:=QC.cell 1 rfl;have b2:=QC.cell 2 rfl;have b3:=QC.cell 3 rfl;have qQ:(L.take (j+1)).map (λx=>bR (uU x.f N))=(L.take j).map (λx=>bR (uU x.f N))++[bR (uU L[j].f N)]:=by
    rw[take_add_one,getElem?_eq_getElem fC,map_append];rfl
   have so:Hid (∀(x':FE) (W':World),aq L[j].bs wr x'.bs W'->_):=ab (λx' W' hs=>(uh hI).1.mid (x':=x') fC hs);obtain⟨x,zI⟩:∃x,x=L[j]:=⟨_,rfl⟩;rw[<-zI]at aw hx bE qQ so;obtain⟨i',lN⟩:=Option.isSome_iff_exists.1 bE.bg;obtain⟨ya,-⟩:=gg lN;have xc:=hx.is.cls (i:=1+v) (by omega);unfold fX at xc;obtain⟨xa,xf,xav,xov⟩:=x;simp only at aw hx bE qQ lN ya xc;obtain⟨oa,oc,fx,-,-⟩:=aj hx.is.ow;subst fx;have c6:=hx.is.c6;obtain⟨go,gc,mT,-,-⟩:=aD hx.is.ow ya;simp only[Value.slice.injEq,true_and]at mT;obtain⟨rfl,rfl⟩:=mT;obtain⟨-,-,y2⟩:=aA hx.is.ow ya;obtain⟨cx,uK⟩:∃cx,cx=xf.cl.getD (1+v) 0:=⟨_,rfl⟩;rw[<-uK]at xc;have lz:Hid (∀m:Nat,Calls prog 208 #[.pointer (some ⟨xa,0,none⟩),.int .i64 cx] (wr.drewN m) λe w''=>e=.returned (.int .i64 (i':Int))/\∃q,w''=wr.drewN q):=ab (λm=>(cB (w:=wr.drewN m) cx (hx.is.of_eq (λ_ _=>rfl))).mono (λe w'' hw=>by
    have h1:=hw.1;rw[uK,lN]at h1;exact⟨h1,m,hw.2⟩))
   obtain⟨b,hbE⟩:∃b,b=qE xf ak ai:=⟨_,rfl⟩;have hfg:setO xf i' ⟨(owA xf i').k,(owA xf i').l,b⟩=uU xf N:=by
    unfold uU;rw[uh HNv,uh HNa,uh HNk];unfold pV;rw[lN,hbE];rfl
   have HPO:Hid (∀W':World,Below wr.heap.size wr W'->Fm W' xa xf xav (.slice (some ⟨go,0,none⟩) xf.ow.length oc)):=ab (λW' hb=>hx.below hb);have mq:=(hx.is.ow.lt go rfl).2;have hxl:=hx.lt xa (by simp[aG]);have B5:=QC.lt;have hgx:go≠xa:=λe=>hx.nds.2.1 (by rw[e];rfl);have hgX:go≠X:=λe=>by
    have h1:=(uh hI).1.pe.next fC;have h2:=h1.2.1 go (by rw[<-zI];simp[FE.bs,aG,Value.ownBlock]);have h3:=(uh HX).lt;have h4:=(uh hI).1.wB;omega
   have IV:=ab hfg;have Cq:=ab hbE;have ve:=ab qQ;have qi:=Du (n:=N) (by rw[uh HNv];exact bE);have UC:=ab qi;have pR:Hid (∀W':World,Fm W' xa (uU xf N) xav (.slice (some ⟨go,0,none⟩) xf.ow.length oc)->aq (aG xa xav (.slice (some ⟨go,0,none⟩) xf.ow.length oc)) wr (aG xa xav (.slice (some ⟨go,0,none⟩) xf.ow.length oc)) W'->Calls prog 242 #[.pointer (some ⟨O,0,none⟩),.pointer (some ⟨xa,0,none⟩)] W' λe w''=>e=.returned (.tuple #[])/\∃nv' y,y.f=bR (uU xf N)/\Lo W1 w'' O A f av ov r.2.1 r.2.2.1 r.2.2.2 nv' (Ln++[y]) B (.slice (some ⟨g2,0,none⟩) L.length lc) L (j+1)):=ab (λW' hf hs=>by
    have hwB:=(uh hI).1.wB;obtain⟨m1,m2,m3,m4,m5⟩:=uh so ⟨xa,uU xf N,xav,.slice (some ⟨go,0,none⟩) xf.ow.length oc⟩ W' hs;refine(gD m1.oo hf qi.1 (zq3 qi.2 (by omega)) m2 (by omega)).mono ?_;rintro e w'' ⟨rfl,nv',y,-,hy,ro,aS⟩;exact⟨rfl,nv',y,hy,Lo.fin m1 m3 m4 m5 hwB ro aS⟩)
   have yo:(FE.p ⟨xa,xf,xav,.slice (some ⟨go,0,none⟩) xf.ow.length oc⟩)=.pointer (some ⟨xa,0,none⟩):=rfl;rw[yo]at aw;have i1:(0:Int)<=1+(ai:Int):=(by omega);have i2:1+(ai:Int)<5:=(by omega);have i3:(1+(ai:Int)).toNat=1+ai:=(by omega);have i4:(0:Int)<=1+(v:Int):=(by omega);have i5:1+(v:Int)<5:=(by omega);have i6:(1+(v:Int)).toNat=1+v:=(by omega);have i7:(0:Int)<=(j:Int):=(by omega);have i8:(j:Int)<(L.length:Int):=(by omega);have i9:(0:Int)<=(i':Int):=(by omega);have ia:(i':Int)<(xf.ow.length:Int):=(by omega);have SQ:Hid (Ln.map (·.f)=(L.take j).map (λx=>bR (uU x.f N))):=ab (uh hI).2;have HwB:=ab (uh hI).1.wB;clear hx bE qQ QC uK hfg qi yo zI lN hI hbE;go_wp2_with fail
   go_quiet ((go_at_call 208;exact uh lz _))
   obtain⟨W4,vm⟩:∃W4,W4=wr.drewN nq:=⟨_,rfl⟩;rw[<-vm];have mp:Below wr.heap.size wr W4:=(by rw[vm];exact ey wr nq);have p6:=(mp.cell hxl).trans c6;have p2:=(mp.cell B5).trans b2;have p3:=(mp.cell B5).trans b3;have xu:=ab mp;have uA:Hid (∀W':World,Below wr.heap.size wr W'->Calls prog 236 #[.pointer (some ⟨xa,0,none⟩),.agg #[.int .i64 (ak:Int),.int .i64 (ai:Int)]] W' λe w''=>e=.returned (.int .i64 (b:Int))/\Below wr.heap.size wr w''):=ab (λW' hb=>(pX (uh HPO W' hb).is ak ai hi).mono (λe w'' hw=>⟨by rw[uh Cq];exact hw.1,hb.trans (hw.2.mono hb.size)⟩));clear vm mp;have ahz:¬ (go=xa):=hgx;have hgX':¬ (go=X):=hgX;have aom:¬ (xa=go):=λe=>hgx e.symm;have ana:¬ (X=go):=λe=>hgX e.symm;go_wp2_with fail
   go_region_held3 (λW=>W.cell? ⟨xa,6,none⟩=some (.slice (some ⟨go,0,none⟩) xf.ow.length oc)/\W.cell? ⟨X,2,none⟩=some (.int .i64 (ak:Int))/\W.cell? ⟨X,3,none⟩=some (.int .i64 (ai:Int))) (first|(simp only[cell?_drew,p6,p2,p3,and_self];done)|(simp only[q6,q2,q3,and_self];done)|(simp[cell?_setCell_far,q6,q2,q3,ahz,hgX'];done))
    (first
     |(go_at_call 236;refine(uh uA _ (by first|exact(uh xu).drew|exact uh xu)).mono ?_;rintro e w6 ⟨rfl,jx⟩;have q6:=(jx.cell hxl).trans c6;have q2:=(jx.cell B5).trans b2;have q3:=(jx.cell B5).trans b3;have Qp:=uh HPO w6 jx;have y6:=(jx.cell mq).trans y2;have z6:=Qp.is.ow.frozenAt (i'*3+2);have uY:=ab jx;have HF6:=ab Qp;clear jx Qp))
   have HPU:=ab (Fm.putO (uh HF6) ya b);go_wp2_with fail
   refine(uh pR (w6.setCell ⟨go,i'*3+2,none⟩ (.int .i64 (b:Int))) (by rw[<-uh IV];exact(uh HPU).1) ((aq.ofBw (F:=aG xa xav (.slice (some ⟨go,0,none⟩) xf.ow.length oc)) (uh uY)).trans (uh HPU).2.1)).mono ?_;rintro e w5 ⟨rfl,nv5,y5,hy5,K9⟩;have HN:Hid (Lo W1 w5 O A f av ov r.2.1 r.2.2.1 r.2.2.2 nv5 (Ln++[y5]) B (.slice (some ⟨g2,0,none⟩) L.length lc) L (j+1)/\(Ln++[y5]).map (·.f)=(L.take (j+1)).map (λx=>bR (uU x.f N))):=ab ⟨K9,by rw[uh ve,map_append,uh SQ];simp[hy5]⟩;have TN:(Ln++[y5]).length=j+1:=(by rw[length_append,length_singleton,VW]);have UH:=ab TN;clear hy5 K9 TN pR IV ve UC SQ so HPO uA xu uY HF6 HPU;go_wp2_with fail
   go_roundg (G-1)
   case rel=>exact⟨j+1,nv5,Ln++[y5],by omega,by go_num,uh UH,HN⟩
   case measure=>omega
  .have hd:decide ((j:Int)<(L.length:Int))=false:=(by simp;omega);have hN:Ln.map (·.f)=r.1.map (λg=>bR (uU g N)):=by
    rw[(uh hI).2,take_of_length_le (by omega),<-uh ST,map_map];rfl
   have vL:=ab hN;clear hN;go_wp2_with fail
   go_end0
   exact⟨rfl,((uh hI).1.os.out (o:=cH r (λg=>uU g N)) (uh vL) rfl).pre (uh YS)⟩
end
theorem F8:∀(l:List Pr) {g:CF} {c:Nat},(l.foldl (λh p=>dx h c p.l) g).ap.length=g.ap.length+l.length
 |[],_,_=>rfl
 |p::r,g,c=>by
  rw[foldl_cons,F8 r (g:=dx g c p.l),length_cons];show(g.ap++[_]).length+_=_;rw[length_append,length_singleton];omega
section
variable {w:World} {O A:Nat} {f:CF} {av ov:Value}
theorem KS{v:Nat}(h:Os w w O A f av ov false false false cX cX [] [])(hO:au f)(ha:f.ap.length<=40000)(hv:v<4):
  Calls prog 240 #[.pointer (some ⟨O,0,none⟩),.pointer (some ⟨A,0,none⟩),.int .i64 v] w λe w'=>e=.returned (.tuple #[])/\nE w O (cH (jV f v) (λg=>xV g v)) w':=by
 have gG:=hO.owLen;have kQ:=ab (lX (N:=40000) hv hO ha);have zs:=ab (qs hv h.oo.bk h.ff hO ha h.of);obtain⟨r,hr⟩:∃r,r=jV f v:=⟨_,rfl⟩;rw[<-hr]at zs kQ;have S0:Hid (r.1.length<=96):=ab (by rw[hr];exact rX hO v);rw[<-hr];have H1:=ab h;have i1:(0:Int)<=1+(v:Int):=by omega
 have i2:1+(v:Int)<5:=by omega
 have i3:(1+(v:Int)).toNat=1+v:=by omega
 clear h hO hr;go_enter func240,ntmps240;go_wp2_with fail
 refine(uh zs).mono ?_;rintro e w2 ⟨lv,L,rfl,kh,K8,Ay,dF⟩;have Tw:=Lo.start (uh H1) kh (by simpa using Ay) dF;obtain⟨la,lc,jO,-,-⟩:=aj kh.row;subst jO;have ST:=ab K8;have hLL:L.length<=96:=by
  have h1:=congrArg List.length K8;rw[length_map]at h1;have:=uh S0;omega
 have cd:Hid (Lo w w2 O A f av ov r.2.1 r.2.2.1 r.2.2.2 cX [] w.heap.size (.slice la L.length lc) L 0):=ab (by simpa using Tw);clear kh K8 Ay dF Tw zs;obtain⟨B,hB⟩:∃B,B=w.heap.size:=⟨_,rfl⟩;rw[<-hB]at cd;clear hB;go_wp2_with fail
 go_loopg [17] L.length (λgn iv wx=>∃(j:Nat) (nv:Value) (Ln:List FE),j+gn=L.length/\iv=.int .i64 j/\Ln.length=j/\Hid (Lo w wx O A f av ov r.2.1 r.2.2.1 r.2.2.2 nv Ln B (.slice la L.length lc) L j/\Ln.map (·.f)=(L.take j).map (λx=>bR (xV x.f v))))
 case atStart=>exact⟨0,cX,[],by omega,rfl,rfl,ab ⟨uh cd,rfl⟩⟩
 case round =>
  clear cd;obtain⟨j,nv,Ln,yc,rfl,VW,hI⟩:=hrel;obtain⟨G,hG⟩:∃G,G=gk:=⟨_,rfl⟩;by_cases fC:j<L.length
  .have hd:decide ((j:Int)<(L.length:Int))=true:=(by simp;omega);obtain⟨g2,cap2,cO,aw⟩:=(uh hI).1.pe.cell fC;simp only[Value.slice.injEq,true_and]at cO;obtain⟨rfl,rfl⟩:=cO;obtain⟨hx,-,-,-,-⟩:=(uh hI).1.pe.next fC;have bE:=uh kQ L[j].f (by rw[<-uh ST];exact mem_map_of_mem (getElem_mem fC));have qQ:(L.take (j+1)).map (λx=>bR (xV x.f v))=(L.take j).map (λx=>bR (xV x.f v))++[bR (xV L[j].f v)]:=by
    rw[take_add_one,getElem?_eq_getElem fC,map_append];rfl
   have so:Hid (∀(x':FE) (W':World),aq L[j].bs wr x'.bs W'->_):=ab (λx' W' hs=>(uh hI).1.mid (x':=x') fC hs);obtain⟨x,zI⟩:∃x,x=L[j]:=⟨_,rfl⟩;rw[<-zI]at aw hx bE qQ so;obtain⟨i',lN⟩:=Option.isSome_iff_exists.1 bE.bg;obtain⟨ya,-⟩:=gg lN;obtain⟨xa,xf,xav,xov⟩:=x;simp only at aw hx bE qQ lN ya;have xc:=hx.is.cls (i:=1+v) (by omega);unfold fX at xc;have hfrE:xV xf v=(jD xf i').ow.foldl (λh p=>dx h (xf.cl.getD (1+v) 0) p.l) (dx (jD xf i') (xf.cl.getD (1+v) 0) ((jD xf i').cl.getD 0 0)):=by
    have e:pV xf (xf.cl.getD (1+v) 0)=i':=(by unfold pV;rw[lN];rfl);show(jD xf (pV xf (xf.cl.getD (1+v) 0))).ow.foldl _ (dx (jD xf (pV xf (xf.cl.getD (1+v) 0))) _ _)=_;rw[e]
   obtain⟨cx,uK⟩:∃cx,cx=xf.cl.getD (1+v) 0:=⟨_,rfl⟩;rw[<-uK]at xc lN hfrE;have aiu:=bE.ok.owLen;have lz:=ab (cB cx hx.is);rw[lN,show eK (some i')=(i':Int) from rfl]at lz;have HTA:=ab (wn hx (zq3 aiu (by omega)) i');have qi:=CW bE;have pR:Hid (∀(W':World) (av' ov':Value),Fm W' xa (xV xf v) av' ov'->aq (aG xa xav xov) wr (aG xa av' ov') W'->Calls prog 242 #[.pointer (some ⟨O,0,none⟩),.pointer (some ⟨xa,0,none⟩)] W' λe w''=>e=.returned (.tuple #[])/\∃nv' y,y.f=bR (xV xf v)/\Lo w w'' O A f av ov r.2.1 r.2.2.1 r.2.2.2 nv' (Ln++[y]) B (.slice (some ⟨g2,0,none⟩) L.length lc) L (j+1)):=ab (λW' av' ov' hf hs=>by
    have hwB:=(uh hI).1.wB;obtain⟨m1,m2,m3,m4,m5⟩:=uh so ⟨xa,xV xf v,av',ov'⟩ W' hs;refine(gD m1.oo hf qi.1 (zq3 qi.2 (by omega)) m2 (by omega)).mono ?_;rintro e w'' ⟨rfl,nv',y,-,hy,ro,aS⟩;exact⟨rfl,nv',y,hy,Lo.fin m1 m3 m4 m5 hwB ro aS⟩)
   have yo:(FE.p ⟨xa,xf,xav,xov⟩)=.pointer (some ⟨xa,0,none⟩):=rfl;rw[yo]at aw;have aol:=bE.ln;have htl:(jD xf i').ow.length<=24:=(bE.ok.tk i').owLen;have In:(jD xf i').ap.length<=40000:=bE.ln;have ve:=ab qQ;have Z9:=ab hfrE;have SQ:Hid (Ln.map (·.f)=(L.take j).map (λx=>bR (xV x.f v))):=ab (uh hI).2;have i7:(0:Int)<=(j:Int):=(by omega);have i8:(j:Int)<(L.length:Int):=(by omega);clear hx bE qQ uK hfrE qi yo zI lN hI;go_wp2_with fail
   refine(uh lz).mono ?_;rintro e w3 ⟨rfl,rfl⟩;go_wp2_with fail
   refine(uh HTA).mono ?_;rintro e w4 ⟨rfl,ov4,qf,el⟩;obtain⟨T,hT⟩:∃T,T=jD xf i':=⟨_,rfl⟩;have VO:Fm w4 xa T xav ov4:=(by rw[hT];exact qf);rw[<-hT]at Z9 htl In;have x0:=VO.is.cls (i:=0) (by omega);unfold fX at x0;obtain⟨n0,qj⟩:∃n0,n0=T.cl.getD 0 0:=⟨_,rfl⟩;rw[<-qj]at x0 Z9;have SV:=ab (pw VO cx n0 (zq3 In (by omega)));have k6:=ab el;clear qf VO el qj hT HTA lz xc aw;go_wp2_with fail
   refine(uh SV).mono ?_;rintro e w5 ⟨rfl,av5,At,eY⟩;have c6:=At.is.c6;obtain⟨oa,oc,fx,-,-⟩:=aj At.is.ow;have AO:ov4=.slice oa T.ow.length oc:=fx;subst AO;have mQ:Hid (Fm w5 xa ((T.ow.take 0).foldl (λh p=>dx h cx p.l) (dx T cx n0)) av5 (.slice oa T.ow.length oc)/\aq (aG xa xav xov) w3 (aG xa av5 (.slice oa T.ow.length oc)) w5):=ab ⟨At,(uh k6).trans eY⟩;clear At eY SV x0 fx;go_wp2_with fail
   go_loopg [47] T.ow.length (λgn iv wx=>∃(m:Nat) (av6:Value),m+gn=T.ow.length/\iv=.int .i64 m/\Hid (Fm wx xa ((T.ow.take m).foldl (λh p=>dx h cx p.l) (dx T cx n0)) av6 (.slice oa T.ow.length oc)/\aq (aG xa xav xov) w3 (aG xa av6 (.slice oa T.ow.length oc)) wx))
   case atStart=>exact⟨0,av5,by omega,rfl,mQ⟩
   case round =>
    clear mQ c6;obtain⟨m,av6,hmn,rfl,hJ⟩:=hrel;obtain⟨G2,CZ⟩:∃G2,G2=gk:=⟨_,rfl⟩;have howE:((T.ow.take m).foldl (λh p=>dx h cx p.l) (dx T cx n0)).ow=T.ow:=yT _;have hapE:((T.ow.take m).foldl (λh p=>dx h cx p.l) (dx T cx n0)).ap.length<=100000:=by
     rw[F8];show(T.ap++[_]).length+(T.ow.take m).length<=_;rw[length_append,length_singleton,length_take];omega
    by_cases et:m<T.ow.length
    .have jk:decide ((m:Int)<(T.ow.length:Int))=true:=(by simp;omega);have bp:wr.ownsRow 0 182 3 (.slice oa T.ow.length oc) T.ow.length (af T.ow):=by
      have:=(uh hJ).1.is.ow;rwa [howE]at this
     obtain⟨go,gc,mT,-,-⟩:=aD bp et;simp only[Value.slice.injEq,true_and]at mT;obtain⟨rfl,rfl⟩:=mT;obtain⟨y0,y1,y2⟩:=aA bp et;have oq:=iJ (g:=λh p=>dx h cx p.l) (a:=dx T cx n0) et;obtain⟨p,hp⟩:∃p,p=T.ow.getD m aE:=⟨_,rfl⟩;rw[<-hp]at y0 y1 y2 oq;obtain⟨W1,dE⟩:∃W1,W1=wr.alloc (.cells #[Value.int .i64 p.k,.int .i64 p.l,.int .i64 p.r] 182):=⟨_,rfl⟩;have bV:Below wr.heap.size wr W1:=(by rw[dE];exact ah wr _);have lJ:Bk W1 wr.heap.size 182 [Value.int .i64 p.k,.int .i64 p.l,.int .i64 p.r]:=(by rw[dE];exact Bk.new wr _ _);obtain⟨X,fV⟩:∃X,X=wr.heap.size:=⟨_,rfl⟩;rw[<-fV]at lJ;have b1:=lJ.cell 1 rfl;have SW:=ab (pw ((uh hJ).1.below bV) cx p.l hapE);have HSB:=ab ((uh hJ).2.trans (aq.ofBw bV));have afK:=ab oq;have k1:(0:Int)<=(m:Int):=(by omega);have k2:(m:Int)<(T.ow.length:Int):=(by omega);clear bp oq hp bV lJ hJ howE hapE;go_upto_region 10 with fail;rw[<-dE,<-fV];clear dE fV;go_wp2_with fail
     refine(uh SW).mono ?_;rintro e w7 ⟨rfl,av7,Qq,B4⟩;have HN:Hid (Fm w7 xa ((T.ow.take (m+1)).foldl (λh p=>dx h cx p.l) (dx T cx n0)) av7 (.slice (some ⟨go,0,none⟩) T.ow.length oc)/\aq (aG xa xav xov) w3 (aG xa av7 (.slice (some ⟨go,0,none⟩) T.ow.length oc)) w7):=ab ⟨by rw[uh afK];exact Qq,(uh HSB).trans B4⟩;clear Qq B4 SW HSB;go_wp2_with fail
     go_roundg (G2-1)
     case rel=>exact⟨m+1,av7,by omega,by go_num,HN⟩
     case measure=>omega
    .have jk:decide ((m:Int)<(T.ow.length:Int))=false:=(by simp;omega);have Zt:(T.ow.take m).foldl (λh p=>dx h cx p.l) (dx T cx n0)=xV xf v:=(by rw[take_of_length_le (by omega)];exact(uh Z9).symm);rw[Zt]at hJ;clear Zt howE hapE;go_wp2_with fail
     refine(uh pR _ _ _ (uh hJ).1 (uh hJ).2).mono ?_;rintro e w8 ⟨rfl,nv8,y8,hy8,abq⟩;have HN:Hid (Lo w w8 O A f av ov r.2.1 r.2.2.1 r.2.2.2 nv8 (Ln++[y8]) B (.slice (some ⟨g2,0,none⟩) L.length lc) L (j+1)/\(Ln++[y8]).map (·.f)=(L.take (j+1)).map (λx=>bR (xV x.f v))):=ab ⟨abq,by rw[uh ve,map_append,uh SQ];simp[hy8]⟩;have hl8:(Ln++[y8]).length=j+1:=(by rw[length_append,length_singleton,VW]);have HL8:=ab hl8;clear hy8 abq hl8 pR ve SQ so hJ;go_wp2_with fail
     go_roundg (G-1)
     case rel=>exact⟨j+1,nv8,Ln++[y8],by omega,by go_num,uh HL8,HN⟩
     case measure=>omega
  .have hd:decide ((j:Int)<(L.length:Int))=false:=(by simp;omega);have hN:Ln.map (·.f)=r.1.map (λg=>bR (xV g v)):=by
    rw[(uh hI).2,take_of_length_le (by omega),<-uh ST,map_map];rfl
   have vL:=ab hN;clear hN;go_wp2_with fail
   go_end0
   exact⟨rfl,(uh hI).1.os.out (o:=cH r (λg=>xV g v)) (uh vL) rfl⟩
end
def UX(w:World)(o:JI)(O:Nat)(w':World):Prop:=∃nv tv Ln Lt,Oo w' O o.nu o.da o.fu nv tv Ln Lt/\Ln.map (·.f)=o.nx/\Lt.map (·.f)=o.ot/\(∀k∈dU O nv tv Ln Lt,w.heap.size<=k)/\Below w.heap.size w w'
theorem nE.own{w W w':World}{O:Nat}{o:JI}(h:nE W O o w')(hb:Below w.heap.size w W)(hO:w.heap.size<=O):UX w o O w':=by
 obtain⟨nv,tv,Ln,Lt,h1,h2,h3,h4⟩:=h;refine⟨nv,tv,Ln,Lt,h1,h2,h3,λk hk=>?_,⟨h4.os.trans hb.os,h4.tape.trans hb.tape,h4.output.trans hb.output,zq3 hb.size h4.size,λk hk=>(h4.block k (zq6 hk hb.size) (λhn=>by rw[mem_singleton]at hn;omega)).trans (hb.block k hk)⟩⟩;rcases h4.foot k hk with q|q
 .rw[mem_singleton]at q;omega
 .exact zq3 hb.size q
theorem Oo.swap{w:World}{O:Nat}{nu da fu:Bool}{nv tv:Value}{Ln Lt:List FE}(h:Oo w O nu da fu nv tv Ln Lt):Oo ((w.setCell ⟨O,0,none⟩ tv).setCell ⟨O,1,none⟩ nv) O nu da fu tv nv Lt Ln:=by
 have dV:=nodup_cons.1 h.nd;have ts:=nodup_append.1 dV.2;have e:∀k,k≠O->((w.setCell ⟨O,0,none⟩ tv).setCell ⟨O,1,none⟩ nv).heap[k]?=w.heap[k]?:=λk hk=>(heap_setCell _ _ _ _ hk).trans (heap_setCell _ _ _ _ hk);refine⟨(h.bk.set 0 tv).set 1 nv,h.ot.of_eq (λk hk=>e k (λq=>dV.1 (by rw[<-q];exact mem_append_right _ hk))),h.nx.of_eq (λk hk=>e k (λq=>dV.1 (by rw[<-q];exact mem_append_left _ hk))),?_⟩;rw[nodup_cons,nodup_append];refine⟨λhm=>dV.1 ?_,ts.2.1,ts.1,λa ha b hb q=>ts.2.2 b hb a ha q.symm⟩;rcases mem_append.1 hm with q|q
 .exact mem_append_right _ q
 .exact mem_append_left _ q
section
variable {w:World} {A:Nat} {f:CF} {av ov:Value}
theorem Ks{n:Nd}(h:dT w A f av ov)(hT:Td f)(hv:n.v<4)(hi:n.ai<4)(ng:n.op<=1000):
  Calls prog 203 #[O7 n,.pointer (some ⟨A,0,none⟩)] w λe w'=>∃O,e=.returned (.pointer (some ⟨O,0,none⟩))/\UX w (cN n f) O w':=by
 have hO:=hT.ok;have ha:f.ap.length<=40000:=zq3 hT.ln (by omega);have gG:=hO.owLen;obtain⟨oR,hoR⟩:∃oR,oR=cN n f:=⟨_,rfl⟩;obtain⟨W1,dE⟩:∃W1,W1=w.alloc (.cells #[Value.int .i64 (n.op:Int),.int .i64 (n.v:Int),.int .i64 (n.ak:Int),.int .i64 (n.ai:Int),.int .i64 (n.nx:Int),.int .i64 (n.ot:Int)] 186):=⟨_,rfl⟩;obtain⟨W2,iA⟩:∃W2,W2=W1.alloc (.cells #[Value.slice none 0 0,.slice none 0 0,.bool false,.bool false,.bool false] 280):=⟨_,rfl⟩;have bB:Below w.heap.size w W1:=by rw[dE];exact ah w _
 have aR:Below W1.heap.size W1 W2:=by rw[iA];exact ah W1 _
 have hX:Bk W2 w.heap.size 186 [Value.int .i64 (n.op:Int),.int .i64 (n.v:Int),.int .i64 (n.ak:Int),.int .i64 (n.ai:Int),.int .i64 (n.nx:Int),.int .i64 (n.ot:Int)]:=by
  refine Bk.below ?_ aR;rw[dE];exact Bk.new w _ _
 have zC:Bk W2 W1.heap.size 280 [cX,cX,.bool false,.bool false,.bool false]:=by rw[iA];exact Bk.new W1 _ _
 have lu:W1.heap.size=w.heap.size+1:=by rw[dE];simp
 obtain⟨X,fV⟩:∃X,X=w.heap.size:=⟨_,rfl⟩;obtain⟨O,hOe⟩:∃O,O=W1.heap.size:=⟨_,rfl⟩;rw[<-fV]at hX;rw[<-hOe]at zC;have hb:=bB.trans (aR.mono bB.size);have hwO:w.heap.size<=O:=by omega
 have hOs:Os W2 W2 O A f av ov false false false cX cX [] []:=Os.start ⟨zC,Fl.nil0 _ _,Fl.nil0 _ _,by simp[a9,cX,Value.ownBlock]⟩ (h.below hb) rfl (λhn=>by have:=h.lt O hn;omega);have abx:O=w.heap.size+1:=by omega
 have hXO:X≠O:=by omega
 have b0:=hX.cell 0 rfl;have b1:=hX.cell 1 rfl;have b2:=hX.cell 2 rfl;have b3:=hX.cell 3 rfl;have b4:=hX.cell 4 rfl;have b5:=hX.cell 5 rfl;have HS:=ab hOs;have HO:=ab hO;have HB:=ab hb;have HWO:=ab hwO;have HX:=ab hX;have OH:=ab hoR;obtain⟨z,hz⟩:∃z,z=(n.op:Int):=⟨_,rfl⟩;have HZ:=ab hz;rw[<-hoR];have Ws:oR=cN n f:=hoR;unfold cN at Ws;have D9:=ab Ws;have OD:Hid (∀w':World,nE W2 O oR w'->∃O',(Ending.returned (.pointer (some ⟨O,0,none⟩)):Ending)=.returned (.pointer (some ⟨O',0,none⟩))/\UX w oR O' w'):=ab (λw' hp=>⟨O,rfl,hp.own hb hwO⟩);have dV:O7 n=.agg #[.int .i64 z,.int .i64 (n.v:Int),.int .i64 (n.ak:Int),.int .i64 (n.ai:Int),.int .i64 (n.nx:Int),.int .i64 (n.ot:Int)]:=by rw[hz];rfl
 rw[<-hz]at dE b0;clear h hT hO bB aR hX zC lu hb hOs hoR hz Ws;rw[dV];have YX:Hid (O7 n=.agg #[.int .i64 z,.int .i64 (n.v:Int),.int .i64 (n.ak:Int),.int .i64 (n.ai:Int),.int .i64 (n.nx:Int),.int .i64 (n.ot:Int)]):=ab dV;clear dV;go_enter func203,ntmps203;go_upto_region 2 with fail;rw[<-dE,<-iA,<-abx,<-fV];clear dE iA fV hOe abx;by_cases h0:n.op=0
 .have z0:z=0:=by rw[uh HZ,h0];rfl
  have HE:Hid (oR=DC):=ab (by rw[uh D9,if_pos h0]);subst z0;clear h0;go_wp2_with fail
  go_ret;exact uh OD _ (by rw[uh HE];exact(uh HS).out (o:=DC) rfl rfl)
 .have z0:(z==0)=false:=by rw[uh HZ];simp;omega
  by_cases h4:n.op=4
  .have z4:z=4:=(by rw[uh HZ,h4];rfl);have HE:Hid (oR=if 24<=a8 f then ⟨[],[],false,false,true⟩ else ⟨[bR (I6 f n.v)],[],false,false,false⟩):=ab (by rw[uh D9,if_neg h0,if_neg (by omega),if_neg (by omega),if_neg (by omega),if_pos h4]);have sm:=ab (CK (v:=n.v) (uh HS) (uh HO) ha hv);rw[<-uh HE]at sm;subst z4;clear h0 h4 z0;go_wp2_with fail
   refine(uh sm).mono ?_;rintro e w3 ⟨rfl,hP⟩;have HP:=ab hP;clear hP sm;go_wp2_with fail
   go_ret;exact uh OD _ (uh HP)
  .have z4:(z==4)=false:=(by rw[uh HZ];simp;omega);by_cases h5:n.op=5
   .have z5:z=5:=(by rw[uh HZ,h5];rfl);have HE:Hid (oR=cH (jV f n.v) (λg=>xV g n.v)):=ab (by rw[uh D9,if_neg h0,if_neg (by omega),if_neg (by omega),if_neg (by omega),if_neg (by omega),if_pos h5]);have sm:=ab (KS (v:=n.v) (uh HS) (uh HO) ha hv);rw[<-uh HE]at sm;subst z5;clear h0 h4 h5 z0 z4;go_wp2_with fail
    refine(uh sm).mono ?_;rintro e w3 ⟨rfl,hP⟩;have HP:=ab hP;clear hP sm;go_wp2_with fail
    go_ret;exact uh OD _ (uh HP)
   .have z5:(z==5)=false:=(by rw[uh HZ];simp;omega);by_cases h2:n.op=2
    .have z2:z=2:=(by rw[uh HZ,h2];rfl);have HE:Hid (oR=cH (jV f n.ai) (λg=>jd g n)):=ab (by rw[uh D9,if_neg h0,if_neg (by omega),if_pos h2]);have sm:=ab (CT (uh HS) (uh HO) ha hv hi);rw[<-uh HE,uh YX]at sm;subst z2;clear h0 h4 h5 h2 z0 z4 z5;go_wp2_with fail
     refine(uh sm).mono ?_;rintro e w3 ⟨rfl,hP⟩;have HP:=ab hP;clear hP sm;go_wp2_with fail
     go_ret;exact uh OD _ (uh HP)
    .have z2:(z==2)=false:=(by rw[uh HZ];simp;omega);by_cases h3:n.op=3
     .have z3:z=3:=(by rw[uh HZ,h3];rfl);have HE:Hid (oR=cH (jV f n.v) (λg=>uU g n)):=ab (by rw[uh D9,if_neg h0,if_neg (by omega),if_neg (by omega),if_pos h3]);have sm:=ab (MK (uh HS) (uh HO) ha hv hi);rw[<-uh HE,uh YX]at sm;subst z3;clear h0 h4 h5 h2 h3 z0 z4 z5 z2;go_wp2_with fail
      refine(uh sm).mono ?_;rintro e w3 ⟨rfl,hP⟩;have HP:=ab hP;clear hP sm;go_wp2_with fail
      go_ret;exact uh OD _ (uh HP)
     .have z3:(z==3)=false:=(by rw[uh HZ];simp;omega);by_cases h8:n.op=8
      .have z8:z=8:=(by rw[uh HZ,h8];rfl);have HE:Hid (oR=⟨(og f n).1,(og f n).2,false,false,false⟩):=ab (by rw[uh D9,if_neg h0,if_neg (by omega),if_neg (by omega),if_neg (by omega),if_neg (by omega),if_neg (by omega),if_neg (by omega),if_pos h8]);have sm:=ab (qF (uh HS) (uh HO) ha hv hi);rw[<-uh HE,uh YX]at sm;subst z8;clear h0 h4 h5 h2 h3 h8 z0 z4 z5 z2 z3;go_wp2_with fail
       refine(uh sm).mono ?_;rintro e w3 ⟨rfl,hP⟩;have HP:=ab hP;clear hP sm;go_wp2_with fail
       go_ret;exact uh OD _ (uh HP)
      .have z8:(z==8)=false:=(by rw[uh HZ];simp;omega);by_cases h9:n.op=9
       .have z9:z=9:=(by rw[uh HZ,h9];rfl);have HE:Hid (oR=⟨(og f n).2,(og f n).1,false,false,false⟩):=ab (by rw[uh D9,if_neg h0,if_neg (by omega),if_neg (by omega),if_neg (by omega),if_neg (by omega),if_neg (by omega),if_neg (by omega),if_neg (by omega),if_pos h9]);have sm:=ab (qF (n:=n) (uh HS) (uh HO) ha hv hi);rw[uh YX]at sm;subst z9;clear h0 h4 h5 h2 h3 h8 h9 z0 z4 z5 z2 z3 z8;go_wp2_with fail
        refine(uh sm).mono ?_;rintro e w3 ⟨rfl,nv,tv,Ln,Lt,ro,hm1,qN,aS⟩;obtain⟨na,nc,Ig,-,-⟩:=aj ro.nx.row;subst Ig;obtain⟨ta,tc,htv,-,-⟩:=aj ro.ot.row;subst htv;have o0:=ro.bk.cell 0 rfl;have o1:=ro.bk.cell 1 rfl;have oz:=ro.bk.frz 0;have Ax:=ro.bk.set 0 (.slice ta Lt.length tc);have o1':=Ax.cell 1 rfl;have oz':=Ax.frz 1;have hsw:=ro.swap;have hP:nE W2 O oR ((w3.setCell ⟨O,0,none⟩ (.slice ta Lt.length tc)).setCell ⟨O,1,none⟩ (.slice na Ln.length nc)):=by
         rw[uh HE];refine⟨_,_,Lt,Ln,hsw,qN,hm1,((aS.setCell (p:=⟨O,0,none⟩) (zq0 (by simp)) _).setCell (p:=⟨O,1,none⟩) (zq0 (by simp)) _).foots (λk hk=>aS.foot k ?_)⟩;simp only[dU,mem_cons,mem_append]at hk ⊢;rcases hk with q|q|q
         .exact zq0 q
         .exact zq1 (zq1 q)
         .exact zq1 (zq0 q)
        have HP:=ab hP;clear ro hm1 qN aS Ax hsw hP sm;go_wp2_with fail
        go_ret;exact uh OD _ (uh HP)
       .have z9:(z==9)=false:=(by rw[uh HZ];simp;omega);by_cases h7:n.op=7
        .have z7:z=7:=(by rw[uh HZ,h7];rfl);have HE:Hid (oR=⟨[bR f],[bR f],false,false,false⟩):=ab (by rw[uh D9,if_neg h0,if_neg (by omega),if_neg (by omega),if_neg (by omega),if_neg (by omega),if_neg (by omega),if_pos h7]);have jE:=ab (cD (uh HS).ff (uh HO).c5 ha (zq3 gG (by omega)));subst z7;clear h0 h4 h5 h2 h3 h8 h9 h7 z0 z4 z5 z2 z3 z8 z9;go_wp2_with fail
         refine(uh jE).mono ?_;rintro e w3 ⟨A3,rfl,zB⟩;obtain⟨av3,ov3,lK⟩:=zB.frf;have Lc:=(uh HS).below lK.bw;have pR:=ab (gD Lc.oo lK.fm (uh HO) (zq3 ha (by omega)) ((uh HS).fresh lK.ge) (by simp));have H3:=ab Lc;have HG3:=ab lK.ge;clear zB lK Lc jE;go_wp2_with fail
         refine(uh pR).mono ?_;rintro e w4 ⟨rfl,nv4,x4,-,Xh,Mg,tu⟩;have Hl:=(uh H3).next (uh HG3) Mg tu;have ZZ:=ab (cD Hl.ff (uh HO).c5 ha (zq3 gG (by omega)));have H4:=ab Hl;have HX4:=ab Xh;clear Mg tu Xh Hl pR;go_wp2_with fail
         refine(uh ZZ).mono ?_;rintro e w5 ⟨A5,rfl,hN5⟩;obtain⟨av5,ov5,AD⟩:=hN5.frf;have hO5:=(uh H4).below AD.bw;have S7:=ab (uw hO5.oo AD.fm (uh HO) (zq3 ha (by omega)) ((uh H4).fresh AD.ge) (by simp));have H5:=ab hO5;have HG5:=ab (λk hk=>zq3 (uh H4).st.size (AD.ge k hk));clear hN5 AD hO5 ZZ;go_wp2_with fail
         refine(uh S7).mono ?_;rintro e w6 ⟨rfl,tv6,x6,-,hx6,acQ,AR⟩;have HN:=ab ((uh H5).next (uh HG5) acQ AR);have HX6:=ab hx6;clear acQ AR hx6 S7;go_wp2_with fail
         go_ret;exact uh OD _ (by rw[uh HE];exact(uh HN).out (o:=⟨[bR f],[bR f],false,false,false⟩) (by simp[uh HX4]) (by simp[uh HX6]))
        .have z7:(z==7)=false:=(by rw[uh HZ];simp;omega);by_cases h1:n.op=1
         .have z1:z=1:=(by rw[uh HZ,h1];rfl);have HE:Hid (oR=⟨[bR (nZ f (1+n.v) (qE f n.ak n.ai))],[],false,false,false⟩):=ab (by rw[uh D9,if_neg h0,if_pos h1]);have uA:Hid (∀W':World,Below W2.heap.size W2 W'->Calls prog 236 #[.pointer (some ⟨A,0,none⟩),.agg #[.int .i64 (n.ak:Int),.int .i64 (n.ai:Int)]] W' λe w''=>e=.returned (.int .i64 (qE f n.ak n.ai:Nat))/\Below W2.heap.size W2 w''):=ab (λW' hb=>(pX ((uh HS).ff.below hb) n.ak n.ai hi).mono (λe w'' hw=>⟨hw.1,hb.trans (hw.2.mono hb.size)⟩));have HAS:Hid (∀W':World,Below W2.heap.size W2 W'->Calls prog 235 #[.pointer (some ⟨O,0,none⟩),.pointer (some ⟨A,0,none⟩),.int .i64 (n.v:Int),.int .i64 (qE f n.ak n.ai:Nat)] W' λe w''=>e=.returned (.tuple #[])/\nE W2 O oR w''/\Bk w'' X 186 [Value.int .i64 (n.op:Int),.int .i64 (n.v:Int),.int .i64 (n.ak:Int),.int .i64 (n.ai:Int),.int .i64 (n.nx:Int),.int .i64 (n.ot:Int)]):=ab (λW' hb=>(CC ((uh HS).rebase hb) (uh HO) ha hv ((uh HO).cT _ _)).mono (λe w'' hw=>⟨hw.1,by rw[uh HE];exact hw.2.pre hb,by
           obtain⟨nv,tv,Ln,Lt,-,-,-,aS⟩:=hw.2;exact((uh HX).below hb).stp aS (by simpa using hXO)⟩))
          have B5:=(uh HX).lt;obtain⟨cc,OV⟩:∃cc,cc=qE f n.ak n.ai:=⟨_,rfl⟩;rw[<-OV]at uA HAS;obtain⟨nv',QN⟩:∃q,q=n.v:=⟨_,rfl⟩;obtain⟨nk',Me⟩:∃q,q=n.ak:=⟨_,rfl⟩;obtain⟨ni',Md⟩:∃q,q=n.ai:=⟨_,rfl⟩;rw[<-QN,<-Me,<-Md]at HAS;rw[<-Me,<-Md]at uA;rw[<-QN]at b1;rw[<-Me]at b2;rw[<-Md]at b3;rw[<-QN,<-Me,<-Md];subst z1;clear h0 h4 h5 h2 h3 h8 h9 h7 h1 z0 z4 z5 z2 z3 z8 z9 z7 OV QN Me Md;go_upto_region 7 with fail;go_region_held3 (λW=>W.cell? ⟨X,1,none⟩=some (.int .i64 (nv':Int))/\W.cell? ⟨X,2,none⟩=some (.int .i64 (nk':Int))/\W.cell? ⟨X,3,none⟩=some (.int .i64 (ni':Int))) (first|(simp only[cell?_drew,b1,b2,b3,and_self];done)|(simp only[q1,q2,q3,and_self];done)|(simp only[r1,r2,r3,and_self];done))
           (first
            |(go_at_call 235;refine(uh HAS _ (uh qY)).mono ?_;rintro e w4 ⟨rfl,hP,Wb⟩;have r1:=Wb.cell 1 rfl;have r2:=Wb.cell 2 rfl;have r3:=Wb.cell 3 rfl;have HP:=ab hP;clear hP Wb)
            |(go_at_call 236;refine(uh uA _ (Below.refl _ _).drew).mono ?_;rintro e w3 ⟨rfl,cU⟩;have q1:=(cU.cell B5).trans b1;have q2:=(cU.cell B5).trans b2;have q3:=(cU.cell B5).trans b3;have qY:=ab cU;clear cU))
          go_wp2_with fail
          go_ret;exact uh OD _ (uh HP)
         .have z1:(z==1)=false:=(by rw[uh HZ];simp;omega);have HE:Hid (oR=⟨[bR f],[],false,false,false⟩):=ab (by rw[uh D9,if_neg h0,if_neg h1,if_neg h2,if_neg h3,if_neg h4,if_neg h5,if_neg h7,if_neg h8,if_neg h9]);have jE:=ab (cD (uh HS).ff (uh HO).c5 ha (zq3 gG (by omega)));clear h0 h4 h5 h2 h3 h8 h9 h7 h1;go_wp2_with fail
          refine(uh jE).mono ?_;rintro e w3 ⟨A3,rfl,zB⟩;obtain⟨av3,ov3,lK⟩:=zB.frf;have Lc:=(uh HS).below lK.bw;have pR:=ab (gD Lc.oo lK.fm (uh HO) (zq3 ha (by omega)) ((uh HS).fresh lK.ge) (by simp));have H3:=ab Lc;have HG3:=ab lK.ge;clear zB lK Lc jE;go_wp2_with fail
          refine(uh pR).mono ?_;rintro e w4 ⟨rfl,nv4,x4,-,Xh,Mg,tu⟩;have HN:=ab ((uh H3).next (uh HG3) Mg tu);have HX4:=ab Xh;clear Mg tu Xh pR;go_wp2_with fail
          go_ret;exact uh OD _ (by rw[uh HE];exact(uh HN).out (o:=⟨[bR f],[],false,false,false⟩) (by simp[uh HX4]) rfl)
end
