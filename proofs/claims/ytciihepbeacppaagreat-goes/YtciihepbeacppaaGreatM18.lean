import Derived.Test.YtciihepbeacppaaGreatM17
set_option maxRecDepth 100000
set_option maxHeartbeats 0
namespace Go.Proofs.YtciihepbeacppaaGreat
open Tryz Go.RowKit List World Below
set_option linter.unusedVariables false
theorem mQ.pre{w W w':World}{O:Nat}{o:KN}(h:mQ W O o w')(hb:Below w.heap.size w W):mQ w O o w':=by
 obtain⟨nv,tv,Ln,Lt,h1,h2,h3,h4⟩:=h;refine⟨nv,tv,Ln,Lt,h1,h2,h3,⟨h4.os.trans hb.os,h4.tape.trans hb.tape,h4.output.trans hb.output,zq3 hb.size h4.size,λk hk hn=>(h4.block k (zq6 hk hb.size) hn).trans (hb.block k hk),λk hk=>?_⟩⟩;rcases h4.foot k hk with q|q
 .exact zq0 q
 .exact zq1 (zq3 hb.size q)
theorem Os.rebase{w W:World}{O A:Nat}{f:CF}{av ov:Value}(h:Os w w O A f av ov false false false cR cR [] [])(hb:Below w.heap.size w W):Os W W O A f av ov false false false cR cR [] [] :=
 Os.start (h.oo.below hb) (h.ff.below hb) rfl h.of
section
variable {w:World} {O A:Nat} {f:CF} {av ov:Value}
theorem DI{n:Nd}(h:Os w w O A f av ov false false false cR cR [] [])(hO:au f)(ha:f.ap.length<=40000)(hv:n.v<4)(hi:n.ai<4):
  Calls prog 237 #[.pointer (some ⟨O,0,none⟩),.pointer (some ⟨A,0,none⟩),Qp n] w λe w'=>e=.returned (.tuple #[])/\mQ w O (bV (gR f n.ai) (λg=>gD g n)) w':=by
 have f8:=hO.owLen;obtain⟨N,hN⟩:∃N,N=n:=⟨_,rfl⟩;obtain⟨op,v,ak,ai,nx,ot⟩:=n;simp only at hv hi;unfold Qp;simp only;rw[<-hN];have zS:N.v=v:=by rw[hN]
 have DP:N.ai=ai:=by rw[hN]
 obtain⟨W1,dF⟩:∃W1,W1=w.alloc (.cells #[Value.int .i64 (op:Int),.int .i64 (v:Int),.int .i64 (ak:Int),.int .i64 (ai:Int),.int .i64 (nx:Int),.int .i64 (ot:Int)] 186):=⟨_,rfl⟩;have aT:Below w.heap.size w W1:=by rw[dF];exact af w _
 have hX:Bk W1 w.heap.size 186 [Value.int .i64 (op:Int),.int .i64 (v:Int),.int .i64 (ak:Int),.int .i64 (ai:Int),.int .i64 (nx:Int),.int .i64 (ot:Int)]:=by rw[dF];exact Bk.new w _ _
 obtain⟨X,fy⟩:∃X,X=w.heap.size:=⟨_,rfl⟩;rw[<-fy]at hX;have hXO:X≠O:=by have:=h.ol;omega
 have rF:=h.rebase aT;have b3:=hX.cell 3 rfl;have kj:=ab (lw (N:=40000) hi hO ha);have zI:=ab (pW hi rF.oo.bk rF.ff hO ha rF.of);obtain⟨r,hr⟩:∃r,r=gR f ai:=⟨_,rfl⟩;rw[<-hr]at zI kj;have PV:Hid (r.1.length<=96):=ab (by rw[hr];exact rQ hO ai);rw[<-hr];have H1:=ab rF;have HX:=ab hX;have uZ:=ab aT;have HNv:=ab zS;have HNa:=ab DP;clear h hO rF aT hX hr hN zS DP;go_enter func237,ntmps237;go_upto_region 1 with fail;rw[<-dF,<-fy];clear dF fy;go_wp2_with fail
 refine(uh zI).mono ?_;rintro e w2 ⟨lv,L,rfl,jN,My,tb,ce⟩;have Vw:=Lo.start (uh H1) jN (by simpa using tb) ce;obtain⟨la,lc,gF,-,-⟩:=ah jN.row;subst gF;have UX:=ab My;have hLL:L.length<=96:=by
  have h1:=congrArg List.length My;rw[length_map]at h1;have:=uh PV;omega
 have bR:Hid (Lo W1 w2 O A f av ov r.2.1 r.2.2.1 r.2.2.2 cR [] W1.heap.size (.slice la L.length lc) L 0):=ab (by simpa using Vw);clear jN My tb ce Vw zI b3;obtain⟨B,hB⟩:∃B,B=W1.heap.size:=⟨_,rfl⟩;rw[<-hB]at bR;clear hB;go_wp2_with fail
 go_loopg [16] L.length (λgn iv wx=>∃(j:Nat) (nv:Value) (Ln:List FE),j+gn=L.length/\iv=.int .i64 j/\Ln.length=j/\Hid (Lo W1 wx O A f av ov r.2.1 r.2.2.1 r.2.2.2 nv Ln B (.slice la L.length lc) L j/\Ln.map (·.f)=(L.take j).map (λx=>bJ (gD x.f N))))
 case atStart=>exact⟨0,cR,[],by omega,rfl,rfl,ab ⟨uh bR,rfl⟩⟩
 case round =>
  clear bR;obtain⟨j,nv,Ln,wU,rfl,X8,hI⟩:=hrel;obtain⟨G,hG⟩:∃G,G=gk:=⟨_,rfl⟩;by_cases eh:j<L.length
  .have hd:decide ((j:Int)<(L.length:Int))=true:=(by simp;omega);obtain⟨g2,cap2,cS,aq⟩:=(uh hI).1.pe.cell eh;simp only[Value.slice.injEq,true_and]at cS;obtain⟨rfl,rfl⟩:=cS;obtain⟨hx,-,-,-,-⟩:=(uh hI).1.pe.next eh;have aY:=uh kj L[j].f (by rw[<-uh UX];exact mem_map_of_mem (getElem_mem eh));have Sp:=(uh HX).stp (uh hI).1.os.st (by simpa using hXO);have b1:=Sp.cell 1 rfl;have b3:=Sp.cell 3 rfl;have qw:(L.take (j+1)).map (λx=>bJ (gD x.f N))=(L.take j).map (λx=>bJ (gD x.f N))++[bJ (gD L[j].f N)]:=by
    rw[take_add_one,getElem?_eq_getElem eh,map_append];rfl
   have sj:Hid (∀(x':FE) (W':World),am L[j].bs wr x'.bs W'->_):=ab (λx' W' hs=>(uh hI).1.mid (x':=x') eh hs);obtain⟨x,Ab⟩:∃x,x=L[j]:=⟨_,rfl⟩;rw[<-Ab]at aq hx aY qw sj;obtain⟨i',kZ⟩:=Option.isSome_iff_exists.1 aY.bg;obtain⟨kG,-⟩:=eW kZ;have xc:=hx.is.cls (i:=1+ai) (by omega);have xv:=hx.is.cls (i:=1+v) (by omega);have zv:=ownsRow.frozenAt hx.is.ob (1+v);unfold eR at xc;obtain⟨xa,xf,xav,xov⟩:=x;simp only at aq hx aY qw kZ kG xc xv zv;obtain⟨oa,oc,dB,-,-⟩:=ah hx.is.ow;subst dB;have c6:=hx.is.c6;obtain⟨go,gc,iP,-,-⟩:=aC hx.is.ow kG;simp only[Value.slice.injEq,true_and]at iP;obtain⟨rfl,rfl⟩:=iP;obtain⟨-,-,y2⟩:=aA hx.is.ow kG;obtain⟨rr,Jl⟩:∃rr,rr=(xf.ow.getD i' az).r:=⟨_,rfl⟩;rw[<-Jl]at y2;obtain⟨cx,uK⟩:∃cx,cx=xf.cl.getD (1+ai) 0:=⟨_,rfl⟩;rw[<-uK]at xc;have kK:Hid (∀m:Nat,Calls prog 208 #[.pointer (some ⟨xa,0,none⟩),.int .i64 cx] (wr.drewN m) λe w''=>e=.returned (.int .i64 (i':Int))/\∃q,w''=wr.drewN q):=ab (λm=>(cj (w:=wr.drewN m) cx (hx.is.of_eq (λ_ _=>rfl))).mono (λe w'' hw=>by
    have h1:=hw.1;rw[uK,kZ]at h1;exact⟨h1,m,hw.2⟩))
   have hfg:setC xf (1+v) rr=gD xf N:=by
    unfold gD;rw[uh HNv,uh HNa];show setC xf (1+v) rr=setC xf (1+v) (owA xf (nN xf (xf.cl.getD (1+ai) 0))).r;unfold nN;rw[kZ,Jl];rfl
   have mE:=hx.setCl (1+v) rr (by omega);have bK:am (aG xa xav (.slice (some ⟨go,0,none⟩) xf.ow.length oc)) wr (aG xa xav (.slice (some ⟨go,0,none⟩) xf.ow.length oc)) (wr.setCell ⟨xa,1+v,none⟩ (.int .i64 (rr:Int))):=(am.refl _ _).setCell (p:=⟨xa,1+v,none⟩) (zq0 (by simp[aG])) _;have se:=ab mE;have bz:=ab bK;have J2:=ab hfg;have ve:=ab qw;have pN:=yp (n:=N) (by rw[uh HNa];exact aY);have WH:=ab pN;have pw:Hid (∀W':World,Fm W' xa (gD xf N) xav (.slice (some ⟨go,0,none⟩) xf.ow.length oc)->am (aG xa xav (.slice (some ⟨go,0,none⟩) xf.ow.length oc)) wr (aG xa xav (.slice (some ⟨go,0,none⟩) xf.ow.length oc)) W'->Calls prog 242 #[.pointer (some ⟨O,0,none⟩),.pointer (some ⟨xa,0,none⟩)] W' λe w''=>e=.returned (.tuple #[])/\∃nv' y,y.f=bJ (gD xf N)/\Lo W1 w'' O A f av ov r.2.1 r.2.2.1 r.2.2.2 nv' (Ln++[y]) B (.slice (some ⟨g2,0,none⟩) L.length lc) L (j+1)):=ab (λW' hf hs=>by
    have hwB:=(uh hI).1.wB;obtain⟨m1,m2,m3,m4,m5⟩:=uh sj ⟨xa,gD xf N,xav,.slice (some ⟨go,0,none⟩) xf.ow.length oc⟩ W' hs;refine(gg m1.oo hf pN.1 (zq3 pN.2 (by omega)) m2 (by omega)).mono ?_;rintro e w'' ⟨rfl,nv',y,-,hy,qW,aE⟩;exact⟨rfl,nv',y,hy,Lo.fin m1 m3 m4 m5 hwB qW aE⟩)
   have yH:(FE.p ⟨xa,xf,xav,.slice (some ⟨go,0,none⟩) xf.ow.length oc⟩)=.pointer (some ⟨xa,0,none⟩):=rfl;rw[yH]at aq;have i1:(0:Int)<=1+(ai:Int):=(by omega);have i2:1+(ai:Int)<5:=(by omega);have i3:(1+(ai:Int)).toNat=1+ai:=(by omega);have i4:(0:Int)<=1+(v:Int):=(by omega);have i5:1+(v:Int)<5:=(by omega);have i6:(1+(v:Int)).toNat=1+v:=(by omega);have i7:(0:Int)<=(j:Int):=(by omega);have i8:(j:Int)<(L.length:Int):=(by omega);have i9:(0:Int)<=(i':Int):=(by omega);have ia:(i':Int)<(xf.ow.length:Int):=(by omega);have UV:Hid (Ln.map (·.f)=(L.take j).map (λx=>bJ (gD x.f N))):=ab (uh hI).2;have HwB:=ab (uh hI).1.wB;clear hx aY qw Sp Jl uK hfg mE bK pN yH Ab kZ hI;go_wp2_with fail
   go_quiet ((go_at_call 208;exact uh kK _))
   go_wp2_with fail
   go_region
   go_wp2_with fail
   refine(uh pw ((wr.drewN (nq+1)).setCell ⟨xa,1+v,none⟩ (.int .i64 (rr:Int))) (by rw[<-uh J2];exact(uh se).of_eq (λ_ _=>rfl)) ⟨(uh bz).os,(uh bz).tape,(uh bz).output,(uh bz).size,(uh bz).block,(uh bz).foot⟩).mono ?_;rintro e w5 ⟨rfl,nv5,y5,hy5,Mz⟩;have HN:Hid (Lo W1 w5 O A f av ov r.2.1 r.2.2.1 r.2.2.2 nv5 (Ln++[y5]) B (.slice (some ⟨g2,0,none⟩) L.length lc) L (j+1)/\(Ln++[y5]).map (·.f)=(L.take (j+1)).map (λx=>bJ (gD x.f N))):=ab ⟨Mz,by rw[uh ve,map_append,uh UV];simp[hy5]⟩;have VN:(Ln++[y5]).length=j+1:=(by rw[length_append,length_singleton,X8]);have WN:=ab VN;clear hy5 Mz VN pw se bz J2 ve WH UV sj;go_wp2_with fail
   go_roundg (G-1)
   case rel=>exact⟨j+1,nv5,Ln++[y5],by omega,by go_num,uh WN,HN⟩
   case measure=>omega
  .have hd:decide ((j:Int)<(L.length:Int))=false:=(by simp;omega);have hN:Ln.map (·.f)=r.1.map (λg=>bJ (gD g N)):=by
    rw[(uh hI).2,take_of_length_le (by omega),<-uh UX,map_map];rfl
   have vY:=ab hN;clear hN;go_wp2_with fail
   go_end0
   exact⟨rfl,((uh hI).1.os.out (o:=bV r (λg=>gD g N)) (uh vY) rfl).pre (uh uZ)⟩
end
section
variable {w:World} {O A:Nat} {f:CF} {av ov:Value}
theorem NS{n:Nd}(h:Os w w O A f av ov false false false cR cR [] [])(hO:au f)(ha:f.ap.length<=40000)(hv:n.v<4)(hi:n.ai<4):
  Calls prog 238 #[.pointer (some ⟨O,0,none⟩),.pointer (some ⟨A,0,none⟩),Qp n] w λe w'=>e=.returned (.tuple #[])/\mQ w O (bV (gR f n.v) (λg=>q9 g n)) w':=by
 have f8:=hO.owLen;obtain⟨N,hN⟩:∃N,N=n:=⟨_,rfl⟩;obtain⟨op,v,ak,ai,nx,ot⟩:=n;simp only at hv hi;unfold Qp;simp only;rw[<-hN];have zS:N.v=v:=by rw[hN]
 have DP:N.ai=ai:=by rw[hN]
 have hNk:N.ak=ak:=by rw[hN]
 obtain⟨W1,dF⟩:∃W1,W1=w.alloc (.cells #[Value.int .i64 (op:Int),.int .i64 (v:Int),.int .i64 (ak:Int),.int .i64 (ai:Int),.int .i64 (nx:Int),.int .i64 (ot:Int)] 186):=⟨_,rfl⟩;have aT:Below w.heap.size w W1:=by rw[dF];exact af w _
 have hX:Bk W1 w.heap.size 186 [Value.int .i64 (op:Int),.int .i64 (v:Int),.int .i64 (ak:Int),.int .i64 (ai:Int),.int .i64 (nx:Int),.int .i64 (ot:Int)]:=by rw[dF];exact Bk.new w _ _
 obtain⟨X,fy⟩:∃X,X=w.heap.size:=⟨_,rfl⟩;rw[<-fy]at hX;have hXO:X≠O:=by have:=h.ol;omega
 have rF:=h.rebase aT;have b1:=hX.cell 1 rfl;have kj:=ab (lw (N:=40000) hv hO ha);have zI:=ab (pW hv rF.oo.bk rF.ff hO ha rF.of);obtain⟨r,hr⟩:∃r,r=gR f v:=⟨_,rfl⟩;rw[<-hr]at zI kj;have PV:Hid (r.1.length<=96):=ab (by rw[hr];exact rQ hO v);rw[<-hr];have H1:=ab rF;have HX:=ab hX;have uZ:=ab aT;have HNv:=ab zS;have HNa:=ab DP;have HNk:=ab hNk;clear h hO rF aT hX hr hN zS DP hNk;go_enter func238,ntmps238;go_upto_region 1 with fail;rw[<-dF,<-fy];clear dF fy;go_wp2_with fail
 refine(uh zI).mono ?_;rintro e w2 ⟨lv,L,rfl,jN,My,tb,ce⟩;have Vw:=Lo.start (uh H1) jN (by simpa using tb) ce;obtain⟨la,lc,gF,-,-⟩:=ah jN.row;subst gF;have UX:=ab My;have hLL:L.length<=96:=by
  have h1:=congrArg List.length My;rw[length_map]at h1;have:=uh PV;omega
 have bR:Hid (Lo W1 w2 O A f av ov r.2.1 r.2.2.1 r.2.2.2 cR [] W1.heap.size (.slice la L.length lc) L 0):=ab (by simpa using Vw);clear jN My tb ce Vw zI b1;obtain⟨B,hB⟩:∃B,B=W1.heap.size:=⟨_,rfl⟩;rw[<-hB]at bR;clear hB;go_wp2_with fail
 go_loopg [15] L.length (λgn iv wx=>∃(j:Nat) (nv:Value) (Ln:List FE),j+gn=L.length/\iv=.int .i64 j/\Ln.length=j/\Hid (Lo W1 wx O A f av ov r.2.1 r.2.2.1 r.2.2.2 nv Ln B (.slice la L.length lc) L j/\Ln.map (·.f)=(L.take j).map (λx=>bJ (q9 x.f N))))
 case atStart=>exact⟨0,cR,[],by omega,rfl,rfl,ab ⟨uh bR,rfl⟩⟩
 case round =>
  clear bR;obtain⟨j,nv,Ln,wU,rfl,X8,hI⟩:=hrel;obtain⟨G,hG⟩:∃G,G=gk:=⟨_,rfl⟩;by_cases eh:j<L.length
  .have hd:decide ((j:Int)<(L.length:Int))=true:=(by simp;omega);obtain⟨g2,cap2,cS,aq⟩:=(uh hI).1.pe.cell eh;simp only[Value.slice.injEq,true_and]at cS;obtain⟨rfl,rfl⟩:=cS;obtain⟨hx,-,-,-,-⟩:=(uh hI).1.pe.next eh;have aY:=uh kj L[j].f (by rw[<-uh UX];exact mem_map_of_mem (getElem_mem eh));have Sp:=(uh HX).stp (uh hI).1.os.st (by simpa using hXO);have b1:=Sp.cell 1 rfl;have b2:=Sp.cell 2 rfl;have b3:=Sp.cell 3 rfl;have qw:(L.take (j+1)).map (λx=>bJ (q9 x.f N))=(L.take j).map (λx=>bJ (q9 x.f N))++[bJ (q9 L[j].f N)]:=by
    rw[take_add_one,getElem?_eq_getElem eh,map_append];rfl
   have sj:Hid (∀(x':FE) (W':World),am L[j].bs wr x'.bs W'->_):=ab (λx' W' hs=>(uh hI).1.mid (x':=x') eh hs);obtain⟨x,Ab⟩:∃x,x=L[j]:=⟨_,rfl⟩;rw[<-Ab]at aq hx aY qw sj;obtain⟨i',kZ⟩:=Option.isSome_iff_exists.1 aY.bg;obtain⟨kG,-⟩:=eW kZ;have xc:=hx.is.cls (i:=1+v) (by omega);unfold eR at xc;obtain⟨xa,xf,xav,xov⟩:=x;simp only at aq hx aY qw kZ kG xc;obtain⟨oa,oc,dB,-,-⟩:=ah hx.is.ow;subst dB;have c6:=hx.is.c6;obtain⟨go,gc,iP,-,-⟩:=aC hx.is.ow kG;simp only[Value.slice.injEq,true_and]at iP;obtain⟨rfl,rfl⟩:=iP;obtain⟨-,-,y2⟩:=aA hx.is.ow kG;obtain⟨cx,uK⟩:∃cx,cx=xf.cl.getD (1+v) 0:=⟨_,rfl⟩;rw[<-uK]at xc;have kK:Hid (∀m:Nat,Calls prog 208 #[.pointer (some ⟨xa,0,none⟩),.int .i64 cx] (wr.drewN m) λe w''=>e=.returned (.int .i64 (i':Int))/\∃q,w''=wr.drewN q):=ab (λm=>(cj (w:=wr.drewN m) cx (hx.is.of_eq (λ_ _=>rfl))).mono (λe w'' hw=>by
    have h1:=hw.1;rw[uK,kZ]at h1;exact⟨h1,m,hw.2⟩))
   obtain⟨b,hbE⟩:∃b,b=lK xf ak ai:=⟨_,rfl⟩;have hfg:setO xf i' ⟨(owA xf i').k,(owA xf i').l,b⟩=q9 xf N:=by
    unfold q9;rw[uh HNv,uh HNa,uh HNk];unfold nN;rw[kZ,hbE];rfl
   have HPO:Hid (∀W':World,Below wr.heap.size wr W'->Fm W' xa xf xav (.slice (some ⟨go,0,none⟩) xf.ow.length oc)):=ab (λW' hb=>hx.below hb);have gE:=(hx.is.ow.lt go rfl).2;have Zd:=hx.lt xa (by simp[aG]);have pm:=Sp.lt;have hgx:go≠xa:=λe=>hx.nds.2.1 (by rw[e];rfl);have hgX:go≠X:=λe=>by
    have h1:=(uh hI).1.pe.next eh;have h2:=h1.2.1 go (by rw[<-Ab];simp[FE.bs,aG,Value.ownBlock]);have h3:=(uh HX).lt;have h4:=(uh hI).1.wB;omega
   have J2:=ab hfg;have nJ:=ab hbE;have ve:=ab qw;have pN:=Es (n:=N) (by rw[uh HNv];exact aY);have WH:=ab pN;have pw:Hid (∀W':World,Fm W' xa (q9 xf N) xav (.slice (some ⟨go,0,none⟩) xf.ow.length oc)->am (aG xa xav (.slice (some ⟨go,0,none⟩) xf.ow.length oc)) wr (aG xa xav (.slice (some ⟨go,0,none⟩) xf.ow.length oc)) W'->Calls prog 242 #[.pointer (some ⟨O,0,none⟩),.pointer (some ⟨xa,0,none⟩)] W' λe w''=>e=.returned (.tuple #[])/\∃nv' y,y.f=bJ (q9 xf N)/\Lo W1 w'' O A f av ov r.2.1 r.2.2.1 r.2.2.2 nv' (Ln++[y]) B (.slice (some ⟨g2,0,none⟩) L.length lc) L (j+1)):=ab (λW' hf hs=>by
    have hwB:=(uh hI).1.wB;obtain⟨m1,m2,m3,m4,m5⟩:=uh sj ⟨xa,q9 xf N,xav,.slice (some ⟨go,0,none⟩) xf.ow.length oc⟩ W' hs;refine(gg m1.oo hf pN.1 (zq3 pN.2 (by omega)) m2 (by omega)).mono ?_;rintro e w'' ⟨rfl,nv',y,-,hy,qW,aE⟩;exact⟨rfl,nv',y,hy,Lo.fin m1 m3 m4 m5 hwB qW aE⟩)
   have yH:(FE.p ⟨xa,xf,xav,.slice (some ⟨go,0,none⟩) xf.ow.length oc⟩)=.pointer (some ⟨xa,0,none⟩):=rfl;rw[yH]at aq;have i1:(0:Int)<=1+(ai:Int):=(by omega);have i2:1+(ai:Int)<5:=(by omega);have i3:(1+(ai:Int)).toNat=1+ai:=(by omega);have i4:(0:Int)<=1+(v:Int):=(by omega);have i5:1+(v:Int)<5:=(by omega);have i6:(1+(v:Int)).toNat=1+v:=(by omega);have i7:(0:Int)<=(j:Int):=(by omega);have i8:(j:Int)<(L.length:Int):=(by omega);have i9:(0:Int)<=(i':Int):=(by omega);have ia:(i':Int)<(xf.ow.length:Int):=(by omega);have UV:Hid (Ln.map (·.f)=(L.take j).map (λx=>bJ (q9 x.f N))):=ab (uh hI).2;have HwB:=ab (uh hI).1.wB;clear hx aY qw Sp uK hfg pN yH Ab kZ hI hbE;go_wp2_with fail
   go_quiet ((go_at_call 208;exact uh kK _))
   obtain⟨W4,vu⟩:∃W4,W4=wr.drewN nq:=⟨_,rfl⟩;rw[<-vu];have gX:Below wr.heap.size wr W4:=(by rw[vu];exact kM wr nq);have p6:=(gX.cell Zd).trans c6;have p2:=(gX.cell pm).trans b2;have p3:=(gX.cell pm).trans b3;have uY:=ab gX;have qF:Hid (∀W':World,Below wr.heap.size wr W'->Calls prog 236 #[.pointer (some ⟨xa,0,none⟩),.agg #[.int .i64 (ak:Int),.int .i64 (ai:Int)]] W' λe w''=>e=.returned (.int .i64 (b:Int))/\Below wr.heap.size wr w''):=ab (λW' hb=>(pD (uh HPO W' hb).is ak ai hi).mono (λe w'' hw=>⟨by rw[uh nJ];exact hw.1,hb.trans (hw.2.mono hb.size)⟩));clear vu gX;have ajy:¬ (go=xa):=hgx;have hgX':¬ (go=X):=hgX;have aqQ:¬ (xa=go):=λe=>hgx e.symm;have apH:¬ (X=go):=λe=>hgX e.symm;go_wp2_with fail
   go_region_held3 (λW=>W.cell? ⟨xa,6,none⟩=some (.slice (some ⟨go,0,none⟩) xf.ow.length oc)/\W.cell? ⟨X,2,none⟩=some (.int .i64 (ak:Int))/\W.cell? ⟨X,3,none⟩=some (.int .i64 (ai:Int))) (first|(simp only[cell?_drew,p6,p2,p3,and_self];done)|(simp only[q6,q2,q3,and_self];done)|(simp[cell?_setCell_far,q6,q2,q3,ajy,hgX'];done))
    (first
     |(go_at_call 236;refine(uh qF _ (by first|exact(uh uY).drew|exact uh uY)).mono ?_;rintro e w6 ⟨rfl,gh⟩;have q6:=(gh.cell Zd).trans c6;have q2:=(gh.cell pm).trans b2;have q3:=(gh.cell pm).trans b3;have R4:=uh HPO w6 gh;have y6:=(gh.cell gE).trans y2;have z6:=R4.is.ow.frozenAt (i'*3+2);have mO:=ab gh;have HF6:=ab R4;clear gh R4))
   have HPU:=ab (Fm.putO (uh HF6) kG b);go_wp2_with fail
   refine(uh pw (w6.setCell ⟨go,i'*3+2,none⟩ (.int .i64 (b:Int))) (by rw[<-uh J2];exact(uh HPU).1) ((am.ofBw (F:=aG xa xav (.slice (some ⟨go,0,none⟩) xf.ow.length oc)) (uh mO)).trans (uh HPU).2.1)).mono ?_;rintro e w5 ⟨rfl,nv5,y5,hy5,Mz⟩;have HN:Hid (Lo W1 w5 O A f av ov r.2.1 r.2.2.1 r.2.2.2 nv5 (Ln++[y5]) B (.slice (some ⟨g2,0,none⟩) L.length lc) L (j+1)/\(Ln++[y5]).map (·.f)=(L.take (j+1)).map (λx=>bJ (q9 x.f N))):=ab ⟨Mz,by rw[uh ve,map_append,uh UV];simp[hy5]⟩;have VN:(Ln++[y5]).length=j+1:=(by rw[length_append,length_singleton,X8]);have WN:=ab VN;clear hy5 Mz VN pw J2 ve WH UV sj HPO qF uY mO HF6 HPU;go_wp2_with fail
   go_roundg (G-1)
   case rel=>exact⟨j+1,nv5,Ln++[y5],by omega,by go_num,uh WN,HN⟩
   case measure=>omega
  .have hd:decide ((j:Int)<(L.length:Int))=false:=(by simp;omega);have hN:Ln.map (·.f)=r.1.map (λg=>bJ (q9 g N)):=by
    rw[(uh hI).2,take_of_length_le (by omega),<-uh UX,map_map];rfl
   have vY:=ab hN;clear hN;go_wp2_with fail
   go_end0
   exact⟨rfl,((uh hI).1.os.out (o:=bV r (λg=>q9 g N)) (uh vY) rfl).pre (uh uZ)⟩
end
theorem G0:∀(l:List Pr) {g:CF} {c:Nat},(l.foldl (λh p=>cC h c p.l) g).ap.length=g.ap.length+l.length
 |[],_,_=>rfl
 |p::r,g,c=>by
  rw[foldl_cons,G0 r (g:=cC g c p.l),length_cons];show(g.ap++[_]).length+_=_;rw[length_append,length_singleton];omega
section
variable {w:World} {O A:Nat} {f:CF} {av ov:Value}
theorem Mp{v:Nat}(h:Os w w O A f av ov false false false cR cR [] [])(hO:au f)(ha:f.ap.length<=40000)(hv:v<4):
  Calls prog 240 #[.pointer (some ⟨O,0,none⟩),.pointer (some ⟨A,0,none⟩),.int .i64 v] w λe w'=>e=.returned (.tuple #[])/\mQ w O (bV (gR f v) (λg=>rD g v)) w':=by
 have f8:=hO.owLen;have kj:=ab (lw (N:=40000) hv hO ha);have zI:=ab (pW hv h.oo.bk h.ff hO ha h.of);obtain⟨r,hr⟩:∃r,r=gR f v:=⟨_,rfl⟩;rw[<-hr]at zI kj;have PV:Hid (r.1.length<=96):=ab (by rw[hr];exact rQ hO v);rw[<-hr];have H1:=ab h;have i1:(0:Int)<=1+(v:Int):=by omega
 have i2:1+(v:Int)<5:=by omega
 have i3:(1+(v:Int)).toNat=1+v:=by omega
 clear h hO hr;go_enter func240,ntmps240;go_wp2_with fail
 refine(uh zI).mono ?_;rintro e w2 ⟨lv,L,rfl,jN,My,tb,ce⟩;have Vw:=Lo.start (uh H1) jN (by simpa using tb) ce;obtain⟨la,lc,gF,-,-⟩:=ah jN.row;subst gF;have UX:=ab My;have hLL:L.length<=96:=by
  have h1:=congrArg List.length My;rw[length_map]at h1;have:=uh PV;omega
 have bR:Hid (Lo w w2 O A f av ov r.2.1 r.2.2.1 r.2.2.2 cR [] w.heap.size (.slice la L.length lc) L 0):=ab (by simpa using Vw);clear jN My tb ce Vw zI;obtain⟨B,hB⟩:∃B,B=w.heap.size:=⟨_,rfl⟩;rw[<-hB]at bR;clear hB;go_wp2_with fail
 go_loopg [17] L.length (λgn iv wx=>∃(j:Nat) (nv:Value) (Ln:List FE),j+gn=L.length/\iv=.int .i64 j/\Ln.length=j/\Hid (Lo w wx O A f av ov r.2.1 r.2.2.1 r.2.2.2 nv Ln B (.slice la L.length lc) L j/\Ln.map (·.f)=(L.take j).map (λx=>bJ (rD x.f v))))
 case atStart=>exact⟨0,cR,[],by omega,rfl,rfl,ab ⟨uh bR,rfl⟩⟩
 case round =>
  clear bR;obtain⟨j,nv,Ln,wU,rfl,X8,hI⟩:=hrel;obtain⟨G,hG⟩:∃G,G=gk:=⟨_,rfl⟩;by_cases eh:j<L.length
  .have hd:decide ((j:Int)<(L.length:Int))=true:=(by simp;omega);obtain⟨g2,cap2,cS,aq⟩:=(uh hI).1.pe.cell eh;simp only[Value.slice.injEq,true_and]at cS;obtain⟨rfl,rfl⟩:=cS;obtain⟨hx,-,-,-,-⟩:=(uh hI).1.pe.next eh;have aY:=uh kj L[j].f (by rw[<-uh UX];exact mem_map_of_mem (getElem_mem eh));have qw:(L.take (j+1)).map (λx=>bJ (rD x.f v))=(L.take j).map (λx=>bJ (rD x.f v))++[bJ (rD L[j].f v)]:=by
    rw[take_add_one,getElem?_eq_getElem eh,map_append];rfl
   have sj:Hid (∀(x':FE) (W':World),am L[j].bs wr x'.bs W'->_):=ab (λx' W' hs=>(uh hI).1.mid (x':=x') eh hs);obtain⟨x,Ab⟩:∃x,x=L[j]:=⟨_,rfl⟩;rw[<-Ab]at aq hx aY qw sj;obtain⟨i',kZ⟩:=Option.isSome_iff_exists.1 aY.bg;obtain⟨kG,-⟩:=eW kZ;obtain⟨xa,xf,xav,xov⟩:=x;simp only at aq hx aY qw kZ kG;have xc:=hx.is.cls (i:=1+v) (by omega);unfold eR at xc;have hfrE:rD xf v=(fD xf i').ow.foldl (λh p=>cC h (xf.cl.getD (1+v) 0) p.l) (cC (fD xf i') (xf.cl.getD (1+v) 0) ((fD xf i').cl.getD 0 0)):=by
    have e:nN xf (xf.cl.getD (1+v) 0)=i':=(by unfold nN;rw[kZ];rfl);show(fD xf (nN xf (xf.cl.getD (1+v) 0))).ow.foldl _ (cC (fD xf (nN xf (xf.cl.getD (1+v) 0))) _ _)=_;rw[e]
   obtain⟨cx,uK⟩:∃cx,cx=xf.cl.getD (1+v) 0:=⟨_,rfl⟩;rw[<-uK]at xc kZ hfrE;have akF:=aY.ok.owLen;have kK:=ab (cj cx hx.is);rw[kZ,show eH (some i')=(i':Int) from rfl]at kK;have HTA:=ab (wJ hx (zq3 akF (by omega)) i');have pN:=yq aY;have pw:Hid (∀(W':World) (av' ov':Value),Fm W' xa (rD xf v) av' ov'->am (aG xa xav xov) wr (aG xa av' ov') W'->Calls prog 242 #[.pointer (some ⟨O,0,none⟩),.pointer (some ⟨xa,0,none⟩)] W' λe w''=>e=.returned (.tuple #[])/\∃nv' y,y.f=bJ (rD xf v)/\Lo w w'' O A f av ov r.2.1 r.2.2.1 r.2.2.2 nv' (Ln++[y]) B (.slice (some ⟨g2,0,none⟩) L.length lc) L (j+1)):=ab (λW' av' ov' hf hs=>by
    have hwB:=(uh hI).1.wB;obtain⟨m1,m2,m3,m4,m5⟩:=uh sj ⟨xa,rD xf v,av',ov'⟩ W' hs;refine(gg m1.oo hf pN.1 (zq3 pN.2 (by omega)) m2 (by omega)).mono ?_;rintro e w'' ⟨rfl,nv',y,-,hy,qW,aE⟩;exact⟨rfl,nv',y,hy,Lo.fin m1 m3 m4 m5 hwB qW aE⟩)
   have yH:(FE.p ⟨xa,xf,xav,xov⟩)=.pointer (some ⟨xa,0,none⟩):=rfl;rw[yH]at aq;have aqP:=aY.ln;have htl:(fD xf i').ow.length<=24:=(aY.ok.tk i').owLen;have pq:(fD xf i').ap.length<=40000:=aY.ln;have ve:=ab qw;have HFE:=ab hfrE;have UV:Hid (Ln.map (·.f)=(L.take j).map (λx=>bJ (rD x.f v))):=ab (uh hI).2;have i7:(0:Int)<=(j:Int):=(by omega);have i8:(j:Int)<(L.length:Int):=(by omega);clear hx aY qw uK hfrE pN yH Ab kZ hI;go_wp2_with fail
   refine(uh kK).mono ?_;rintro e w3 ⟨rfl,rfl⟩;go_wp2_with fail
   refine(uh HTA).mono ?_;rintro e w4 ⟨rfl,ov4,pL,dA⟩;obtain⟨T,hT⟩:∃T,T=fD xf i':=⟨_,rfl⟩;have XY:Fm w4 xa T xav ov4:=(by rw[hT];exact pL);rw[<-hT]at HFE htl pq;have x0:=XY.is.cls (i:=0) (by omega);unfold eR at x0;obtain⟨n0,qt⟩:∃n0,n0=T.cl.getD 0 0:=⟨_,rfl⟩;rw[<-qt]at x0 HFE;have zJ:=ab (oI XY cx n0 (zq3 pq (by omega)));have dW:=ab dA;clear pL XY dA qt hT HTA kK xc aq;go_wp2_with fail
   refine(uh zJ).mono ?_;rintro e w5 ⟨rfl,av5,AX,ep⟩;have c6:=AX.is.c6;obtain⟨oa,oc,dB,-,-⟩:=ah AX.is.ow;have Bq:ov4=.slice oa T.ow.length oc:=dB;subst Bq;have mi:Hid (Fm w5 xa ((T.ow.take 0).foldl (λh p=>cC h cx p.l) (cC T cx n0)) av5 (.slice oa T.ow.length oc)/\am (aG xa xav xov) w3 (aG xa av5 (.slice oa T.ow.length oc)) w5):=ab ⟨AX,(uh dW).trans ep⟩;clear AX ep zJ x0 dB;go_wp2_with fail
   go_loopg [47] T.ow.length (λgn iv wx=>∃(m:Nat) (av6:Value),m+gn=T.ow.length/\iv=.int .i64 m/\Hid (Fm wx xa ((T.ow.take m).foldl (λh p=>cC h cx p.l) (cC T cx n0)) av6 (.slice oa T.ow.length oc)/\am (aG xa xav xov) w3 (aG xa av6 (.slice oa T.ow.length oc)) wx))
   case atStart=>exact⟨0,av5,by omega,rfl,mi⟩
   case round =>
    clear mi c6;obtain⟨m,av6,YT,rfl,hJ⟩:=hrel;obtain⟨G2,AY⟩:∃G2,G2=gk:=⟨_,rfl⟩;have howE:((T.ow.take m).foldl (λh p=>cC h cx p.l) (cC T cx n0)).ow=T.ow:=zg _;have hapE:((T.ow.take m).foldl (λh p=>cC h cx p.l) (cC T cx n0)).ap.length<=100000:=by
     rw[G0];show(T.ap++[_]).length+(T.ow.take m).length<=_;rw[length_append,length_singleton,length_take];omega
    by_cases dl:m<T.ow.length
    .have gx:decide ((m:Int)<(T.ow.length:Int))=true:=(by simp;omega);have aF:wr.ownsRow 0 182 3 (.slice oa T.ow.length oc) T.ow.length (aj T.ow):=by
      have:=(uh hJ).1.is.ow;rwa [howE]at this
     obtain⟨go,gc,iP,-,-⟩:=aC aF dl;simp only[Value.slice.injEq,true_and]at iP;obtain⟨rfl,rfl⟩:=iP;obtain⟨y0,y1,y2⟩:=aA aF dl;have nD:=ip (g:=λh p=>cC h cx p.l) (a:=cC T cx n0) dl;obtain⟨p,hp⟩:∃p,p=T.ow.getD m az:=⟨_,rfl⟩;rw[<-hp]at y0 y1 y2 nD;obtain⟨W1,dF⟩:∃W1,W1=wr.alloc (.cells #[Value.int .i64 p.k,.int .i64 p.l,.int .i64 p.r] 182):=⟨_,rfl⟩;have aT:Below wr.heap.size wr W1:=(by rw[dF];exact af wr _);have ir:Bk W1 wr.heap.size 182 [Value.int .i64 p.k,.int .i64 p.l,.int .i64 p.r]:=(by rw[dF];exact Bk.new wr _ _);obtain⟨X,fy⟩:∃X,X=wr.heap.size:=⟨_,rfl⟩;rw[<-fy]at ir;have b1:=ir.cell 1 rfl;have J5:=ab (oI ((uh hJ).1.below aT) cx p.l hapE);have HSB:=ab ((uh hJ).2.trans (am.ofBw aT));have aho:=ab nD;have k1:(0:Int)<=(m:Int):=(by omega);have k2:(m:Int)<(T.ow.length:Int):=(by omega);clear aF nD hp aT ir hJ howE hapE;go_upto_region 10 with fail;rw[<-dF,<-fy];clear dF fy;go_wp2_with fail
     refine(uh J5).mono ?_;rintro e w7 ⟨rfl,av7,R5,CN⟩;have HN:Hid (Fm w7 xa ((T.ow.take (m+1)).foldl (λh p=>cC h cx p.l) (cC T cx n0)) av7 (.slice (some ⟨go,0,none⟩) T.ow.length oc)/\am (aG xa xav xov) w3 (aG xa av7 (.slice (some ⟨go,0,none⟩) T.ow.length oc)) w7):=ab ⟨by rw[uh aho];exact R5,(uh HSB).trans CN⟩;clear R5 CN J5 HSB;go_wp2_with fail
     go_roundg (G2-1)
     case rel=>exact⟨m+1,av7,by omega,by go_num,HN⟩
     case measure=>omega
    .have gx:decide ((m:Int)<(T.ow.length:Int))=false:=(by simp;omega);have Qc:(T.ow.take m).foldl (λh p=>cC h cx p.l) (cC T cx n0)=rD xf v:=(by rw[take_of_length_le (by omega)];exact(uh HFE).symm);rw[Qc]at hJ;clear Qc howE hapE;go_wp2_with fail
     refine(uh pw _ _ _ (uh hJ).1 (uh hJ).2).mono ?_;rintro e w8 ⟨rfl,nv8,y8,hy8,acY⟩;have HN:Hid (Lo w w8 O A f av ov r.2.1 r.2.2.1 r.2.2.2 nv8 (Ln++[y8]) B (.slice (some ⟨g2,0,none⟩) L.length lc) L (j+1)/\(Ln++[y8]).map (·.f)=(L.take (j+1)).map (λx=>bJ (rD x.f v))):=ab ⟨acY,by rw[uh ve,map_append,uh UV];simp[hy8]⟩;have hl8:(Ln++[y8]).length=j+1:=(by rw[length_append,length_singleton,X8]);have HL8:=ab hl8;clear hy8 acY hl8 pw ve UV sj hJ;go_wp2_with fail
     go_roundg (G-1)
     case rel=>exact⟨j+1,nv8,Ln++[y8],by omega,by go_num,uh HL8,HN⟩
     case measure=>omega
  .have hd:decide ((j:Int)<(L.length:Int))=false:=(by simp;omega);have hN:Ln.map (·.f)=r.1.map (λg=>bJ (rD g v)):=by
    rw[(uh hI).2,take_of_length_le (by omega),<-uh UX,map_map];rfl
   have vY:=ab hN;clear hN;go_wp2_with fail
   go_end0
   exact⟨rfl,(uh hI).1.os.out (o:=bV r (λg=>rD g v)) (uh vY) rfl⟩
end
def Xf(w:World)(o:KN)(O:Nat)(w':World):Prop:=∃nv tv Ln Lt,Oo w' O o.nu o.da o.fu nv tv Ln Lt/\Ln.map (·.f)=o.nx/\Lt.map (·.f)=o.ot/\(∀k∈dU O nv tv Ln Lt,w.heap.size<=k)/\Below w.heap.size w w'
theorem mQ.own{w W w':World}{O:Nat}{o:KN}(h:mQ W O o w')(hb:Below w.heap.size w W)(hO:w.heap.size<=O):Xf w o O w':=by
 obtain⟨nv,tv,Ln,Lt,h1,h2,h3,h4⟩:=h;refine⟨nv,tv,Ln,Lt,h1,h2,h3,λk hk=>?_,⟨h4.os.trans hb.os,h4.tape.trans hb.tape,h4.output.trans hb.output,zq3 hb.size h4.size,λk hk=>(h4.block k (zq6 hk hb.size) (λhn=>by rw[mem_singleton]at hn;omega)).trans (hb.block k hk)⟩⟩;rcases h4.foot k hk with q|q
 .rw[mem_singleton]at q;omega
 .exact zq3 hb.size q
theorem Oo.swap{w:World}{O:Nat}{nu da fu:Bool}{nv tv:Value}{Ln Lt:List FE}(h:Oo w O nu da fu nv tv Ln Lt):Oo ((w.setCell ⟨O,0,none⟩ tv).setCell ⟨O,1,none⟩ nv) O nu da fu tv nv Lt Ln:=by
 have cH:=nodup_cons.1 h.nd;have tq:=nodup_append.1 cH.2;have e:∀k,k≠O->((w.setCell ⟨O,0,none⟩ tv).setCell ⟨O,1,none⟩ nv).heap[k]?=w.heap[k]?:=λk hk=>(heap_setCell _ _ _ _ hk).trans (heap_setCell _ _ _ _ hk);refine⟨(h.bk.set 0 tv).set 1 nv,h.ot.of_eq (λk hk=>e k (λq=>cH.1 (by rw[<-q];exact mem_append_right _ hk))),h.nx.of_eq (λk hk=>e k (λq=>cH.1 (by rw[<-q];exact mem_append_left _ hk))),?_⟩;rw[nodup_cons,nodup_append];refine⟨λhm=>cH.1 ?_,tq.2.1,tq.1,λa ha b hb q=>tq.2.2 b hb a ha q.symm⟩;rcases mem_append.1 hm with q|q
 .exact mem_append_right _ q
 .exact mem_append_left _ q
section
variable {w:World} {A:Nat} {f:CF} {av ov:Value}
theorem LN{n:Nd}(h:dm w A f av ov)(hT:Td f)(hv:n.v<4)(hi:n.ai<4)(dV:n.op<=1000):
  Calls prog 203 #[Qp n,.pointer (some ⟨A,0,none⟩)] w λe w'=>∃O,e=.returned (.pointer (some ⟨O,0,none⟩))/\Xf w (d7 n f) O w':=by
 have hO:=hT.ok;have ha:f.ap.length<=40000:=zq3 hT.ln (by omega);have f8:=hO.owLen;obtain⟨oR,hoR⟩:∃oR,oR=d7 n f:=⟨_,rfl⟩;obtain⟨W1,dF⟩:∃W1,W1=w.alloc (.cells #[Value.int .i64 (n.op:Int),.int .i64 (n.v:Int),.int .i64 (n.ak:Int),.int .i64 (n.ai:Int),.int .i64 (n.nx:Int),.int .i64 (n.ot:Int)] 186):=⟨_,rfl⟩;obtain⟨W2,d9⟩:∃W2,W2=W1.alloc (.cells #[Value.slice none 0 0,.slice none 0 0,.bool false,.bool false,.bool false] 280):=⟨_,rfl⟩;have aO:Below w.heap.size w W1:=by rw[dF];exact af w _
 have ax:Below W1.heap.size W1 W2:=by rw[d9];exact af W1 _
 have hX:Bk W2 w.heap.size 186 [Value.int .i64 (n.op:Int),.int .i64 (n.v:Int),.int .i64 (n.ak:Int),.int .i64 (n.ai:Int),.int .i64 (n.nx:Int),.int .i64 (n.ot:Int)]:=by
  refine Bk.below ?_ ax;rw[dF];exact Bk.new w _ _
 have zT:Bk W2 W1.heap.size 280 [cR,cR,.bool false,.bool false,.bool false]:=by rw[d9];exact Bk.new W1 _ _
 have jO:W1.heap.size=w.heap.size+1:=by rw[dF];simp
 obtain⟨X,fy⟩:∃X,X=w.heap.size:=⟨_,rfl⟩;obtain⟨O,hOe⟩:∃O,O=W1.heap.size:=⟨_,rfl⟩;rw[<-fy]at hX;rw[<-hOe]at zT;have hb:=aO.trans (ax.mono aO.size);have hwO:w.heap.size<=O:=by omega
 have hOs:Os W2 W2 O A f av ov false false false cR cR [] []:=Os.start ⟨zT,Fl.nil0 _ _,Fl.nil0 _ _,by simp[a6,cR,Value.ownBlock]⟩ (h.below hb) rfl (λhn=>by have:=h.lt O hn;omega);have ac3:O=w.heap.size+1:=by omega
 have hXO:X≠O:=by omega
 have b0:=hX.cell 0 rfl;have b1:=hX.cell 1 rfl;have b2:=hX.cell 2 rfl;have b3:=hX.cell 3 rfl;have b4:=hX.cell 4 rfl;have b5:=hX.cell 5 rfl;have HS:=ab hOs;have HO:=ab hO;have HB:=ab hb;have HWO:=ab hwO;have HX:=ab hX;have PT:=ab hoR;obtain⟨z,hz⟩:∃z,z=(n.op:Int):=⟨_,rfl⟩;have HZ:=ab hz;rw[<-hoR];have YC:oR=d7 n f:=hoR;unfold d7 at YC;have Ff:=ab YC;have PP:Hid (∀w':World,mQ W2 O oR w'->∃O',(Ending.returned (.pointer (some ⟨O,0,none⟩)):Ending)=.returned (.pointer (some ⟨O',0,none⟩))/\Xf w oR O' w'):=ab (λw' hp=>⟨O,rfl,hp.own hb hwO⟩);have cH:Qp n=.agg #[.int .i64 z,.int .i64 (n.v:Int),.int .i64 (n.ak:Int),.int .i64 (n.ai:Int),.int .i64 (n.nx:Int),.int .i64 (n.ot:Int)]:=by rw[hz];rfl
 rw[<-hz]at dF b0;clear h hT hO aO ax hX zT jO hb hOs hoR hz YC;rw[cH];have KE:Hid (Qp n=.agg #[.int .i64 z,.int .i64 (n.v:Int),.int .i64 (n.ak:Int),.int .i64 (n.ai:Int),.int .i64 (n.nx:Int),.int .i64 (n.ot:Int)]):=ab cH;clear cH;go_enter func203,ntmps203;go_upto_region 2 with fail;rw[<-dF,<-d9,<-ac3,<-fy];clear dF d9 fy hOe ac3;by_cases h0:n.op=0
 .have z0:z=0:=by rw[uh HZ,h0];rfl
  have HE:Hid (oR=EI):=ab (by rw[uh Ff,if_pos h0]);subst z0;clear h0;go_wp2_with fail
  go_ret;exact uh PP _ (by rw[uh HE];exact(uh HS).out (o:=EI) rfl rfl)
 .have z0:(z==0)=false:=by rw[uh HZ];simp;omega
  by_cases h4:n.op=4
  .have z4:z=4:=(by rw[uh HZ,h4];rfl);have HE:Hid (oR=if 24<=aD f then ⟨[],[],false,false,true⟩ else ⟨[bJ (FK f n.v)],[],false,false,false⟩):=ab (by rw[uh Ff,if_neg h0,if_neg (by omega),if_neg (by omega),if_neg (by omega),if_pos h4]);have qG:=ab (Dv (v:=n.v) (uh HS) (uh HO) ha hv);rw[<-uh HE]at qG;subst z4;clear h0 h4 z0;go_wp2_with fail
   refine(uh qG).mono ?_;rintro e w3 ⟨rfl,hP⟩;have HP:=ab hP;clear hP qG;go_wp2_with fail
   go_ret;exact uh PP _ (uh HP)
  .have z4:(z==4)=false:=(by rw[uh HZ];simp;omega);by_cases h5:n.op=5
   .have z5:z=5:=(by rw[uh HZ,h5];rfl);have HE:Hid (oR=bV (gR f n.v) (λg=>rD g n.v)):=ab (by rw[uh Ff,if_neg h0,if_neg (by omega),if_neg (by omega),if_neg (by omega),if_neg (by omega),if_pos h5]);have qG:=ab (Mp (v:=n.v) (uh HS) (uh HO) ha hv);rw[<-uh HE]at qG;subst z5;clear h0 h4 h5 z0 z4;go_wp2_with fail
    refine(uh qG).mono ?_;rintro e w3 ⟨rfl,hP⟩;have HP:=ab hP;clear hP qG;go_wp2_with fail
    go_ret;exact uh PP _ (uh HP)
   .have z5:(z==5)=false:=(by rw[uh HZ];simp;omega);by_cases h2:n.op=2
    .have z2:z=2:=(by rw[uh HZ,h2];rfl);have HE:Hid (oR=bV (gR f n.ai) (λg=>gD g n)):=ab (by rw[uh Ff,if_neg h0,if_neg (by omega),if_pos h2]);have qG:=ab (DI (uh HS) (uh HO) ha hv hi);rw[<-uh HE,uh KE]at qG;subst z2;clear h0 h4 h5 h2 z0 z4 z5;go_wp2_with fail
     refine(uh qG).mono ?_;rintro e w3 ⟨rfl,hP⟩;have HP:=ab hP;clear hP qG;go_wp2_with fail
     go_ret;exact uh PP _ (uh HP)
    .have z2:(z==2)=false:=(by rw[uh HZ];simp;omega);by_cases h3:n.op=3
     .have z3:z=3:=(by rw[uh HZ,h3];rfl);have HE:Hid (oR=bV (gR f n.v) (λg=>q9 g n)):=ab (by rw[uh Ff,if_neg h0,if_neg (by omega),if_neg (by omega),if_pos h3]);have qG:=ab (NS (uh HS) (uh HO) ha hv hi);rw[<-uh HE,uh KE]at qG;subst z3;clear h0 h4 h5 h2 h3 z0 z4 z5 z2;go_wp2_with fail
      refine(uh qG).mono ?_;rintro e w3 ⟨rfl,hP⟩;have HP:=ab hP;clear hP qG;go_wp2_with fail
      go_ret;exact uh PP _ (uh HP)
     .have z3:(z==3)=false:=(by rw[uh HZ];simp;omega);by_cases h8:n.op=8
      .have z8:z=8:=(by rw[uh HZ,h8];rfl);have HE:Hid (oR=⟨(kP f n).1,(kP f n).2,false,false,false⟩):=ab (by rw[uh Ff,if_neg h0,if_neg (by omega),if_neg (by omega),if_neg (by omega),if_neg (by omega),if_neg (by omega),if_neg (by omega),if_pos h8]);have qG:=ab (qh (uh HS) (uh HO) ha hv hi);rw[<-uh HE,uh KE]at qG;subst z8;clear h0 h4 h5 h2 h3 h8 z0 z4 z5 z2 z3;go_wp2_with fail
       refine(uh qG).mono ?_;rintro e w3 ⟨rfl,hP⟩;have HP:=ab hP;clear hP qG;go_wp2_with fail
       go_ret;exact uh PP _ (uh HP)
      .have z8:(z==8)=false:=(by rw[uh HZ];simp;omega);by_cases h9:n.op=9
       .have z9:z=9:=(by rw[uh HZ,h9];rfl);have HE:Hid (oR=⟨(kP f n).2,(kP f n).1,false,false,false⟩):=ab (by rw[uh Ff,if_neg h0,if_neg (by omega),if_neg (by omega),if_neg (by omega),if_neg (by omega),if_neg (by omega),if_neg (by omega),if_neg (by omega),if_pos h9]);have qG:=ab (qh (n:=n) (uh HS) (uh HO) ha hv hi);rw[uh KE]at qG;subst z9;clear h0 h4 h5 h2 h3 h8 h9 z0 z4 z5 z2 z3 z8;go_wp2_with fail
        refine(uh qG).mono ?_;rintro e w3 ⟨rfl,nv,tv,Ln,Lt,qW,hm1,qs,aE⟩;obtain⟨na,nc,zY,-,-⟩:=ah qW.nx.row;subst zY;obtain⟨ta,tc,htv,-,-⟩:=ah qW.ot.row;subst htv;have o0:=qW.bk.cell 0 rfl;have o1:=qW.bk.cell 1 rfl;have oz:=qW.bk.frz 0;have Bb:=qW.bk.set 0 (.slice ta Lt.length tc);have o1':=Bb.cell 1 rfl;have oz':=Bb.frz 1;have hsw:=qW.swap;have hP:mQ W2 O oR ((w3.setCell ⟨O,0,none⟩ (.slice ta Lt.length tc)).setCell ⟨O,1,none⟩ (.slice na Ln.length nc)):=by
         rw[uh HE];refine⟨_,_,Lt,Ln,hsw,qs,hm1,((aE.setCell (p:=⟨O,0,none⟩) (zq0 (by simp)) _).setCell (p:=⟨O,1,none⟩) (zq0 (by simp)) _).foots (λk hk=>aE.foot k ?_)⟩;simp only[dU,mem_cons,mem_append]at hk ⊢;rcases hk with q|q|q
         .exact zq0 q
         .exact zq1 (zq1 q)
         .exact zq1 (zq0 q)
        have HP:=ab hP;clear qW hm1 qs aE Bb hsw hP qG;go_wp2_with fail
        go_ret;exact uh PP _ (uh HP)
       .have z9:(z==9)=false:=(by rw[uh HZ];simp;omega);by_cases h7:n.op=7
        .have z7:z=7:=(by rw[uh HZ,h7];rfl);have HE:Hid (oR=⟨[bJ f],[bJ f],false,false,false⟩):=ab (by rw[uh Ff,if_neg h0,if_neg (by omega),if_neg (by omega),if_neg (by omega),if_neg (by omega),if_neg (by omega),if_pos h7]);have jk:=ab (cn (uh HS).ff (uh HO).c5 ha (zq3 f8 (by omega)));subst z7;clear h0 h4 h5 h2 h3 h8 h9 h7 z0 z4 z5 z2 z3 z8 z9;go_wp2_with fail
         refine(uh jk).mono ?_;rintro e w3 ⟨A3,rfl,qN⟩;obtain⟨av3,ov3,kX⟩:=qN.frf;have MB:=(uh HS).below kX.bw;have pw:=ab (gg MB.oo kX.fm (uh HO) (zq3 ha (by omega)) ((uh HS).fresh kX.ge) (by simp));have H3:=ab MB;have HG3:=ab kX.ge;clear qN kX MB jk;go_wp2_with fail
         refine(uh pw).mono ?_;rintro e w4 ⟨rfl,nv4,x4,-,Zc,Np,eG⟩;have IP:=(uh H3).next (uh HG3) Np eG;have abv:=ab (cn IP.ff (uh HO).c5 ha (zq3 f8 (by omega)));have H4:=ab IP;have HX4:=ab Zc;clear Np eG Zc IP pw;go_wp2_with fail
         refine(uh abv).mono ?_;rintro e w5 ⟨A5,rfl,zio⟩;obtain⟨av5,ov5,Bf⟩:=zio.frf;have hO5:=(uh H4).below Bf.bw;have U8:=ab (uA hO5.oo Bf.fm (uh HO) (zq3 ha (by omega)) ((uh H4).fresh Bf.ge) (by simp));have H5:=ab hO5;have HG5:=ab (λk hk=>zq3 (uh H4).st.size (Bf.ge k hk));clear zio Bf hO5 abv;go_wp2_with fail
         refine(uh U8).mono ?_;rintro e w6 ⟨rfl,tv6,x6,-,hx6,aew,kI⟩;have HN:=ab ((uh H5).next (uh HG5) aew kI);have HX6:=ab hx6;clear aew kI hx6 U8;go_wp2_with fail
         go_ret;exact uh PP _ (by rw[uh HE];exact(uh HN).out (o:=⟨[bJ f],[bJ f],false,false,false⟩) (by simp[uh HX4]) (by simp[uh HX6]))
        .have z7:(z==7)=false:=(by rw[uh HZ];simp;omega);by_cases h1:n.op=1
         .have z1:z=1:=(by rw[uh HZ,h1];rfl);have HE:Hid (oR=⟨[bJ (setC f (1+n.v) (lK f n.ak n.ai))],[],false,false,false⟩):=ab (by rw[uh Ff,if_neg h0,if_pos h1]);have qF:Hid (∀W':World,Below W2.heap.size W2 W'->Calls prog 236 #[.pointer (some ⟨A,0,none⟩),.agg #[.int .i64 (n.ak:Int),.int .i64 (n.ai:Int)]] W' λe w''=>e=.returned (.int .i64 (lK f n.ak n.ai:Nat))/\Below W2.heap.size W2 w''):=ab (λW' hb=>(pD ((uh HS).ff.below hb) n.ak n.ai hi).mono (λe w'' hw=>⟨hw.1,hb.trans (hw.2.mono hb.size)⟩));have HAS:Hid (∀W':World,Below W2.heap.size W2 W'->Calls prog 235 #[.pointer (some ⟨O,0,none⟩),.pointer (some ⟨A,0,none⟩),.int .i64 (n.v:Int),.int .i64 (lK f n.ak n.ai:Nat)] W' λe w''=>e=.returned (.tuple #[])/\mQ W2 O oR w''/\Bk w'' X 186 [Value.int .i64 (n.op:Int),.int .i64 (n.v:Int),.int .i64 (n.ak:Int),.int .i64 (n.ai:Int),.int .i64 (n.nx:Int),.int .i64 (n.ot:Int)]):=ab (λW' hb=>(Dj ((uh HS).rebase hb) (uh HO) ha hv ((uh HO).cT _ _)).mono (λe w'' hw=>⟨hw.1,by rw[uh HE];exact hw.2.pre hb,by
           obtain⟨nv,tv,Ln,Lt,-,-,-,aE⟩:=hw.2;exact((uh HX).below hb).stp aE (by simpa using hXO)⟩))
          have pm:=(uh HX).lt;obtain⟨cc,CT⟩:∃cc,cc=lK f n.ak n.ai:=⟨_,rfl⟩;rw[<-CT]at qF HAS;obtain⟨nv',SI⟩:∃q,q=n.v:=⟨_,rfl⟩;obtain⟨nk',No⟩:∃q,q=n.ak:=⟨_,rfl⟩;obtain⟨ni',Nn⟩:∃q,q=n.ai:=⟨_,rfl⟩;rw[<-SI,<-No,<-Nn]at HAS;rw[<-No,<-Nn]at qF;rw[<-SI]at b1;rw[<-No]at b2;rw[<-Nn]at b3;rw[<-SI,<-No,<-Nn];subst z1;clear h0 h4 h5 h2 h3 h8 h9 h7 h1 z0 z4 z5 z2 z3 z8 z9 z7 CT SI No Nn;go_upto_region 7 with fail;go_region_held3 (λW=>W.cell? ⟨X,1,none⟩=some (.int .i64 (nv':Int))/\W.cell? ⟨X,2,none⟩=some (.int .i64 (nk':Int))/\W.cell? ⟨X,3,none⟩=some (.int .i64 (ni':Int))) (first|(simp only[cell?_drew,b1,b2,b3,and_self];done)|(simp only[q1,q2,q3,and_self];done)|(simp only[r1,r2,r3,and_self];done))
           (first
            |(go_at_call 235;refine(uh HAS _ (uh mN)).mono ?_;rintro e w4 ⟨rfl,hP,CO⟩;have r1:=CO.cell 1 rfl;have r2:=CO.cell 2 rfl;have r3:=CO.cell 3 rfl;have HP:=ab hP;clear hP CO)
            |(go_at_call 236;refine(uh qF _ (Below.refl _ _).drew).mono ?_;rintro e w3 ⟨rfl,bF⟩;have q1:=(bF.cell pm).trans b1;have q2:=(bF.cell pm).trans b2;have q3:=(bF.cell pm).trans b3;have mN:=ab bF;clear bF))
          go_wp2_with fail
          go_ret;exact uh PP _ (uh HP)
         .have z1:(z==1)=false:=(by rw[uh HZ];simp;omega);have HE:Hid (oR=⟨[bJ f],[],false,false,false⟩):=ab (by rw[uh Ff,if_neg h0,if_neg h1,if_neg h2,if_neg h3,if_neg h4,if_neg h5,if_neg h7,if_neg h8,if_neg h9]);have jk:=ab (cn (uh HS).ff (uh HO).c5 ha (zq3 f8 (by omega)));clear h0 h4 h5 h2 h3 h8 h9 h7 h1;go_wp2_with fail
          refine(uh jk).mono ?_;rintro e w3 ⟨A3,rfl,qN⟩;obtain⟨av3,ov3,kX⟩:=qN.frf;have MB:=(uh HS).below kX.bw;have pw:=ab (gg MB.oo kX.fm (uh HO) (zq3 ha (by omega)) ((uh HS).fresh kX.ge) (by simp));have H3:=ab MB;have HG3:=ab kX.ge;clear qN kX MB jk;go_wp2_with fail
          refine(uh pw).mono ?_;rintro e w4 ⟨rfl,nv4,x4,-,Zc,Np,eG⟩;have HN:=ab ((uh H3).next (uh HG3) Np eG);have HX4:=ab Zc;clear Np eG Zc pw;go_wp2_with fail
          go_ret;exact uh PP _ (by rw[uh HE];exact(uh HN).out (o:=⟨[bJ f],[],false,false,false⟩) (by simp[uh HX4]) rfl)
end
