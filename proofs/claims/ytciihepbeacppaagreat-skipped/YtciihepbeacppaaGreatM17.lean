import Derived.Test.YtciihepbeacppaaGreatM16
set_option maxRecDepth 100000
set_option maxHeartbeats 0
namespace Go.Proofs.YtciihepbeacppaaGreat
open Tryz Go.RowKit List World Below
set_option linter.unusedVariables false
theorem pF.pre{w W w':World}{O:Nat}{o:MV}(h:pF W O o w')(hb:Below w.heap.size w W):pF w O o w':=by
 obtain⟨nv,tv,Ln,Lt,h1,h2,h3,h4⟩:=h;refine⟨nv,tv,Ln,Lt,h1,h2,h3,⟨h4.os.trans hb.os,h4.tape.trans hb.tape,h4.output.trans hb.output,zq3 hb.size h4.size,λk hk hn=>(h4.block k (zq6 hk hb.size) hn).trans (hb.block k hk),λk hk=>?_⟩⟩;rcases h4.foot k hk with q|q
 .exact zq0 q
 .exact zq1 (zq3 hb.size q)
theorem Os.rebase{w W:World}{O A:Nat}{f:CF}{av ov:Value}(h:Os w w O A f av ov false false false dC dC [] [])(hb:Below w.heap.size w W):Os W W O A f av ov false false false dC dC [] [] :=
 Os.start (h.oo.below hb) (h.ff.below hb) rfl h.of
section
variable {w:World} {O A:Nat} {f:CF} {av ov:Value}
theorem Fv{n:Nd}(h:Os w w O A f av ov false false false dC dC [] [])(hO:aj f)(ha:f.ap.length<=40000)(hv:n.v<4)(hi:n.ai<4):
  Calls prog 237 #[.pointer (some ⟨O,0,none⟩),.pointer (some ⟨A,0,none⟩),SN n] w λe w'=>e=.returned (.tuple #[])/\pF w O (bQ (cZ f n.ai) (λg=>fq g n)) w':=by
 have iH:=hO.owLen;obtain⟨N,hN⟩:∃N,N=n:=⟨_,rfl⟩;obtain⟨op,v,ak,ai,nx,ot⟩:=n;simp only at hv hi;unfold SN;simp only;rw[<-hN];have hNv:N.v=v:=by rw[hN]
 have St:N.ai=ai:=by rw[hN]
 obtain⟨W1,d7⟩:∃W1,W1=w.alloc (.cells #[Value.int .i64 (op:Int),.int .i64 (v:Int),.int .i64 (ak:Int),.int .i64 (ai:Int),.int .i64 (nx:Int),.int .i64 (ot:Int)] 186):=⟨_,rfl⟩;have ce:Below w.heap.size w W1:=by rw[d7];exact ah w _
 have hX:Bk W1 w.heap.size 186 [Value.int .i64 (op:Int),.int .i64 (v:Int),.int .i64 (ak:Int),.int .i64 (ai:Int),.int .i64 (nx:Int),.int .i64 (ot:Int)]:=by rw[d7];exact Bk.new w _ _
 obtain⟨X,gV⟩:∃X,X=w.heap.size:=⟨_,rfl⟩;rw[<-gV]at hX;have hXO:X≠O:=by have:=h.ol;omega
 have uk:=h.rebase ce;have b3:=hX.cell 3 rfl;have mq:=ab (jV (N:=40000) hi hO ha);have B6:=ab (sy hi uk.oo.bk uk.ff hO ha uk.of);obtain⟨r,hr⟩:∃r,r=cZ f ai:=⟨_,rfl⟩;rw[<-hr]at B6 mq;have WJ:Hid (r.1.length<=96):=ab (by rw[hr];exact uA hO ai);rw[<-hr];have H1:=ab uk;have HX:=ab hX;have HBX:=ab ce;have HNv:=ab hNv;have HNa:=ab St;clear h hO uk ce hX hr hN hNv St;go_enter func237,ntmps237;go_upto_region 1 with fail;rw[<-d7,<-gV];clear d7 gV;go_wp2_with fail
 refine(uh B6).mono ?_;rintro e w2 ⟨lv,L,rfl,ju,OK,C9,gS⟩;have Xg:=Lo.start (uh H1) ju (by simpa using C9) gS;obtain⟨la,lc,it,-,-⟩:=am ju.row;subst it;have WC:=ab OK;have hLL:L.length<=96:=by
  have h1:=congrArg List.length OK;rw[length_map]at h1;have:=uh WJ;omega
 have cF:Hid (Lo W1 w2 O A f av ov r.2.1 r.2.2.1 r.2.2.2 dC [] W1.heap.size (.slice la L.length lc) L 0):=ab (by simpa using Xg);clear ju OK C9 gS Xg B6 b3;obtain⟨B,hB⟩:∃B,B=W1.heap.size:=⟨_,rfl⟩;rw[<-hB]at cF;clear hB;go_wp2_with fail
 go_loopg [16] L.length (λgn iv wx=>∃(j:Nat) (nv:Value) (Ln:List FE),j+gn=L.length/\iv=.int .i64 j/\Ln.length=j/\Hid (Lo W1 wx O A f av ov r.2.1 r.2.2.1 r.2.2.2 nv Ln B (.slice la L.length lc) L j/\Ln.map (·.f)=(L.take j).map (λx=>aQ (fq x.f N))))
 case atStart=>exact⟨0,dC,[],by omega,rfl,rfl,ab ⟨uh cF,rfl⟩⟩
 case round =>
  clear cF;obtain⟨j,nv,Ln,Co,rfl,ZK,hI⟩:=hrel;obtain⟨G,hG⟩:∃G,G=gk:=⟨_,rfl⟩;by_cases fT:j<L.length
  .have hd:decide ((j:Int)<(L.length:Int))=true:=(by simp;omega);obtain⟨g2,cap2,db,ax⟩:=(uh hI).1.pe.cell fT;simp only[Value.slice.injEq,true_and]at db;obtain⟨rfl,rfl⟩:=db;obtain⟨hx,-,-,-,-⟩:=(uh hI).1.pe.next fT;have bm:=uh mq L[j].f (by rw[<-uh WC];exact mem_map_of_mem (getElem_mem fT));have Uw:=(uh HX).stp (uh hI).1.os.st (by simpa using hXO);have b1:=Uw.cell 1 rfl;have b3:=Uw.cell 3 rfl;have rI:(L.take (j+1)).map (λx=>aQ (fq x.f N))=(L.take j).map (λx=>aQ (fq x.f N))++[aQ (fq L[j].f N)]:=by
    rw[take_add_one,getElem?_eq_getElem fT,map_append];rfl
   have uV:Hid (∀(x':FE) (W':World),ar L[j].bs wr x'.bs W'->_):=ab (λx' W' hs=>(uh hI).1.mid (x':=x') fT hs);obtain⟨x,tO⟩:∃x,x=L[j]:=⟨_,rfl⟩;rw[<-tO]at ax hx bm rI uV;obtain⟨i',lR⟩:=Option.isSome_iff_exists.1 bm.bg;obtain⟨um,-⟩:=eT lR;have xc:=hx.is.cls (i:=1+ai) (by omega);have xv:=hx.is.cls (i:=1+v) (by omega);have zv:=ownsRow.frozenAt hx.is.ob (1+v);unfold gZ at xc;obtain⟨xa,xf,xav,xov⟩:=x;simp only at ax hx bm rI lR um xc xv zv;obtain⟨oa,oc,gw,-,-⟩:=am hx.is.ow;subst gw;have c6:=hx.is.c6;obtain⟨go,gc,oU,-,-⟩:=aE hx.is.ow um;simp only[Value.slice.injEq,true_and]at oU;obtain⟨rfl,rfl⟩:=oU;obtain⟨-,-,y2⟩:=aB hx.is.ow um;obtain⟨rr,K9⟩:∃rr,rr=(xf.ow.getD i' ay).r:=⟨_,rfl⟩;rw[<-K9]at y2;obtain⟨cx,xO⟩:∃cx,cx=xf.cl.getD (1+ai) 0:=⟨_,rfl⟩;rw[<-xO]at xc;have mQ:Hid (∀m:Nat,Calls prog 208 #[.pointer (some ⟨xa,0,none⟩),.int .i64 cx] (wr.drewN m) λe w''=>e=.returned (.int .i64 (i':Int))/\∃q,w''=wr.drewN q):=ab (λm=>(cO (w:=wr.drewN m) cx (hx.is.of_eq (λ_ _=>rfl))).mono (λe w'' hw=>by
    have h1:=hw.1;rw[xO,lR]at h1;exact⟨h1,m,hw.2⟩))
   have hfg:setC xf (1+v) rr=fq xf N:=by
    unfold fq;rw[uh HNv,uh HNa];show setC xf (1+v) rr=setC xf (1+v) (owA xf (qp xf (xf.cl.getD (1+ai) 0))).r;unfold qp;rw[lR,K9];rfl
   have pp:=hx.setCl (1+v) rr (by omega);have bY:ar (aG xa xav (.slice (some ⟨go,0,none⟩) xf.ow.length oc)) wr (aG xa xav (.slice (some ⟨go,0,none⟩) xf.ow.length oc)) (wr.setCell ⟨xa,1+v,none⟩ (.int .i64 (rr:Int))):=(ar.refl _ _).setCell (p:=⟨xa,1+v,none⟩) (zq0 (by simp[aG])) _;have xZ:=ab pp;have dg:=ab bY;have LV:=ab hfg;have x9:=ab rI;have sg:=Au (n:=N) (by rw[uh HNa];exact bm);have Yn:=ab sg;have rK:Hid (∀W':World,Fm W' xa (fq xf N) xav (.slice (some ⟨go,0,none⟩) xf.ow.length oc)->ar (aG xa xav (.slice (some ⟨go,0,none⟩) xf.ow.length oc)) wr (aG xa xav (.slice (some ⟨go,0,none⟩) xf.ow.length oc)) W'->Calls prog 242 #[.pointer (some ⟨O,0,none⟩),.pointer (some ⟨xa,0,none⟩)] W' λe w''=>e=.returned (.tuple #[])/\∃nv' y,y.f=aQ (fq xf N)/\Lo W1 w'' O A f av ov r.2.1 r.2.2.1 r.2.2.2 nv' (Ln++[y]) B (.slice (some ⟨g2,0,none⟩) L.length lc) L (j+1)):=ab (λW' hf hs=>by
    have hwB:=(uh hI).1.wB;obtain⟨m1,m2,m3,m4,m5⟩:=uh uV ⟨xa,fq xf N,xav,.slice (some ⟨go,0,none⟩) xf.ow.length oc⟩ W' hs;refine(iD m1.oo hf sg.1 (zq3 sg.2 (by omega)) m2 (by omega)).mono ?_;rintro e w'' ⟨rfl,nv',y,-,hy,tL,aP⟩;exact⟨rfl,nv',y,hy,Lo.fin m1 m3 m4 m5 hwB tL aP⟩)
   have AM:(FE.p ⟨xa,xf,xav,.slice (some ⟨go,0,none⟩) xf.ow.length oc⟩)=.pointer (some ⟨xa,0,none⟩):=rfl;rw[AM]at ax;have i1:(0:Int)<=1+(ai:Int):=(by omega);have i2:1+(ai:Int)<5:=(by omega);have i3:(1+(ai:Int)).toNat=1+ai:=(by omega);have i4:(0:Int)<=1+(v:Int):=(by omega);have i5:1+(v:Int)<5:=(by omega);have i6:(1+(v:Int)).toNat=1+v:=(by omega);have i7:(0:Int)<=(j:Int):=(by omega);have i8:(j:Int)<(L.length:Int):=(by omega);have i9:(0:Int)<=(i':Int):=(by omega);have ia:(i':Int)<(xf.ow.length:Int):=(by omega);have WA:Hid (Ln.map (·.f)=(L.take j).map (λx=>aQ (fq x.f N))):=ab (uh hI).2;have HwB:=ab (uh hI).1.wB;clear hx bm rI Uw K9 xO hfg pp bY sg AM tO lR hI;go_wp2_with fail
   go_quiet ((go_at_call 208;exact uh mQ _))
   go_wp2_with fail
   go_region
   go_wp2_with fail
   refine(uh rK ((wr.drewN (nq+1)).setCell ⟨xa,1+v,none⟩ (.int .i64 (rr:Int))) (by rw[<-uh LV];exact(uh xZ).of_eq (λ_ _=>rfl)) ⟨(uh dg).os,(uh dg).tape,(uh dg).output,(uh dg).size,(uh dg).block,(uh dg).foot⟩).mono ?_;rintro e w5 ⟨rfl,nv5,y5,hy5,OL⟩;have HN:Hid (Lo W1 w5 O A f av ov r.2.1 r.2.2.1 r.2.2.2 nv5 (Ln++[y5]) B (.slice (some ⟨g2,0,none⟩) L.length lc) L (j+1)/\(Ln++[y5]).map (·.f)=(L.take (j+1)).map (λx=>aQ (fq x.f N))):=ab ⟨OL,by rw[uh x9,map_append,uh WA];simp[hy5]⟩;have Xz:(Ln++[y5]).length=j+1:=(by rw[length_append,length_singleton,ZK]);have Ys:=ab Xz;clear hy5 OL Xz rK xZ dg LV x9 Yn WA uV;go_wp2_with fail
   go_roundg (G-1)
   case rel=>exact⟨j+1,nv5,Ln++[y5],by omega,by go_num,uh Ys,HN⟩
   case measure=>omega
  .have hd:decide ((j:Int)<(L.length:Int))=false:=(by simp;omega);have hN:Ln.map (·.f)=r.1.map (λg=>aQ (fq g N)):=by
    rw[(uh hI).2,take_of_length_le (by omega),<-uh WC,map_map];rfl
   have uW:=ab hN;clear hN;go_wp2_with fail
   go_end0
   exact⟨rfl,((uh hI).1.os.out (o:=bQ r (λg=>fq g N)) (uh uW) rfl).pre (uh HBX)⟩
end
section
variable {w:World} {O A:Nat} {f:CF} {av ov:Value}
theorem P4{n:Nd}(h:Os w w O A f av ov false false false dC dC [] [])(hO:aj f)(ha:f.ap.length<=40000)(hv:n.v<4)(hi:n.ai<4):
  Calls prog 238 #[.pointer (some ⟨O,0,none⟩),.pointer (some ⟨A,0,none⟩),SN n] w λe w'=>e=.returned (.tuple #[])/\pF w O (bQ (cZ f n.v) (λg=>nk g n)) w':=by
 have iH:=hO.owLen;obtain⟨N,hN⟩:∃N,N=n:=⟨_,rfl⟩;obtain⟨op,v,ak,ai,nx,ot⟩:=n;simp only at hv hi;unfold SN;simp only;rw[<-hN];have hNv:N.v=v:=by rw[hN]
 have St:N.ai=ai:=by rw[hN]
 have hNk:N.ak=ak:=by rw[hN]
 obtain⟨W1,d7⟩:∃W1,W1=w.alloc (.cells #[Value.int .i64 (op:Int),.int .i64 (v:Int),.int .i64 (ak:Int),.int .i64 (ai:Int),.int .i64 (nx:Int),.int .i64 (ot:Int)] 186):=⟨_,rfl⟩;have ce:Below w.heap.size w W1:=by rw[d7];exact ah w _
 have hX:Bk W1 w.heap.size 186 [Value.int .i64 (op:Int),.int .i64 (v:Int),.int .i64 (ak:Int),.int .i64 (ai:Int),.int .i64 (nx:Int),.int .i64 (ot:Int)]:=by rw[d7];exact Bk.new w _ _
 obtain⟨X,gV⟩:∃X,X=w.heap.size:=⟨_,rfl⟩;rw[<-gV]at hX;have hXO:X≠O:=by have:=h.ol;omega
 have uk:=h.rebase ce;have b1:=hX.cell 1 rfl;have mq:=ab (jV (N:=40000) hv hO ha);have B6:=ab (sy hv uk.oo.bk uk.ff hO ha uk.of);obtain⟨r,hr⟩:∃r,r=cZ f v:=⟨_,rfl⟩;rw[<-hr]at B6 mq;have WJ:Hid (r.1.length<=96):=ab (by rw[hr];exact uA hO v);rw[<-hr];have H1:=ab uk;have HX:=ab hX;have HBX:=ab ce;have HNv:=ab hNv;have HNa:=ab St;have HNk:=ab hNk;clear h hO uk ce hX hr hN hNv St hNk;go_enter func238,ntmps238;go_upto_region 1 with fail;rw[<-d7,<-gV];clear d7 gV;go_wp2_with fail
 refine(uh B6).mono ?_;rintro e w2 ⟨lv,L,rfl,ju,OK,C9,gS⟩;have Xg:=Lo.start (uh H1) ju (by simpa using C9) gS;obtain⟨la,lc,it,-,-⟩:=am ju.row;subst it;have WC:=ab OK;have hLL:L.length<=96:=by
  have h1:=congrArg List.length OK;rw[length_map]at h1;have:=uh WJ;omega
 have cF:Hid (Lo W1 w2 O A f av ov r.2.1 r.2.2.1 r.2.2.2 dC [] W1.heap.size (.slice la L.length lc) L 0):=ab (by simpa using Xg);clear ju OK C9 gS Xg B6 b1;obtain⟨B,hB⟩:∃B,B=W1.heap.size:=⟨_,rfl⟩;rw[<-hB]at cF;clear hB;go_wp2_with fail
 go_loopg [15] L.length (λgn iv wx=>∃(j:Nat) (nv:Value) (Ln:List FE),j+gn=L.length/\iv=.int .i64 j/\Ln.length=j/\Hid (Lo W1 wx O A f av ov r.2.1 r.2.2.1 r.2.2.2 nv Ln B (.slice la L.length lc) L j/\Ln.map (·.f)=(L.take j).map (λx=>aQ (nk x.f N))))
 case atStart=>exact⟨0,dC,[],by omega,rfl,rfl,ab ⟨uh cF,rfl⟩⟩
 case round =>
  clear cF;obtain⟨j,nv,Ln,Co,rfl,ZK,hI⟩:=hrel;obtain⟨G,hG⟩:∃G,G=gk:=⟨_,rfl⟩;by_cases fT:j<L.length
  .have hd:decide ((j:Int)<(L.length:Int))=true:=(by simp;omega);obtain⟨g2,cap2,db,ax⟩:=(uh hI).1.pe.cell fT;simp only[Value.slice.injEq,true_and]at db;obtain⟨rfl,rfl⟩:=db;obtain⟨hx,-,-,-,-⟩:=(uh hI).1.pe.next fT;have bm:=uh mq L[j].f (by rw[<-uh WC];exact mem_map_of_mem (getElem_mem fT));have Uw:=(uh HX).stp (uh hI).1.os.st (by simpa using hXO);have b1:=Uw.cell 1 rfl;have b2:=Uw.cell 2 rfl;have b3:=Uw.cell 3 rfl;have rI:(L.take (j+1)).map (λx=>aQ (nk x.f N))=(L.take j).map (λx=>aQ (nk x.f N))++[aQ (nk L[j].f N)]:=by
    rw[take_add_one,getElem?_eq_getElem fT,map_append];rfl
   have uV:Hid (∀(x':FE) (W':World),ar L[j].bs wr x'.bs W'->_):=ab (λx' W' hs=>(uh hI).1.mid (x':=x') fT hs);obtain⟨x,tO⟩:∃x,x=L[j]:=⟨_,rfl⟩;rw[<-tO]at ax hx bm rI uV;obtain⟨i',lR⟩:=Option.isSome_iff_exists.1 bm.bg;obtain⟨um,-⟩:=eT lR;have xc:=hx.is.cls (i:=1+v) (by omega);unfold gZ at xc;obtain⟨xa,xf,xav,xov⟩:=x;simp only at ax hx bm rI lR um xc;obtain⟨oa,oc,gw,-,-⟩:=am hx.is.ow;subst gw;have c6:=hx.is.c6;obtain⟨go,gc,oU,-,-⟩:=aE hx.is.ow um;simp only[Value.slice.injEq,true_and]at oU;obtain⟨rfl,rfl⟩:=oU;obtain⟨-,-,y2⟩:=aB hx.is.ow um;obtain⟨cx,xO⟩:∃cx,cx=xf.cl.getD (1+v) 0:=⟨_,rfl⟩;rw[<-xO]at xc;have mQ:Hid (∀m:Nat,Calls prog 208 #[.pointer (some ⟨xa,0,none⟩),.int .i64 cx] (wr.drewN m) λe w''=>e=.returned (.int .i64 (i':Int))/\∃q,w''=wr.drewN q):=ab (λm=>(cO (w:=wr.drewN m) cx (hx.is.of_eq (λ_ _=>rfl))).mono (λe w'' hw=>by
    have h1:=hw.1;rw[xO,lR]at h1;exact⟨h1,m,hw.2⟩))
   obtain⟨b,hbE⟩:∃b,b=clT xf ak ai:=⟨_,rfl⟩;have hfg:setO xf i' ⟨(owA xf i').k,(owA xf i').l,b⟩=nk xf N:=by
    unfold nk;rw[uh HNv,uh HNa,uh HNk];unfold qp;rw[lR,hbE];rfl
   have HPO:Hid (∀W':World,Below wr.heap.size wr W'->Fm W' xa xf xav (.slice (some ⟨go,0,none⟩) xf.ow.length oc)):=ab (λW' hb=>hx.below hb);have nY:=(hx.is.ow.lt go rfl).2;have SL:=hx.lt xa (by simp[aG]);have Ey:=Uw.lt;have hgx:go≠xa:=λe=>hx.nds.2.1 (by rw[e];rfl);have hgX:go≠X:=λe=>by
    have h1:=(uh hI).1.pe.next fT;have h2:=h1.2.1 go (by rw[<-tO];simp[FE.bs,aG,Value.ownBlock]);have h3:=(uh HX).lt;have h4:=(uh hI).1.wB;omega
   have LV:=ab hfg;have EV:=ab hbE;have x9:=ab rI;have sg:=Gl (n:=N) (by rw[uh HNv];exact bm);have Yn:=ab sg;have rK:Hid (∀W':World,Fm W' xa (nk xf N) xav (.slice (some ⟨go,0,none⟩) xf.ow.length oc)->ar (aG xa xav (.slice (some ⟨go,0,none⟩) xf.ow.length oc)) wr (aG xa xav (.slice (some ⟨go,0,none⟩) xf.ow.length oc)) W'->Calls prog 242 #[.pointer (some ⟨O,0,none⟩),.pointer (some ⟨xa,0,none⟩)] W' λe w''=>e=.returned (.tuple #[])/\∃nv' y,y.f=aQ (nk xf N)/\Lo W1 w'' O A f av ov r.2.1 r.2.2.1 r.2.2.2 nv' (Ln++[y]) B (.slice (some ⟨g2,0,none⟩) L.length lc) L (j+1)):=ab (λW' hf hs=>by
    have hwB:=(uh hI).1.wB;obtain⟨m1,m2,m3,m4,m5⟩:=uh uV ⟨xa,nk xf N,xav,.slice (some ⟨go,0,none⟩) xf.ow.length oc⟩ W' hs;refine(iD m1.oo hf sg.1 (zq3 sg.2 (by omega)) m2 (by omega)).mono ?_;rintro e w'' ⟨rfl,nv',y,-,hy,tL,aP⟩;exact⟨rfl,nv',y,hy,Lo.fin m1 m3 m4 m5 hwB tL aP⟩)
   have AM:(FE.p ⟨xa,xf,xav,.slice (some ⟨go,0,none⟩) xf.ow.length oc⟩)=.pointer (some ⟨xa,0,none⟩):=rfl;rw[AM]at ax;have i1:(0:Int)<=1+(ai:Int):=(by omega);have i2:1+(ai:Int)<5:=(by omega);have i3:(1+(ai:Int)).toNat=1+ai:=(by omega);have i4:(0:Int)<=1+(v:Int):=(by omega);have i5:1+(v:Int)<5:=(by omega);have i6:(1+(v:Int)).toNat=1+v:=(by omega);have i7:(0:Int)<=(j:Int):=(by omega);have i8:(j:Int)<(L.length:Int):=(by omega);have i9:(0:Int)<=(i':Int):=(by omega);have ia:(i':Int)<(xf.ow.length:Int):=(by omega);have WA:Hid (Ln.map (·.f)=(L.take j).map (λx=>aQ (nk x.f N))):=ab (uh hI).2;have HwB:=ab (uh hI).1.wB;clear hx bm rI Uw xO hfg sg AM tO lR hI hbE;go_wp2_with fail
   go_quiet ((go_at_call 208;exact uh mQ _))
   obtain⟨W4,yg⟩:∃W4,W4=wr.drewN nq:=⟨_,rfl⟩;rw[<-yg];have nU:Below wr.heap.size wr W4:=(by rw[yg];exact dJ wr nq);have p6:=(nU.cell SL).trans c6;have p2:=(nU.cell Ey).trans b2;have p3:=(nU.cell Ey).trans b3;have zT:=ab nU;have xH:Hid (∀W':World,Below wr.heap.size wr W'->Calls prog 236 #[.pointer (some ⟨xa,0,none⟩),.agg #[.int .i64 (ak:Int),.int .i64 (ai:Int)]] W' λe w''=>e=.returned (.int .i64 (b:Int))/\Below wr.heap.size wr w''):=ab (λW' hb=>(rP (uh HPO W' hb).is ak ai hi).mono (λe w'' hw=>⟨by rw[uh EV];exact hw.1,hb.trans (hw.2.mono hb.size)⟩));clear yg nU;have alr:¬ (go=xa):=hgx;have hgX':¬ (go=X):=hgX;have asp:¬ (xa=go):=λe=>hgx e.symm;have are:¬ (X=go):=λe=>hgX e.symm;go_wp2_with fail
   go_region_held3 (λW=>W.cell? ⟨xa,6,none⟩=some (.slice (some ⟨go,0,none⟩) xf.ow.length oc)/\W.cell? ⟨X,2,none⟩=some (.int .i64 (ak:Int))/\W.cell? ⟨X,3,none⟩=some (.int .i64 (ai:Int))) (first|(simp only[cell?_drew,p6,p2,p3,and_self];done)|(simp only[q6,q2,q3,and_self];done)|(simp[cell?_setCell_far,q6,q2,q3,alr,hgX'];done))
    (first
     |(go_at_call 236;refine(uh xH _ (by first|exact(uh zT).drew|exact uh zT)).mono ?_;rintro e w6 ⟨rfl,kS⟩;have q6:=(kS.cell SL).trans c6;have q2:=(kS.cell Ey).trans b2;have q3:=(kS.cell Ey).trans b3;have Uj:=uh HPO w6 kS;have y6:=(kS.cell nY).trans y2;have z6:=Uj.is.ow.frozenAt (i'*3+2);have xY:=ab kS;have HF6:=ab Uj;clear kS Uj))
   have HPU:=ab (Fm.putO (uh HF6) um b);go_wp2_with fail
   refine(uh rK (w6.setCell ⟨go,i'*3+2,none⟩ (.int .i64 (b:Int))) (by rw[<-uh LV];exact(uh HPU).1) ((ar.ofBw (F:=aG xa xav (.slice (some ⟨go,0,none⟩) xf.ow.length oc)) (uh xY)).trans (uh HPU).2.1)).mono ?_;rintro e w5 ⟨rfl,nv5,y5,hy5,OL⟩;have HN:Hid (Lo W1 w5 O A f av ov r.2.1 r.2.2.1 r.2.2.2 nv5 (Ln++[y5]) B (.slice (some ⟨g2,0,none⟩) L.length lc) L (j+1)/\(Ln++[y5]).map (·.f)=(L.take (j+1)).map (λx=>aQ (nk x.f N))):=ab ⟨OL,by rw[uh x9,map_append,uh WA];simp[hy5]⟩;have Xz:(Ln++[y5]).length=j+1:=(by rw[length_append,length_singleton,ZK]);have Ys:=ab Xz;clear hy5 OL Xz rK LV x9 Yn WA uV HPO xH zT xY HF6 HPU;go_wp2_with fail
   go_roundg (G-1)
   case rel=>exact⟨j+1,nv5,Ln++[y5],by omega,by go_num,uh Ys,HN⟩
   case measure=>omega
  .have hd:decide ((j:Int)<(L.length:Int))=false:=(by simp;omega);have hN:Ln.map (·.f)=r.1.map (λg=>aQ (nk g N)):=by
    rw[(uh hI).2,take_of_length_le (by omega),<-uh WC,map_map];rfl
   have uW:=ab hN;clear hN;go_wp2_with fail
   go_end0
   exact⟨rfl,((uh hI).1.os.out (o:=bQ r (λg=>nk g N)) (uh uW) rfl).pre (uh HBX)⟩
end
theorem Jn:∀(l:List Pr) {g:CF} {c:Nat},(l.foldl (λh p=>cf h c p.l) g).ap.length=g.ap.length+l.length
 |[],_,_=>rfl
 |p::r,g,c=>by
  rw[foldl_cons,Jn r (g:=cf g c p.l),length_cons];show(g.ap++[_]).length+_=_;rw[length_append,length_singleton];omega
section
variable {w:World} {O A:Nat} {f:CF} {av ov:Value}
theorem Oy{v:Nat}(h:Os w w O A f av ov false false false dC dC [] [])(hO:aj f)(ha:f.ap.length<=40000)(hv:v<4):
  Calls prog 240 #[.pointer (some ⟨O,0,none⟩),.pointer (some ⟨A,0,none⟩),.int .i64 v] w λe w'=>e=.returned (.tuple #[])/\pF w O (bQ (cZ f v) (λg=>l8 g v)) w':=by
 have iH:=hO.owLen;have mq:=ab (jV (N:=40000) hv hO ha);have B6:=ab (sy hv h.oo.bk h.ff hO ha h.of);obtain⟨r,hr⟩:∃r,r=cZ f v:=⟨_,rfl⟩;rw[<-hr]at B6 mq;have WJ:Hid (r.1.length<=96):=ab (by rw[hr];exact uA hO v);rw[<-hr];have H1:=ab h;have i1:(0:Int)<=1+(v:Int):=by omega
 have i2:1+(v:Int)<5:=by omega
 have i3:(1+(v:Int)).toNat=1+v:=by omega
 clear h hO hr;go_enter func240,ntmps240;go_wp2_with fail
 refine(uh B6).mono ?_;rintro e w2 ⟨lv,L,rfl,ju,OK,C9,gS⟩;have Xg:=Lo.start (uh H1) ju (by simpa using C9) gS;obtain⟨la,lc,it,-,-⟩:=am ju.row;subst it;have WC:=ab OK;have hLL:L.length<=96:=by
  have h1:=congrArg List.length OK;rw[length_map]at h1;have:=uh WJ;omega
 have cF:Hid (Lo w w2 O A f av ov r.2.1 r.2.2.1 r.2.2.2 dC [] w.heap.size (.slice la L.length lc) L 0):=ab (by simpa using Xg);clear ju OK C9 gS Xg B6;obtain⟨B,hB⟩:∃B,B=w.heap.size:=⟨_,rfl⟩;rw[<-hB]at cF;clear hB;go_wp2_with fail
 go_loopg [17] L.length (λgn iv wx=>∃(j:Nat) (nv:Value) (Ln:List FE),j+gn=L.length/\iv=.int .i64 j/\Ln.length=j/\Hid (Lo w wx O A f av ov r.2.1 r.2.2.1 r.2.2.2 nv Ln B (.slice la L.length lc) L j/\Ln.map (·.f)=(L.take j).map (λx=>aQ (l8 x.f v))))
 case atStart=>exact⟨0,dC,[],by omega,rfl,rfl,ab ⟨uh cF,rfl⟩⟩
 case round =>
  clear cF;obtain⟨j,nv,Ln,Co,rfl,ZK,hI⟩:=hrel;obtain⟨G,hG⟩:∃G,G=gk:=⟨_,rfl⟩;by_cases fT:j<L.length
  .have hd:decide ((j:Int)<(L.length:Int))=true:=(by simp;omega);obtain⟨g2,cap2,db,ax⟩:=(uh hI).1.pe.cell fT;simp only[Value.slice.injEq,true_and]at db;obtain⟨rfl,rfl⟩:=db;obtain⟨hx,-,-,-,-⟩:=(uh hI).1.pe.next fT;have bm:=uh mq L[j].f (by rw[<-uh WC];exact mem_map_of_mem (getElem_mem fT));have rI:(L.take (j+1)).map (λx=>aQ (l8 x.f v))=(L.take j).map (λx=>aQ (l8 x.f v))++[aQ (l8 L[j].f v)]:=by
    rw[take_add_one,getElem?_eq_getElem fT,map_append];rfl
   have uV:Hid (∀(x':FE) (W':World),ar L[j].bs wr x'.bs W'->_):=ab (λx' W' hs=>(uh hI).1.mid (x':=x') fT hs);obtain⟨x,tO⟩:∃x,x=L[j]:=⟨_,rfl⟩;rw[<-tO]at ax hx bm rI uV;obtain⟨i',lR⟩:=Option.isSome_iff_exists.1 bm.bg;obtain⟨um,-⟩:=eT lR;obtain⟨xa,xf,xav,xov⟩:=x;simp only at ax hx bm rI lR um;have xc:=hx.is.cls (i:=1+v) (by omega);unfold gZ at xc;have hfrE:l8 xf v=(gY xf i').ow.foldl (λh p=>cf h (xf.cl.getD (1+v) 0) p.l) (cf (gY xf i') (xf.cl.getD (1+v) 0) ((gY xf i').cl.getD 0 0)):=by
    have e:qp xf (xf.cl.getD (1+v) 0)=i':=(by unfold qp;rw[lR];rfl);show(gY xf (qp xf (xf.cl.getD (1+v) 0))).ow.foldl _ (cf (gY xf (qp xf (xf.cl.getD (1+v) 0))) _ _)=_;rw[e]
   obtain⟨cx,xO⟩:∃cx,cx=xf.cl.getD (1+v) 0:=⟨_,rfl⟩;rw[<-xO]at xc lR hfrE;have amq:=bm.ok.owLen;have mQ:=ab (cO cx hx.is);rw[lR,show fU (some i')=(i':Int) from rfl]at mQ;have HTA:=ab (zc hx (zq3 amq (by omega)) i');have sg:=rY bm;have rK:Hid (∀(W':World) (av' ov':Value),Fm W' xa (l8 xf v) av' ov'->ar (aG xa xav xov) wr (aG xa av' ov') W'->Calls prog 242 #[.pointer (some ⟨O,0,none⟩),.pointer (some ⟨xa,0,none⟩)] W' λe w''=>e=.returned (.tuple #[])/\∃nv' y,y.f=aQ (l8 xf v)/\Lo w w'' O A f av ov r.2.1 r.2.2.1 r.2.2.2 nv' (Ln++[y]) B (.slice (some ⟨g2,0,none⟩) L.length lc) L (j+1)):=ab (λW' av' ov' hf hs=>by
    have hwB:=(uh hI).1.wB;obtain⟨m1,m2,m3,m4,m5⟩:=uh uV ⟨xa,l8 xf v,av',ov'⟩ W' hs;refine(iD m1.oo hf sg.1 (zq3 sg.2 (by omega)) m2 (by omega)).mono ?_;rintro e w'' ⟨rfl,nv',y,-,hy,tL,aP⟩;exact⟨rfl,nv',y,hy,Lo.fin m1 m3 m4 m5 hwB tL aP⟩)
   have AM:(FE.p ⟨xa,xf,xav,xov⟩)=.pointer (some ⟨xa,0,none⟩):=rfl;rw[AM]at ax;have aso:=bm.ln;have htl:(gY xf i').ow.length<=24:=(bm.ok.tk i').owLen;have Lc:(gY xf i').ap.length<=40000:=bm.ln;have x9:=ab rI;have HFE:=ab hfrE;have WA:Hid (Ln.map (·.f)=(L.take j).map (λx=>aQ (l8 x.f v))):=ab (uh hI).2;have i7:(0:Int)<=(j:Int):=(by omega);have i8:(j:Int)<(L.length:Int):=(by omega);clear hx bm rI xO hfrE sg AM tO lR hI;go_wp2_with fail
   refine(uh mQ).mono ?_;rintro e w3 ⟨rfl,rfl⟩;go_wp2_with fail
   refine(uh HTA).mono ?_;rintro e w4 ⟨rfl,ov4,r9,fD⟩;obtain⟨T,hT⟩:∃T,T=gY xf i':=⟨_,rfl⟩;have ZC:Fm w4 xa T xav ov4:=(by rw[hT];exact r9);rw[<-hT]at HFE htl Lc;have x0:=ZC.is.cls (i:=0) (by omega);unfold gZ at x0;obtain⟨n0,si⟩:∃n0,n0=T.cl.getD 0 0:=⟨_,rfl⟩;rw[<-si]at x0 HFE;have WE:=ab (rh ZC cx n0 (zq3 Lc (by omega)));have mE:=ab fD;clear r9 ZC fD si hT HTA mQ xc ax;go_wp2_with fail
   refine(uh WE).mono ?_;rintro e w5 ⟨rfl,av5,C2,gg⟩;have c6:=C2.is.c6;obtain⟨oa,oc,gw,-,-⟩:=am C2.is.ow;have Dq:ov4=.slice oa T.ow.length oc:=gw;subst Dq;have oO:Hid (Fm w5 xa ((T.ow.take 0).foldl (λh p=>cf h cx p.l) (cf T cx n0)) av5 (.slice oa T.ow.length oc)/\ar (aG xa xav xov) w3 (aG xa av5 (.slice oa T.ow.length oc)) w5):=ab ⟨C2,(uh mE).trans gg⟩;clear C2 gg WE x0 gw;go_wp2_with fail
   go_loopg [47] T.ow.length (λgn iv wx=>∃(m:Nat) (av6:Value),m+gn=T.ow.length/\iv=.int .i64 m/\Hid (Fm wx xa ((T.ow.take m).foldl (λh p=>cf h cx p.l) (cf T cx n0)) av6 (.slice oa T.ow.length oc)/\ar (aG xa xav xov) w3 (aG xa av6 (.slice oa T.ow.length oc)) wx))
   case atStart=>exact⟨0,av5,by omega,rfl,oO⟩
   case round =>
    clear oO c6;obtain⟨m,av6,hmn,rfl,hJ⟩:=hrel;obtain⟨G2,FB⟩:∃G2,G2=gk:=⟨_,rfl⟩;have howE:((T.ow.take m).foldl (λh p=>cf h cx p.l) (cf T cx n0)).ow=T.ow:=By _;have hapE:((T.ow.take m).foldl (λh p=>cf h cx p.l) (cf T cx n0)).ap.length<=100000:=by
     rw[Jn];show(T.ap++[_]).length+(T.ow.take m).length<=_;rw[length_append,length_singleton,length_take];omega
    by_cases fI:m<T.ow.length
    .have kY:decide ((m:Int)<(T.ow.length:Int))=true:=(by simp;omega);have bp:wr.ownsRow 0 182 3 (.slice oa T.ow.length oc) T.ow.length (af T.ow):=by
      have:=(uh hJ).1.is.ow;rwa [howE]at this
     obtain⟨go,gc,oU,-,-⟩:=aE bp fI;simp only[Value.slice.injEq,true_and]at oU;obtain⟨rfl,rfl⟩:=oU;obtain⟨y0,y1,y2⟩:=aB bp fI;have qq:=jI (g:=λh p=>cf h cx p.l) (a:=cf T cx n0) fI;obtain⟨p,hp⟩:∃p,p=T.ow.getD m ay:=⟨_,rfl⟩;rw[<-hp]at y0 y1 y2 qq;obtain⟨W1,d7⟩:∃W1,W1=wr.alloc (.cells #[Value.int .i64 p.k,.int .i64 p.l,.int .i64 p.r] 182):=⟨_,rfl⟩;have ce:Below wr.heap.size wr W1:=(by rw[d7];exact ah wr _);have mZ:Bk W1 wr.heap.size 182 [Value.int .i64 p.k,.int .i64 p.l,.int .i64 p.r]:=(by rw[d7];exact Bk.new wr _ _);obtain⟨X,gV⟩:∃X,X=wr.heap.size:=⟨_,rfl⟩;rw[<-gV]at mZ;have b1:=mZ.cell 1 rfl;have WF:=ab (rh ((uh hJ).1.below ce) cx p.l hapE);have HSB:=ab ((uh hJ).2.trans (ar.ofBw ce));have ajz:=ab qq;have k1:(0:Int)<=(m:Int):=(by omega);have k2:(m:Int)<(T.ow.length:Int):=(by omega);clear bp qq hp ce mZ hJ howE hapE;go_upto_region 10 with fail;rw[<-d7,<-gV];clear d7 gV;go_wp2_with fail
     refine(uh WF).mono ?_;rintro e w7 ⟨rfl,av7,Uk,Ew⟩;have HN:Hid (Fm w7 xa ((T.ow.take (m+1)).foldl (λh p=>cf h cx p.l) (cf T cx n0)) av7 (.slice (some ⟨go,0,none⟩) T.ow.length oc)/\ar (aG xa xav xov) w3 (aG xa av7 (.slice (some ⟨go,0,none⟩) T.ow.length oc)) w7):=ab ⟨by rw[uh ajz];exact Uk,(uh HSB).trans Ew⟩;clear Uk Ew WF HSB;go_wp2_with fail
     go_roundg (G2-1)
     case rel=>exact⟨m+1,av7,by omega,by go_num,HN⟩
     case measure=>omega
    .have kY:decide ((m:Int)<(T.ow.length:Int))=false:=(by simp;omega);have hfe:(T.ow.take m).foldl (λh p=>cf h cx p.l) (cf T cx n0)=l8 xf v:=(by rw[take_of_length_le (by omega)];exact(uh HFE).symm);rw[hfe]at hJ;clear hfe howE hapE;go_wp2_with fail
     refine(uh rK _ _ _ (uh hJ).1 (uh hJ).2).mono ?_;rintro e w8 ⟨rfl,nv8,y8,hy8,ae8⟩;have HN:Hid (Lo w w8 O A f av ov r.2.1 r.2.2.1 r.2.2.2 nv8 (Ln++[y8]) B (.slice (some ⟨g2,0,none⟩) L.length lc) L (j+1)/\(Ln++[y8]).map (·.f)=(L.take (j+1)).map (λx=>aQ (l8 x.f v))):=ab ⟨ae8,by rw[uh x9,map_append,uh WA];simp[hy8]⟩;have hl8:(Ln++[y8]).length=j+1:=(by rw[length_append,length_singleton,ZK]);have HL8:=ab hl8;clear hy8 ae8 hl8 rK x9 WA uV hJ;go_wp2_with fail
     go_roundg (G-1)
     case rel=>exact⟨j+1,nv8,Ln++[y8],by omega,by go_num,uh HL8,HN⟩
     case measure=>omega
  .have hd:decide ((j:Int)<(L.length:Int))=false:=(by simp;omega);have hN:Ln.map (·.f)=r.1.map (λg=>aQ (l8 g v)):=by
    rw[(uh hI).2,take_of_length_le (by omega),<-uh WC,map_map];rfl
   have uW:=ab hN;clear hN;go_wp2_with fail
   go_end0
   exact⟨rfl,(uh hI).1.os.out (o:=bQ r (λg=>l8 g v)) (uh uW) rfl⟩
end
def YI(w:World)(o:MV)(O:Nat)(w':World):Prop:=∃nv tv Ln Lt,Oo w' O o.nu o.da o.fu nv tv Ln Lt/\Ln.map (·.f)=o.nx/\Lt.map (·.f)=o.ot/\(∀k∈eQ O nv tv Ln Lt,w.heap.size<=k)/\Below w.heap.size w w'
theorem pF.own{w W w':World}{O:Nat}{o:MV}(h:pF W O o w')(hb:Below w.heap.size w W)(hO:w.heap.size<=O):YI w o O w':=by
 obtain⟨nv,tv,Ln,Lt,h1,h2,h3,h4⟩:=h;refine⟨nv,tv,Ln,Lt,h1,h2,h3,λk hk=>?_,⟨h4.os.trans hb.os,h4.tape.trans hb.tape,h4.output.trans hb.output,zq3 hb.size h4.size,λk hk=>(h4.block k (zq6 hk hb.size) (λhn=>by rw[mem_singleton]at hn;omega)).trans (hb.block k hk)⟩⟩;rcases h4.foot k hk with q|q
 .rw[mem_singleton]at q;omega
 .exact zq3 hb.size q
theorem Oo.swap{w:World}{O:Nat}{nu da fu:Bool}{nv tv:Value}{Ln Lt:List FE}(h:Oo w O nu da fu nv tv Ln Lt):Oo ((w.setCell ⟨O,0,none⟩ tv).setCell ⟨O,1,none⟩ nv) O nu da fu tv nv Lt Ln:=by
 have dF:=nodup_cons.1 h.nd;have vW:=nodup_append.1 dF.2;have e:∀k,k≠O->((w.setCell ⟨O,0,none⟩ tv).setCell ⟨O,1,none⟩ nv).heap[k]?=w.heap[k]?:=λk hk=>(heap_setCell _ _ _ _ hk).trans (heap_setCell _ _ _ _ hk);refine⟨(h.bk.set 0 tv).set 1 nv,h.ot.of_eq (λk hk=>e k (λq=>dF.1 (by rw[<-q];exact mem_append_right _ hk))),h.nx.of_eq (λk hk=>e k (λq=>dF.1 (by rw[<-q];exact mem_append_left _ hk))),?_⟩;rw[nodup_cons,nodup_append];refine⟨λhm=>dF.1 ?_,vW.2.1,vW.1,λa ha b hb q=>vW.2.2 b hb a ha q.symm⟩;rcases mem_append.1 hm with q|q
 .exact mem_append_right _ q
 .exact mem_append_left _ q
section
variable {w:World} {A:Nat} {f:CF} {av ov:Value}
theorem NS{n:Nd}(h:eP w A f av ov)(hT:Td f)(hv:n.v<4)(hi:n.ai<4)(pq:n.op<=1000):
  Calls prog 203 #[SN n,.pointer (some ⟨A,0,none⟩)] w λe w'=>∃O,e=.returned (.pointer (some ⟨O,0,none⟩))/\YI w (cj n f) O w':=by
 have hO:=hT.ok;have ha:f.ap.length<=40000:=zq3 hT.ln (by omega);have iH:=hO.owLen;obtain⟨oR,hoR⟩:∃oR,oR=cj n f:=⟨_,rfl⟩;obtain⟨W1,d7⟩:∃W1,W1=w.alloc (.cells #[Value.int .i64 (n.op:Int),.int .i64 (n.v:Int),.int .i64 (n.ak:Int),.int .i64 (n.ai:Int),.int .i64 (n.nx:Int),.int .i64 (n.ot:Int)] 186):=⟨_,rfl⟩;obtain⟨W2,jt⟩:∃W2,W2=W1.alloc (.cells #[Value.slice none 0 0,.slice none 0 0,.bool false,.bool false,.bool false] 280):=⟨_,rfl⟩;have bz:Below w.heap.size w W1:=by rw[d7];exact ah w _
 have aW:Below W1.heap.size W1 W2:=by rw[jt];exact ah W1 _
 have hX:Bk W2 w.heap.size 186 [Value.int .i64 (n.op:Int),.int .i64 (n.v:Int),.int .i64 (n.ak:Int),.int .i64 (n.ai:Int),.int .i64 (n.nx:Int),.int .i64 (n.ot:Int)]:=by
  refine Bk.below ?_ aW;rw[d7];exact Bk.new w _ _
 have Cj:Bk W2 W1.heap.size 280 [dC,dC,.bool false,.bool false,.bool false]:=by rw[jt];exact Bk.new W1 _ _
 have mO:W1.heap.size=w.heap.size+1:=by rw[d7];simp
 obtain⟨X,gV⟩:∃X,X=w.heap.size:=⟨_,rfl⟩;obtain⟨O,hOe⟩:∃O,O=W1.heap.size:=⟨_,rfl⟩;rw[<-gV]at hX;rw[<-hOe]at Cj;have hb:=bz.trans (aW.mono bz.size);have hwO:w.heap.size<=O:=by omega
 have hOs:Os W2 W2 O A f av ov false false false dC dC [] []:=Os.start ⟨Cj,Fl.nil0 _ _,Fl.nil0 _ _,by simp[be,dC,Value.ownBlock]⟩ (h.below hb) rfl (λhn=>by have:=h.lt O hn;omega);have aff:O=w.heap.size+1:=by omega
 have hXO:X≠O:=by omega
 have b0:=hX.cell 0 rfl;have b1:=hX.cell 1 rfl;have b2:=hX.cell 2 rfl;have b3:=hX.cell 3 rfl;have b4:=hX.cell 4 rfl;have b5:=hX.cell 5 rfl;have HS:=ab hOs;have HO:=ab hO;have HB:=ab hb;have HWO:=ab hwO;have HX:=ab hX;have Sg:=ab hoR;obtain⟨z,hz⟩:∃z,z=(n.op:Int):=⟨_,rfl⟩;have HZ:=ab hz;rw[<-hoR];have aab:oR=cj n f:=hoR;unfold cj at aab;have G0:=ab aab;have R7:Hid (∀w':World,pF W2 O oR w'->∃O',(Ending.returned (.pointer (some ⟨O,0,none⟩)):Ending)=.returned (.pointer (some ⟨O',0,none⟩))/\YI w oR O' w'):=ab (λw' hp=>⟨O,rfl,hp.own hb hwO⟩);have dF:SN n=.agg #[.int .i64 z,.int .i64 (n.v:Int),.int .i64 (n.ak:Int),.int .i64 (n.ai:Int),.int .i64 (n.nx:Int),.int .i64 (n.ot:Int)]:=by rw[hz];rfl
 rw[<-hz]at d7 b0;clear h hT hO bz aW hX Cj mO hb hOs hoR hz aab;rw[dF];have HND:Hid (SN n=.agg #[.int .i64 z,.int .i64 (n.v:Int),.int .i64 (n.ak:Int),.int .i64 (n.ai:Int),.int .i64 (n.nx:Int),.int .i64 (n.ot:Int)]):=ab dF;clear dF;go_enter func203,ntmps203;go_upto_region 2 with fail;rw[<-d7,<-jt,<-aff,<-gV];clear d7 jt gV hOe aff;by_cases h0:n.op=0
 .have z0:z=0:=by rw[uh HZ,h0];rfl
  have HE:Hid (oR=wJ):=ab (by rw[uh G0,if_pos h0]);subst z0;clear h0;go_wp2_with fail
  go_ret;exact uh R7 _ (by rw[uh HE];exact(uh HS).out (o:=wJ) rfl rfl)
 .have z0:(z==0)=false:=by rw[uh HZ];simp;omega
  by_cases h4:n.op=4
  .have z4:z=4:=(by rw[uh HZ,h4];rfl);have HE:Hid (oR=if 24<=aw f then ⟨[],[],false,false,true⟩ else ⟨[aQ (Et f n.v)],[],false,false,false⟩):=ab (by rw[uh G0,if_neg h0,if_neg (by omega),if_neg (by omega),if_neg (by omega),if_pos h4]);have uT:=ab (Fh (v:=n.v) (uh HS) (uh HO) ha hv);rw[<-uh HE]at uT;subst z4;clear h0 h4 z0;go_wp2_with fail
   refine(uh uT).mono ?_;rintro e w3 ⟨rfl,hP⟩;have HP:=ab hP;clear hP uT;go_wp2_with fail
   go_ret;exact uh R7 _ (uh HP)
  .have z4:(z==4)=false:=(by rw[uh HZ];simp;omega);by_cases h5:n.op=5
   .have z5:z=5:=(by rw[uh HZ,h5];rfl);have HE:Hid (oR=bQ (cZ f n.v) (λg=>l8 g n.v)):=ab (by rw[uh G0,if_neg h0,if_neg (by omega),if_neg (by omega),if_neg (by omega),if_neg (by omega),if_pos h5]);have uT:=ab (Oy (v:=n.v) (uh HS) (uh HO) ha hv);rw[<-uh HE]at uT;subst z5;clear h0 h4 h5 z0 z4;go_wp2_with fail
    refine(uh uT).mono ?_;rintro e w3 ⟨rfl,hP⟩;have HP:=ab hP;clear hP uT;go_wp2_with fail
    go_ret;exact uh R7 _ (uh HP)
   .have z5:(z==5)=false:=(by rw[uh HZ];simp;omega);by_cases h2:n.op=2
    .have z2:z=2:=(by rw[uh HZ,h2];rfl);have HE:Hid (oR=bQ (cZ f n.ai) (λg=>fq g n)):=ab (by rw[uh G0,if_neg h0,if_neg (by omega),if_pos h2]);have uT:=ab (Fv (uh HS) (uh HO) ha hv hi);rw[<-uh HE,uh HND]at uT;subst z2;clear h0 h4 h5 h2 z0 z4 z5;go_wp2_with fail
     refine(uh uT).mono ?_;rintro e w3 ⟨rfl,hP⟩;have HP:=ab hP;clear hP uT;go_wp2_with fail
     go_ret;exact uh R7 _ (uh HP)
    .have z2:(z==2)=false:=(by rw[uh HZ];simp;omega);by_cases h3:n.op=3
     .have z3:z=3:=(by rw[uh HZ,h3];rfl);have HE:Hid (oR=bQ (cZ f n.v) (λg=>nk g n)):=ab (by rw[uh G0,if_neg h0,if_neg (by omega),if_neg (by omega),if_pos h3]);have uT:=ab (P4 (uh HS) (uh HO) ha hv hi);rw[<-uh HE,uh HND]at uT;subst z3;clear h0 h4 h5 h2 h3 z0 z4 z5 z2;go_wp2_with fail
      refine(uh uT).mono ?_;rintro e w3 ⟨rfl,hP⟩;have HP:=ab hP;clear hP uT;go_wp2_with fail
      go_ret;exact uh R7 _ (uh HP)
     .have z3:(z==3)=false:=(by rw[uh HZ];simp;omega);by_cases h8:n.op=8
      .have z8:z=8:=(by rw[uh HZ,h8];rfl);have HE:Hid (oR=⟨(mt f n).1,(mt f n).2,false,false,false⟩):=ab (by rw[uh G0,if_neg h0,if_neg (by omega),if_neg (by omega),if_neg (by omega),if_neg (by omega),if_neg (by omega),if_neg (by omega),if_pos h8]);have uT:=ab (sT (uh HS) (uh HO) ha hv hi);rw[<-uh HE,uh HND]at uT;subst z8;clear h0 h4 h5 h2 h3 h8 z0 z4 z5 z2 z3;go_wp2_with fail
       refine(uh uT).mono ?_;rintro e w3 ⟨rfl,hP⟩;have HP:=ab hP;clear hP uT;go_wp2_with fail
       go_ret;exact uh R7 _ (uh HP)
      .have z8:(z==8)=false:=(by rw[uh HZ];simp;omega);by_cases h9:n.op=9
       .have z9:z=9:=(by rw[uh HZ,h9];rfl);have HE:Hid (oR=⟨(mt f n).2,(mt f n).1,false,false,false⟩):=ab (by rw[uh G0,if_neg h0,if_neg (by omega),if_neg (by omega),if_neg (by omega),if_neg (by omega),if_neg (by omega),if_neg (by omega),if_neg (by omega),if_pos h9]);have uT:=ab (sT (n:=n) (uh HS) (uh HO) ha hv hi);rw[uh HND]at uT;subst z9;clear h0 h4 h5 h2 h3 h8 h9 z0 z4 z5 z2 z3 z8;go_wp2_with fail
        refine(uh uT).mono ?_;rintro e w3 ⟨rfl,nv,tv,Ln,Lt,tL,hm1,tb,aP⟩;obtain⟨na,nc,K6,-,-⟩:=am tL.nx.row;subst K6;obtain⟨ta,tc,htv,-,-⟩:=am tL.ot.row;subst htv;have o0:=tL.bk.cell 0 rfl;have o1:=tL.bk.cell 1 rfl;have oz:=tL.bk.frz 0;have C8:=tL.bk.set 0 (.slice ta Lt.length tc);have o1':=C8.cell 1 rfl;have oz':=C8.frz 1;have hsw:=tL.swap;have hP:pF W2 O oR ((w3.setCell ⟨O,0,none⟩ (.slice ta Lt.length tc)).setCell ⟨O,1,none⟩ (.slice na Ln.length nc)):=by
         rw[uh HE];refine⟨_,_,Lt,Ln,hsw,tb,hm1,((aP.setCell (p:=⟨O,0,none⟩) (zq0 (by simp)) _).setCell (p:=⟨O,1,none⟩) (zq0 (by simp)) _).foots (λk hk=>aP.foot k ?_)⟩;simp only[eQ,mem_cons,mem_append]at hk ⊢;rcases hk with q|q|q
         .exact zq0 q
         .exact zq1 (zq1 q)
         .exact zq1 (zq0 q)
        have HP:=ab hP;clear tL hm1 tb aP C8 hsw hP uT;go_wp2_with fail
        go_ret;exact uh R7 _ (uh HP)
       .have z9:(z==9)=false:=(by rw[uh HZ];simp;omega);by_cases h7:n.op=7
        .have z7:z=7:=(by rw[uh HZ,h7];rfl);have HE:Hid (oR=⟨[aQ f],[aQ f],false,false,false⟩):=ab (by rw[uh G0,if_neg h0,if_neg (by omega),if_neg (by omega),if_neg (by omega),if_neg (by omega),if_neg (by omega),if_pos h7]);have kX:=ab (cP (uh HS).ff (uh HO).c5 ha (zq3 iH (by omega)));subst z7;clear h0 h4 h5 h2 h3 h8 h9 h7 z0 z4 z5 z2 z3 z8 z9;go_wp2_with fail
         refine(uh kX).mono ?_;rintro e w3 ⟨A3,rfl,Ci⟩;obtain⟨av3,ov3,m6⟩:=Ci.frf;have OO:=(uh HS).below m6.bw;have rK:=ab (iD OO.oo m6.fm (uh HO) (zq3 ha (by omega)) ((uh HS).fresh m6.ge) (by simp));have H3:=ab OO;have HG3:=ab m6.ge;clear Ci m6 OO kX;go_wp2_with fail
         refine(uh rK).mono ?_;rintro e w4 ⟨rfl,nv4,x4,-,hx4,PC,vZ⟩;have KC:=(uh H3).next (uh HG3) PC vZ;have adE:=ab (cP KC.ff (uh HO).c5 ha (zq3 iH (by omega)));have H4:=ab KC;have HX4:=ab hx4;clear PC vZ hx4 KC rK;go_wp2_with fail
         refine(uh adE).mono ?_;rintro e w5 ⟨A5,rfl,hN5⟩;obtain⟨av5,ov5,De⟩:=hN5.frf;have hO5:=(uh H4).below De.bw;have WO:=ab (xB hO5.oo De.fm (uh HO) (zq3 ha (by omega)) ((uh H4).fresh De.ge) (by simp));have H5:=ab hO5;have HG5:=ab (λk hk=>zq3 (uh H4).st.size (De.ge k hk));clear hN5 De hO5 adE;go_wp2_with fail
         refine(uh WO).mono ?_;rintro e w6 ⟨rfl,tv6,x6,-,hx6,agx,Du⟩;have HN:=ab ((uh H5).next (uh HG5) agx Du);have HX6:=ab hx6;clear agx Du hx6 WO;go_wp2_with fail
         go_ret;exact uh R7 _ (by rw[uh HE];exact(uh HN).out (o:=⟨[aQ f],[aQ f],false,false,false⟩) (by simp[uh HX4]) (by simp[uh HX6]))
        .have z7:(z==7)=false:=(by rw[uh HZ];simp;omega);by_cases h1:n.op=1
         .have z1:z=1:=(by rw[uh HZ,h1];rfl);have HE:Hid (oR=⟨[aQ (setC f (1+n.v) (clT f n.ak n.ai))],[],false,false,false⟩):=ab (by rw[uh G0,if_neg h0,if_pos h1]);have xH:Hid (∀W':World,Below W2.heap.size W2 W'->Calls prog 236 #[.pointer (some ⟨A,0,none⟩),.agg #[.int .i64 (n.ak:Int),.int .i64 (n.ai:Int)]] W' λe w''=>e=.returned (.int .i64 (clT f n.ak n.ai:Nat))/\Below W2.heap.size W2 w''):=ab (λW' hb=>(rP ((uh HS).ff.below hb) n.ak n.ai hi).mono (λe w'' hw=>⟨hw.1,hb.trans (hw.2.mono hb.size)⟩));have HAS:Hid (∀W':World,Below W2.heap.size W2 W'->Calls prog 235 #[.pointer (some ⟨O,0,none⟩),.pointer (some ⟨A,0,none⟩),.int .i64 (n.v:Int),.int .i64 (clT f n.ak n.ai:Nat)] W' λe w''=>e=.returned (.tuple #[])/\pF W2 O oR w''/\Bk w'' X 186 [Value.int .i64 (n.op:Int),.int .i64 (n.v:Int),.int .i64 (n.ak:Int),.int .i64 (n.ai:Int),.int .i64 (n.nx:Int),.int .i64 (n.ot:Int)]):=ab (λW' hb=>(E8 ((uh HS).rebase hb) (uh HO) ha hv ((uh HO).cT _ _)).mono (λe w'' hw=>⟨hw.1,by rw[uh HE];exact hw.2.pre hb,by
           obtain⟨nv,tv,Ln,Lt,-,-,-,aP⟩:=hw.2;exact((uh HX).below hb).stp aP (by simpa using hXO)⟩))
          have Ey:=(uh HX).lt;obtain⟨cc,Xq⟩:∃cc,cc=clT f n.ak n.ai:=⟨_,rfl⟩;rw[<-Xq]at xH HAS;obtain⟨nv',UE⟩:∃q,q=n.v:=⟨_,rfl⟩;obtain⟨nk',PA⟩:∃q,q=n.ak:=⟨_,rfl⟩;obtain⟨ni',Pz⟩:∃q,q=n.ai:=⟨_,rfl⟩;rw[<-UE,<-PA,<-Pz]at HAS;rw[<-PA,<-Pz]at xH;rw[<-UE]at b1;rw[<-PA]at b2;rw[<-Pz]at b3;rw[<-UE,<-PA,<-Pz];subst z1;clear h0 h4 h5 h2 h3 h8 h9 h7 h1 z0 z4 z5 z2 z3 z8 z9 z7 Xq UE PA Pz;go_upto_region 7 with fail;go_region_held3 (λW=>W.cell? ⟨X,1,none⟩=some (.int .i64 (nv':Int))/\W.cell? ⟨X,2,none⟩=some (.int .i64 (nk':Int))/\W.cell? ⟨X,3,none⟩=some (.int .i64 (ni':Int))) (first|(simp only[cell?_drew,b1,b2,b3,and_self];done)|(simp only[q1,q2,q3,and_self];done)|(simp only[r1,r2,r3,and_self];done))
           (first
            |(go_at_call 235;refine(uh HAS _ (uh tA)).mono ?_;rintro e w4 ⟨rfl,hP,ZY⟩;have r1:=ZY.cell 1 rfl;have r2:=ZY.cell 2 rfl;have r3:=ZY.cell 3 rfl;have HP:=ab hP;clear hP ZY)
            |(go_at_call 236;refine(uh xH _ (Below.refl _ _).drew).mono ?_;rintro e w3 ⟨rfl,dx⟩;have q1:=(dx.cell Ey).trans b1;have q2:=(dx.cell Ey).trans b2;have q3:=(dx.cell Ey).trans b3;have tA:=ab dx;clear dx))
          go_wp2_with fail
          go_ret;exact uh R7 _ (uh HP)
         .have z1:(z==1)=false:=(by rw[uh HZ];simp;omega);have HE:Hid (oR=⟨[aQ f],[],false,false,false⟩):=ab (by rw[uh G0,if_neg h0,if_neg h1,if_neg h2,if_neg h3,if_neg h4,if_neg h5,if_neg h7,if_neg h8,if_neg h9]);have kX:=ab (cP (uh HS).ff (uh HO).c5 ha (zq3 iH (by omega)));clear h0 h4 h5 h2 h3 h8 h9 h7 h1;go_wp2_with fail
          refine(uh kX).mono ?_;rintro e w3 ⟨A3,rfl,Ci⟩;obtain⟨av3,ov3,m6⟩:=Ci.frf;have OO:=(uh HS).below m6.bw;have rK:=ab (iD OO.oo m6.fm (uh HO) (zq3 ha (by omega)) ((uh HS).fresh m6.ge) (by simp));have H3:=ab OO;have HG3:=ab m6.ge;clear Ci m6 OO kX;go_wp2_with fail
          refine(uh rK).mono ?_;rintro e w4 ⟨rfl,nv4,x4,-,hx4,PC,vZ⟩;have HN:=ab ((uh H3).next (uh HG3) PC vZ);have HX4:=ab hx4;clear PC vZ hx4 rK;go_wp2_with fail
          go_ret;exact uh R7 _ (by rw[uh HE];exact(uh HN).out (o:=⟨[aQ f],[],false,false,false⟩) (by simp[uh HX4]) rfl)
end
