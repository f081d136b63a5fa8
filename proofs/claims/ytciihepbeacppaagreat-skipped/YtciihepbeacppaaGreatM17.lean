import Derived.Test.YtciihepbeacppaaGreatM16
set_option maxRecDepth 100000
set_option maxHeartbeats 0
namespace Go.Proofs.YtciihepbeacppaaGreat
open Tryz Go.RowKit List World Below
set_option linter.unusedVariables false
theorem pG.pre{w W w':World}{O:Nat}{o:MX}(h:pG W O o w')(hb:Below w.heap.size w W):pG w O o w':=by
 obtain⟨nv,tv,Ln,Lt,h1,h2,h3,h4⟩:=h;refine⟨nv,tv,Ln,Lt,h1,h2,h3,⟨h4.os.trans hb.os,h4.tape.trans hb.tape,h4.output.trans hb.output,zq3 hb.size h4.size,λk hk hn=>(h4.block k (zq6 hk hb.size) hn).trans (hb.block k hk),λk hk=>?_⟩⟩;rcases h4.foot k hk with q|q
 .exact zq0 q
 .exact zq1 (zq3 hb.size q)
theorem Os.rebase{w W:World}{O A:Nat}{f:CF}{av ov:Value}(h:Os w w O A f av ov false false false dD dD [] [])(hb:Below w.heap.size w W):Os W W O A f av ov false false false dD dD [] [] :=
 Os.start (h.oo.below hb) (h.ff.below hb) rfl h.of
section
variable {w:World} {O A:Nat} {f:CF} {av ov:Value}
theorem Fx{n:Nd}(h:Os w w O A f av ov false false false dD dD [] [])(hO:aj f)(ha:f.ap.length<=40000)(hv:n.v<4)(hi:n.ai<4):
  Calls prog 237 #[.pointer (some ⟨O,0,none⟩),.pointer (some ⟨A,0,none⟩),SP n] w λe w'=>e=.returned (.tuple #[])/\pG w O (bR (c9 f n.ai) (λg=>fs g n)) w':=by
 have iJ:=hO.owLen;obtain⟨N,hN⟩:∃N,N=n:=⟨_,rfl⟩;obtain⟨op,v,ak,ai,nx,ot⟩:=n;simp only at hv hi;unfold SP;simp only;rw[<-hN];have hNv:N.v=v:=by rw[hN]
 have Sv:N.ai=ai:=by rw[hN]
 obtain⟨W1,d9⟩:∃W1,W1=w.alloc (.cells #[Value.int .i64 (op:Int),.int .i64 (v:Int),.int .i64 (ak:Int),.int .i64 (ai:Int),.int .i64 (nx:Int),.int .i64 (ot:Int)] 186):=⟨_,rfl⟩;have cf:Below w.heap.size w W1:=by rw[d9];exact ah w _
 have hX:Bk W1 w.heap.size 186 [Value.int .i64 (op:Int),.int .i64 (v:Int),.int .i64 (ak:Int),.int .i64 (ai:Int),.int .i64 (nx:Int),.int .i64 (ot:Int)]:=by rw[d9];exact Bk.new w _ _
 obtain⟨X,gW⟩:∃X,X=w.heap.size:=⟨_,rfl⟩;rw[<-gW]at hX;have hXO:X≠O:=by have:=h.ol;omega
 have uo:=h.rebase cf;have b3:=hX.cell 3 rfl;have mr:=ab (jX (N:=40000) hi hO ha);have B9:=ab (sE hi uo.oo.bk uo.ff hO ha uo.of);obtain⟨r,hr⟩:∃r,r=c9 f ai:=⟨_,rfl⟩;rw[<-hr]at B9 mr;have WL:Hid (r.1.length<=96):=ab (by rw[hr];exact uD hO ai);rw[<-hr];have H1:=ab uo;have HX:=ab hX;have HBX:=ab cf;have HNv:=ab hNv;have HNa:=ab Sv;clear h hO uo cf hX hr hN hNv Sv;go_enter func237,ntmps237;go_upto_region 1 with fail;rw[<-d9,<-gW];clear d9 gW;go_wp2_with fail
 refine(uh B9).mono ?_;rintro e w2 ⟨lv,L,rfl,jx,OM,Db,gT⟩;have Xi:=Lo.start (uh H1) jx (by simpa using Db) gT;obtain⟨la,lc,iw,-,-⟩:=am jx.row;subst iw;have WE:=ab OM;have hLL:L.length<=96:=by
  have h1:=congrArg List.length OM;rw[length_map]at h1;have:=uh WL;omega
 have cG:Hid (Lo W1 w2 O A f av ov r.2.1 r.2.2.1 r.2.2.2 dD [] W1.heap.size (.slice la L.length lc) L 0):=ab (by simpa using Xi);clear jx OM Db gT Xi B9 b3;obtain⟨B,hB⟩:∃B,B=W1.heap.size:=⟨_,rfl⟩;rw[<-hB]at cG;clear hB;go_wp2_with fail
 go_loopg [16] L.length (λgn iv wx=>∃(j:Nat) (nv:Value) (Ln:List FE),j+gn=L.length/\iv=.int .i64 j/\Ln.length=j/\Hid (Lo W1 wx O A f av ov r.2.1 r.2.2.1 r.2.2.2 nv Ln B (.slice la L.length lc) L j/\Ln.map (·.f)=(L.take j).map (λx=>aQ (fs x.f N))))
 case atStart=>exact⟨0,dD,[],by omega,rfl,rfl,ab ⟨uh cG,rfl⟩⟩
 case round =>
  clear cG;obtain⟨j,nv,Ln,Cs,rfl,ZM,hI⟩:=hrel;obtain⟨G,hG⟩:∃G,G=gk:=⟨_,rfl⟩;by_cases fU:j<L.length
  .have hd:decide ((j:Int)<(L.length:Int))=true:=(by simp;omega);obtain⟨g2,cap2,dc,ax⟩:=(uh hI).1.pe.cell fU;simp only[Value.slice.injEq,true_and]at dc;obtain⟨rfl,rfl⟩:=dc;obtain⟨hx,-,-,-,-⟩:=(uh hI).1.pe.next fU;have bn:=uh mr L[j].f (by rw[<-uh WE];exact mem_map_of_mem (getElem_mem fU));have Uy:=(uh HX).stp (uh hI).1.os.st (by simpa using hXO);have b1:=Uy.cell 1 rfl;have b3:=Uy.cell 3 rfl;have rJ:(L.take (j+1)).map (λx=>aQ (fs x.f N))=(L.take j).map (λx=>aQ (fs x.f N))++[aQ (fs L[j].f N)]:=by
    rw[take_add_one,getElem?_eq_getElem fU,map_append];rfl
   have uY:Hid (∀(x':FE) (W':World),ar L[j].bs wr x'.bs W'->_):=ab (λx' W' hs=>(uh hI).1.mid (x':=x') fU hs);obtain⟨x,tR⟩:∃x,x=L[j]:=⟨_,rfl⟩;rw[<-tR]at ax hx bn rJ uY;obtain⟨i',lS⟩:=Option.isSome_iff_exists.1 bn.bg;obtain⟨ur,-⟩:=eU lS;have xc:=hx.is.cls (i:=1+ai) (by omega);have xv:=hx.is.cls (i:=1+v) (by omega);have zv:=ownsRow.frozenAt hx.is.ob (1+v);unfold hU at xc;obtain⟨xa,xf,xav,xov⟩:=x;simp only at ax hx bn rJ lS ur xc xv zv;obtain⟨oa,oc,gy,-,-⟩:=am hx.is.ow;subst gy;have c6:=hx.is.c6;obtain⟨go,gc,oW,-,-⟩:=aE hx.is.ow ur;simp only[Value.slice.injEq,true_and]at oW;obtain⟨rfl,rfl⟩:=oW;obtain⟨-,-,y2⟩:=aB hx.is.ow ur;obtain⟨rr,Lc⟩:∃rr,rr=(xf.ow.getD i' ay).r:=⟨_,rfl⟩;rw[<-Lc]at y2;obtain⟨cx,xR⟩:∃cx,cx=xf.cl.getD (1+ai) 0:=⟨_,rfl⟩;rw[<-xR]at xc;have mR:Hid (∀m:Nat,Calls prog 208 #[.pointer (some ⟨xa,0,none⟩),.int .i64 cx] (wr.drewN m) λe w''=>e=.returned (.int .i64 (i':Int))/\∃q,w''=wr.drewN q):=ab (λm=>(cP (w:=wr.drewN m) cx (hx.is.of_eq (λ_ _=>rfl))).mono (λe w'' hw=>by
    have h1:=hw.1;rw[xR,lS]at h1;exact⟨h1,m,hw.2⟩))
   have hfg:setC xf (1+v) rr=fs xf N:=by
    unfold fs;rw[uh HNv,uh HNa];show setC xf (1+v) rr=setC xf (1+v) (owA xf (qp xf (xf.cl.getD (1+ai) 0))).r;unfold qp;rw[lS,Lc];rfl
   have pq:=hx.setCl (1+v) rr (by omega);have bZ:ar (aG xa xav (.slice (some ⟨go,0,none⟩) xf.ow.length oc)) wr (aG xa xav (.slice (some ⟨go,0,none⟩) xf.ow.length oc)) (wr.setCell ⟨xa,1+v,none⟩ (.int .i64 (rr:Int))):=(ar.refl _ _).setCell (p:=⟨xa,1+v,none⟩) (zq0 (by simp[aG])) _;have ya:=ab pq;have dh:=ab bZ;have LY:=ab hfg;have yd:=ab rJ;have sj:=Ax (n:=N) (by rw[uh HNa];exact bn);have Yp:=ab sj;have rM:Hid (∀W':World,Fm W' xa (fs xf N) xav (.slice (some ⟨go,0,none⟩) xf.ow.length oc)->ar (aG xa xav (.slice (some ⟨go,0,none⟩) xf.ow.length oc)) wr (aG xa xav (.slice (some ⟨go,0,none⟩) xf.ow.length oc)) W'->Calls prog 242 #[.pointer (some ⟨O,0,none⟩),.pointer (some ⟨xa,0,none⟩)] W' λe w''=>e=.returned (.tuple #[])/\∃nv' y,y.f=aQ (fs xf N)/\Lo W1 w'' O A f av ov r.2.1 r.2.2.1 r.2.2.2 nv' (Ln++[y]) B (.slice (some ⟨g2,0,none⟩) L.length lc) L (j+1)):=ab (λW' hf hs=>by
    have hwB:=(uh hI).1.wB;obtain⟨m1,m2,m3,m4,m5⟩:=uh uY ⟨xa,fs xf N,xav,.slice (some ⟨go,0,none⟩) xf.ow.length oc⟩ W' hs;refine(iF m1.oo hf sj.1 (zq3 sj.2 (by omega)) m2 (by omega)).mono ?_;rintro e w'' ⟨rfl,nv',y,-,hy,tO,aP⟩;exact⟨rfl,nv',y,hy,Lo.fin m1 m3 m4 m5 hwB tO aP⟩)
   have AQ:(FE.p ⟨xa,xf,xav,.slice (some ⟨go,0,none⟩) xf.ow.length oc⟩)=.pointer (some ⟨xa,0,none⟩):=rfl;rw[AQ]at ax;have i1:(0:Int)<=1+(ai:Int):=(by omega);have i2:1+(ai:Int)<5:=(by omega);have i3:(1+(ai:Int)).toNat=1+ai:=(by omega);have i4:(0:Int)<=1+(v:Int):=(by omega);have i5:1+(v:Int)<5:=(by omega);have i6:(1+(v:Int)).toNat=1+v:=(by omega);have i7:(0:Int)<=(j:Int):=(by omega);have i8:(j:Int)<(L.length:Int):=(by omega);have i9:(0:Int)<=(i':Int):=(by omega);have ia:(i':Int)<(xf.ow.length:Int):=(by omega);have WC:Hid (Ln.map (·.f)=(L.take j).map (λx=>aQ (fs x.f N))):=ab (uh hI).2;have HwB:=ab (uh hI).1.wB;clear hx bn rJ Uy Lc xR hfg pq bZ sj AQ tR lS hI;go_wp2_with fail
   go_quiet ((go_at_call 208;exact uh mR _))
   go_wp2_with fail
   go_region
   go_wp2_with fail
   refine(uh rM ((wr.drewN (nq+1)).setCell ⟨xa,1+v,none⟩ (.int .i64 (rr:Int))) (by rw[<-uh LY];exact(uh ya).of_eq (λ_ _=>rfl)) ⟨(uh dh).os,(uh dh).tape,(uh dh).output,(uh dh).size,(uh dh).block,(uh dh).foot⟩).mono ?_;rintro e w5 ⟨rfl,nv5,y5,hy5,ON⟩;have HN:Hid (Lo W1 w5 O A f av ov r.2.1 r.2.2.1 r.2.2.2 nv5 (Ln++[y5]) B (.slice (some ⟨g2,0,none⟩) L.length lc) L (j+1)/\(Ln++[y5]).map (·.f)=(L.take (j+1)).map (λx=>aQ (fs x.f N))):=ab ⟨ON,by rw[uh yd,map_append,uh WC];simp[hy5]⟩;have XB:(Ln++[y5]).length=j+1:=(by rw[length_append,length_singleton,ZM]);have Yu:=ab XB;clear hy5 ON XB rM ya dh LY yd Yp WC uY;go_wp2_with fail
   go_roundg (G-1)
   case rel=>exact⟨j+1,nv5,Ln++[y5],by omega,by go_num,uh Yu,HN⟩
   case measure=>omega
  .have hd:decide ((j:Int)<(L.length:Int))=false:=(by simp;omega);have hN:Ln.map (·.f)=r.1.map (λg=>aQ (fs g N)):=by
    rw[(uh hI).2,take_of_length_le (by omega),<-uh WE,map_map];rfl
   have uZ:=ab hN;clear hN;go_wp2_with fail
   go_end0
   exact⟨rfl,((uh hI).1.os.out (o:=bR r (λg=>fs g N)) (uh uZ) rfl).pre (uh HBX)⟩
end
section
variable {w:World} {O A:Nat} {f:CF} {av ov:Value}
theorem P6{n:Nd}(h:Os w w O A f av ov false false false dD dD [] [])(hO:aj f)(ha:f.ap.length<=40000)(hv:n.v<4)(hi:n.ai<4):
  Calls prog 238 #[.pointer (some ⟨O,0,none⟩),.pointer (some ⟨A,0,none⟩),SP n] w λe w'=>e=.returned (.tuple #[])/\pG w O (bR (c9 f n.v) (λg=>ny g n)) w':=by
 have iJ:=hO.owLen;obtain⟨N,hN⟩:∃N,N=n:=⟨_,rfl⟩;obtain⟨op,v,ak,ai,nx,ot⟩:=n;simp only at hv hi;unfold SP;simp only;rw[<-hN];have hNv:N.v=v:=by rw[hN]
 have Sv:N.ai=ai:=by rw[hN]
 have hNk:N.ak=ak:=by rw[hN]
 obtain⟨W1,d9⟩:∃W1,W1=w.alloc (.cells #[Value.int .i64 (op:Int),.int .i64 (v:Int),.int .i64 (ak:Int),.int .i64 (ai:Int),.int .i64 (nx:Int),.int .i64 (ot:Int)] 186):=⟨_,rfl⟩;have cf:Below w.heap.size w W1:=by rw[d9];exact ah w _
 have hX:Bk W1 w.heap.size 186 [Value.int .i64 (op:Int),.int .i64 (v:Int),.int .i64 (ak:Int),.int .i64 (ai:Int),.int .i64 (nx:Int),.int .i64 (ot:Int)]:=by rw[d9];exact Bk.new w _ _
 obtain⟨X,gW⟩:∃X,X=w.heap.size:=⟨_,rfl⟩;rw[<-gW]at hX;have hXO:X≠O:=by have:=h.ol;omega
 have uo:=h.rebase cf;have b1:=hX.cell 1 rfl;have mr:=ab (jX (N:=40000) hv hO ha);have B9:=ab (sE hv uo.oo.bk uo.ff hO ha uo.of);obtain⟨r,hr⟩:∃r,r=c9 f v:=⟨_,rfl⟩;rw[<-hr]at B9 mr;have WL:Hid (r.1.length<=96):=ab (by rw[hr];exact uD hO v);rw[<-hr];have H1:=ab uo;have HX:=ab hX;have HBX:=ab cf;have HNv:=ab hNv;have HNa:=ab Sv;have HNk:=ab hNk;clear h hO uo cf hX hr hN hNv Sv hNk;go_enter func238,ntmps238;go_upto_region 1 with fail;rw[<-d9,<-gW];clear d9 gW;go_wp2_with fail
 refine(uh B9).mono ?_;rintro e w2 ⟨lv,L,rfl,jx,OM,Db,gT⟩;have Xi:=Lo.start (uh H1) jx (by simpa using Db) gT;obtain⟨la,lc,iw,-,-⟩:=am jx.row;subst iw;have WE:=ab OM;have hLL:L.length<=96:=by
  have h1:=congrArg List.length OM;rw[length_map]at h1;have:=uh WL;omega
 have cG:Hid (Lo W1 w2 O A f av ov r.2.1 r.2.2.1 r.2.2.2 dD [] W1.heap.size (.slice la L.length lc) L 0):=ab (by simpa using Xi);clear jx OM Db gT Xi B9 b1;obtain⟨B,hB⟩:∃B,B=W1.heap.size:=⟨_,rfl⟩;rw[<-hB]at cG;clear hB;go_wp2_with fail
 go_loopg [15] L.length (λgn iv wx=>∃(j:Nat) (nv:Value) (Ln:List FE),j+gn=L.length/\iv=.int .i64 j/\Ln.length=j/\Hid (Lo W1 wx O A f av ov r.2.1 r.2.2.1 r.2.2.2 nv Ln B (.slice la L.length lc) L j/\Ln.map (·.f)=(L.take j).map (λx=>aQ (ny x.f N))))
 case atStart=>exact⟨0,dD,[],by omega,rfl,rfl,ab ⟨uh cG,rfl⟩⟩
 case round =>
  clear cG;obtain⟨j,nv,Ln,Cs,rfl,ZM,hI⟩:=hrel;obtain⟨G,hG⟩:∃G,G=gk:=⟨_,rfl⟩;by_cases fU:j<L.length
  .have hd:decide ((j:Int)<(L.length:Int))=true:=(by simp;omega);obtain⟨g2,cap2,dc,ax⟩:=(uh hI).1.pe.cell fU;simp only[Value.slice.injEq,true_and]at dc;obtain⟨rfl,rfl⟩:=dc;obtain⟨hx,-,-,-,-⟩:=(uh hI).1.pe.next fU;have bn:=uh mr L[j].f (by rw[<-uh WE];exact mem_map_of_mem (getElem_mem fU));have Uy:=(uh HX).stp (uh hI).1.os.st (by simpa using hXO);have b1:=Uy.cell 1 rfl;have b2:=Uy.cell 2 rfl;have b3:=Uy.cell 3 rfl;have rJ:(L.take (j+1)).map (λx=>aQ (ny x.f N))=(L.take j).map (λx=>aQ (ny x.f N))++[aQ (ny L[j].f N)]:=by
    rw[take_add_one,getElem?_eq_getElem fU,map_append];rfl
   have uY:Hid (∀(x':FE) (W':World),ar L[j].bs wr x'.bs W'->_):=ab (λx' W' hs=>(uh hI).1.mid (x':=x') fU hs);obtain⟨x,tR⟩:∃x,x=L[j]:=⟨_,rfl⟩;rw[<-tR]at ax hx bn rJ uY;obtain⟨i',lS⟩:=Option.isSome_iff_exists.1 bn.bg;obtain⟨ur,-⟩:=eU lS;have xc:=hx.is.cls (i:=1+v) (by omega);unfold hU at xc;obtain⟨xa,xf,xav,xov⟩:=x;simp only at ax hx bn rJ lS ur xc;obtain⟨oa,oc,gy,-,-⟩:=am hx.is.ow;subst gy;have c6:=hx.is.c6;obtain⟨go,gc,oW,-,-⟩:=aE hx.is.ow ur;simp only[Value.slice.injEq,true_and]at oW;obtain⟨rfl,rfl⟩:=oW;obtain⟨-,-,y2⟩:=aB hx.is.ow ur;obtain⟨cx,xR⟩:∃cx,cx=xf.cl.getD (1+v) 0:=⟨_,rfl⟩;rw[<-xR]at xc;have mR:Hid (∀m:Nat,Calls prog 208 #[.pointer (some ⟨xa,0,none⟩),.int .i64 cx] (wr.drewN m) λe w''=>e=.returned (.int .i64 (i':Int))/\∃q,w''=wr.drewN q):=ab (λm=>(cP (w:=wr.drewN m) cx (hx.is.of_eq (λ_ _=>rfl))).mono (λe w'' hw=>by
    have h1:=hw.1;rw[xR,lS]at h1;exact⟨h1,m,hw.2⟩))
   obtain⟨b,hbE⟩:∃b,b=clT xf ak ai:=⟨_,rfl⟩;have hfg:setO xf i' ⟨(owA xf i').k,(owA xf i').l,b⟩=ny xf N:=by
    unfold ny;rw[uh HNv,uh HNa,uh HNk];unfold qp;rw[lS,hbE];rfl
   have HPO:Hid (∀W':World,Below wr.heap.size wr W'->Fm W' xa xf xav (.slice (some ⟨go,0,none⟩) xf.ow.length oc)):=ab (λW' hb=>hx.below hb);have nZ:=(hx.is.ow.lt go rfl).2;have SN:=hx.lt xa (by simp[aG]);have EA:=Uy.lt;have hgx:go≠xa:=λe=>hx.nds.2.1 (by rw[e];rfl);have hgX:go≠X:=λe=>by
    have h1:=(uh hI).1.pe.next fU;have h2:=h1.2.1 go (by rw[<-tR];simp[FE.bs,aG,Value.ownBlock]);have h3:=(uh HX).lt;have h4:=(uh hI).1.wB;omega
   have LY:=ab hfg;have EX:=ab hbE;have yd:=ab rJ;have sj:=Gn (n:=N) (by rw[uh HNv];exact bn);have Yp:=ab sj;have rM:Hid (∀W':World,Fm W' xa (ny xf N) xav (.slice (some ⟨go,0,none⟩) xf.ow.length oc)->ar (aG xa xav (.slice (some ⟨go,0,none⟩) xf.ow.length oc)) wr (aG xa xav (.slice (some ⟨go,0,none⟩) xf.ow.length oc)) W'->Calls prog 242 #[.pointer (some ⟨O,0,none⟩),.pointer (some ⟨xa,0,none⟩)] W' λe w''=>e=.returned (.tuple #[])/\∃nv' y,y.f=aQ (ny xf N)/\Lo W1 w'' O A f av ov r.2.1 r.2.2.1 r.2.2.2 nv' (Ln++[y]) B (.slice (some ⟨g2,0,none⟩) L.length lc) L (j+1)):=ab (λW' hf hs=>by
    have hwB:=(uh hI).1.wB;obtain⟨m1,m2,m3,m4,m5⟩:=uh uY ⟨xa,ny xf N,xav,.slice (some ⟨go,0,none⟩) xf.ow.length oc⟩ W' hs;refine(iF m1.oo hf sj.1 (zq3 sj.2 (by omega)) m2 (by omega)).mono ?_;rintro e w'' ⟨rfl,nv',y,-,hy,tO,aP⟩;exact⟨rfl,nv',y,hy,Lo.fin m1 m3 m4 m5 hwB tO aP⟩)
   have AQ:(FE.p ⟨xa,xf,xav,.slice (some ⟨go,0,none⟩) xf.ow.length oc⟩)=.pointer (some ⟨xa,0,none⟩):=rfl;rw[AQ]at ax;have i1:(0:Int)<=1+(ai:Int):=(by omega);have i2:1+(ai:Int)<5:=(by omega);have i3:(1+(ai:Int)).toNat=1+ai:=(by omega);have i4:(0:Int)<=1+(v:Int):=(by omega);have i5:1+(v:Int)<5:=(by omega);have i6:(1+(v:Int)).toNat=1+v:=(by omega);have i7:(0:Int)<=(j:Int):=(by omega);have i8:(j:Int)<(L.length:Int):=(by omega);have i9:(0:Int)<=(i':Int):=(by omega);have ia:(i':Int)<(xf.ow.length:Int):=(by omega);have WC:Hid (Ln.map (·.f)=(L.take j).map (λx=>aQ (ny x.f N))):=ab (uh hI).2;have HwB:=ab (uh hI).1.wB;clear hx bn rJ Uy xR hfg sj AQ tR lS hI hbE;go_wp2_with fail
   go_quiet ((go_at_call 208;exact uh mR _))
   obtain⟨W4,yj⟩:∃W4,W4=wr.drewN nq:=⟨_,rfl⟩;rw[<-yj];have nV:Below wr.heap.size wr W4:=(by rw[yj];exact dK wr nq);have p6:=(nV.cell SN).trans c6;have p2:=(nV.cell EA).trans b2;have p3:=(nV.cell EA).trans b3;have zW:=ab nV;have xK:Hid (∀W':World,Below wr.heap.size wr W'->Calls prog 236 #[.pointer (some ⟨xa,0,none⟩),.agg #[.int .i64 (ak:Int),.int .i64 (ai:Int)]] W' λe w''=>e=.returned (.int .i64 (b:Int))/\Below wr.heap.size wr w''):=ab (λW' hb=>(rR (uh HPO W' hb).is ak ai hi).mono (λe w'' hw=>⟨by rw[uh EX];exact hw.1,hb.trans (hw.2.mono hb.size)⟩));clear yj nV;have alt:¬ (go=xa):=hgx;have hgX':¬ (go=X):=hgX;have ass:¬ (xa=go):=λe=>hgx e.symm;have arh:¬ (X=go):=λe=>hgX e.symm;go_wp2_with fail
   go_region_held3 (λW=>W.cell? ⟨xa,6,none⟩=some (.slice (some ⟨go,0,none⟩) xf.ow.length oc)/\W.cell? ⟨X,2,none⟩=some (.int .i64 (ak:Int))/\W.cell? ⟨X,3,none⟩=some (.int .i64 (ai:Int))) (first|(simp only[cell?_drew,p6,p2,p3,and_self];done)|(simp only[q6,q2,q3,and_self];done)|(simp[cell?_setCell_far,q6,q2,q3,alt,hgX'];done))
    (first
     |(go_at_call 236;refine(uh xK _ (by first|exact(uh zW).drew|exact uh zW)).mono ?_;rintro e w6 ⟨rfl,kU⟩;have q6:=(kU.cell SN).trans c6;have q2:=(kU.cell EA).trans b2;have q3:=(kU.cell EA).trans b3;have Ul:=uh HPO w6 kU;have y6:=(kU.cell nZ).trans y2;have z6:=Ul.is.ow.frozenAt (i'*3+2);have x9:=ab kU;have HF6:=ab Ul;clear kU Ul))
   have HPU:=ab (Fm.putO (uh HF6) ur b);go_wp2_with fail
   refine(uh rM (w6.setCell ⟨go,i'*3+2,none⟩ (.int .i64 (b:Int))) (by rw[<-uh LY];exact(uh HPU).1) ((ar.ofBw (F:=aG xa xav (.slice (some ⟨go,0,none⟩) xf.ow.length oc)) (uh x9)).trans (uh HPU).2.1)).mono ?_;rintro e w5 ⟨rfl,nv5,y5,hy5,ON⟩;have HN:Hid (Lo W1 w5 O A f av ov r.2.1 r.2.2.1 r.2.2.2 nv5 (Ln++[y5]) B (.slice (some ⟨g2,0,none⟩) L.length lc) L (j+1)/\(Ln++[y5]).map (·.f)=(L.take (j+1)).map (λx=>aQ (ny x.f N))):=ab ⟨ON,by rw[uh yd,map_append,uh WC];simp[hy5]⟩;have XB:(Ln++[y5]).length=j+1:=(by rw[length_append,length_singleton,ZM]);have Yu:=ab XB;clear hy5 ON XB rM LY yd Yp WC uY HPO xK zW x9 HF6 HPU;go_wp2_with fail
   go_roundg (G-1)
   case rel=>exact⟨j+1,nv5,Ln++[y5],by omega,by go_num,uh Yu,HN⟩
   case measure=>omega
  .have hd:decide ((j:Int)<(L.length:Int))=false:=(by simp;omega);have hN:Ln.map (·.f)=r.1.map (λg=>aQ (ny g N)):=by
    rw[(uh hI).2,take_of_length_le (by omega),<-uh WE,map_map];rfl
   have uZ:=ab hN;clear hN;go_wp2_with fail
   go_end0
   exact⟨rfl,((uh hI).1.os.out (o:=bR r (λg=>ny g N)) (uh uZ) rfl).pre (uh HBX)⟩
end
theorem Jp:∀(l:List Pr) {g:CF} {c:Nat},(l.foldl (λh p=>cg h c p.l) g).ap.length=g.ap.length+l.length
 |[],_,_=>rfl
 |p::r,g,c=>by
  rw[foldl_cons,Jp r (g:=cg g c p.l),length_cons];show(g.ap++[_]).length+_=_;rw[length_append,length_singleton];omega
section
variable {w:World} {O A:Nat} {f:CF} {av ov:Value}
theorem OA{v:Nat}(h:Os w w O A f av ov false false false dD dD [] [])(hO:aj f)(ha:f.ap.length<=40000)(hv:v<4):
  Calls prog 240 #[.pointer (some ⟨O,0,none⟩),.pointer (some ⟨A,0,none⟩),.int .i64 v] w λe w'=>e=.returned (.tuple #[])/\pG w O (bR (c9 f v) (λg=>l9 g v)) w':=by
 have iJ:=hO.owLen;have mr:=ab (jX (N:=40000) hv hO ha);have B9:=ab (sE hv h.oo.bk h.ff hO ha h.of);obtain⟨r,hr⟩:∃r,r=c9 f v:=⟨_,rfl⟩;rw[<-hr]at B9 mr;have WL:Hid (r.1.length<=96):=ab (by rw[hr];exact uD hO v);rw[<-hr];have H1:=ab h;have i1:(0:Int)<=1+(v:Int):=by omega
 have i2:1+(v:Int)<5:=by omega
 have i3:(1+(v:Int)).toNat=1+v:=by omega
 clear h hO hr;go_enter func240,ntmps240;go_wp2_with fail
 refine(uh B9).mono ?_;rintro e w2 ⟨lv,L,rfl,jx,OM,Db,gT⟩;have Xi:=Lo.start (uh H1) jx (by simpa using Db) gT;obtain⟨la,lc,iw,-,-⟩:=am jx.row;subst iw;have WE:=ab OM;have hLL:L.length<=96:=by
  have h1:=congrArg List.length OM;rw[length_map]at h1;have:=uh WL;omega
 have cG:Hid (Lo w w2 O A f av ov r.2.1 r.2.2.1 r.2.2.2 dD [] w.heap.size (.slice la L.length lc) L 0):=ab (by simpa using Xi);clear jx OM Db gT Xi B9;obtain⟨B,hB⟩:∃B,B=w.heap.size:=⟨_,rfl⟩;rw[<-hB]at cG;clear hB;go_wp2_with fail
 go_loopg [17] L.length (λgn iv wx=>∃(j:Nat) (nv:Value) (Ln:List FE),j+gn=L.length/\iv=.int .i64 j/\Ln.length=j/\Hid (Lo w wx O A f av ov r.2.1 r.2.2.1 r.2.2.2 nv Ln B (.slice la L.length lc) L j/\Ln.map (·.f)=(L.take j).map (λx=>aQ (l9 x.f v))))
 case atStart=>exact⟨0,dD,[],by omega,rfl,rfl,ab ⟨uh cG,rfl⟩⟩
 case round =>
  clear cG;obtain⟨j,nv,Ln,Cs,rfl,ZM,hI⟩:=hrel;obtain⟨G,hG⟩:∃G,G=gk:=⟨_,rfl⟩;by_cases fU:j<L.length
  .have hd:decide ((j:Int)<(L.length:Int))=true:=(by simp;omega);obtain⟨g2,cap2,dc,ax⟩:=(uh hI).1.pe.cell fU;simp only[Value.slice.injEq,true_and]at dc;obtain⟨rfl,rfl⟩:=dc;obtain⟨hx,-,-,-,-⟩:=(uh hI).1.pe.next fU;have bn:=uh mr L[j].f (by rw[<-uh WE];exact mem_map_of_mem (getElem_mem fU));have rJ:(L.take (j+1)).map (λx=>aQ (l9 x.f v))=(L.take j).map (λx=>aQ (l9 x.f v))++[aQ (l9 L[j].f v)]:=by
    rw[take_add_one,getElem?_eq_getElem fU,map_append];rfl
   have uY:Hid (∀(x':FE) (W':World),ar L[j].bs wr x'.bs W'->_):=ab (λx' W' hs=>(uh hI).1.mid (x':=x') fU hs);obtain⟨x,tR⟩:∃x,x=L[j]:=⟨_,rfl⟩;rw[<-tR]at ax hx bn rJ uY;obtain⟨i',lS⟩:=Option.isSome_iff_exists.1 bn.bg;obtain⟨ur,-⟩:=eU lS;obtain⟨xa,xf,xav,xov⟩:=x;simp only at ax hx bn rJ lS ur;have xc:=hx.is.cls (i:=1+v) (by omega);unfold hU at xc;have hfrE:l9 xf v=(gZ xf i').ow.foldl (λh p=>cg h (xf.cl.getD (1+v) 0) p.l) (cg (gZ xf i') (xf.cl.getD (1+v) 0) ((gZ xf i').cl.getD 0 0)):=by
    have e:qp xf (xf.cl.getD (1+v) 0)=i':=(by unfold qp;rw[lS];rfl);show(gZ xf (qp xf (xf.cl.getD (1+v) 0))).ow.foldl _ (cg (gZ xf (qp xf (xf.cl.getD (1+v) 0))) _ _)=_;rw[e]
   obtain⟨cx,xR⟩:∃cx,cx=xf.cl.getD (1+v) 0:=⟨_,rfl⟩;rw[<-xR]at xc lS hfrE;have ams:=bn.ok.owLen;have mR:=ab (cP cx hx.is);rw[lS,show fV (some i')=(i':Int) from rfl]at mR;have HTA:=ab (zg hx (zq3 ams (by omega)) i');have sj:=r7 bn;have rM:Hid (∀(W':World) (av' ov':Value),Fm W' xa (l9 xf v) av' ov'->ar (aG xa xav xov) wr (aG xa av' ov') W'->Calls prog 242 #[.pointer (some ⟨O,0,none⟩),.pointer (some ⟨xa,0,none⟩)] W' λe w''=>e=.returned (.tuple #[])/\∃nv' y,y.f=aQ (l9 xf v)/\Lo w w'' O A f av ov r.2.1 r.2.2.1 r.2.2.2 nv' (Ln++[y]) B (.slice (some ⟨g2,0,none⟩) L.length lc) L (j+1)):=ab (λW' av' ov' hf hs=>by
    have hwB:=(uh hI).1.wB;obtain⟨m1,m2,m3,m4,m5⟩:=uh uY ⟨xa,l9 xf v,av',ov'⟩ W' hs;refine(iF m1.oo hf sj.1 (zq3 sj.2 (by omega)) m2 (by omega)).mono ?_;rintro e w'' ⟨rfl,nv',y,-,hy,tO,aP⟩;exact⟨rfl,nv',y,hy,Lo.fin m1 m3 m4 m5 hwB tO aP⟩)
   have AQ:(FE.p ⟨xa,xf,xav,xov⟩)=.pointer (some ⟨xa,0,none⟩):=rfl;rw[AQ]at ax;have asr:=bn.ln;have htl:(gZ xf i').ow.length<=24:=(bn.ok.tk i').owLen;have Le:(gZ xf i').ap.length<=40000:=bn.ln;have yd:=ab rJ;have HFE:=ab hfrE;have WC:Hid (Ln.map (·.f)=(L.take j).map (λx=>aQ (l9 x.f v))):=ab (uh hI).2;have i7:(0:Int)<=(j:Int):=(by omega);have i8:(j:Int)<(L.length:Int):=(by omega);clear hx bn rJ xR hfrE sj AQ tR lS hI;go_wp2_with fail
   refine(uh mR).mono ?_;rintro e w3 ⟨rfl,rfl⟩;go_wp2_with fail
   refine(uh HTA).mono ?_;rintro e w4 ⟨rfl,ov4,se,fE⟩;obtain⟨T,hT⟩:∃T,T=gZ xf i':=⟨_,rfl⟩;have ZE:Fm w4 xa T xav ov4:=(by rw[hT];exact se);rw[<-hT]at HFE htl Le;have x0:=ZE.is.cls (i:=0) (by omega);unfold hU at x0;obtain⟨n0,sl⟩:∃n0,n0=T.cl.getD 0 0:=⟨_,rfl⟩;rw[<-sl]at x0 HFE;have WG:=ab (rh ZE cx n0 (zq3 Le (by omega)));have mF:=ab fE;clear se ZE fE sl hT HTA mR xc ax;go_wp2_with fail
   refine(uh WG).mono ?_;rintro e w5 ⟨rfl,av5,C4,gh⟩;have c6:=C4.is.c6;obtain⟨oa,oc,gy,-,-⟩:=am C4.is.ow;have Ds:ov4=.slice oa T.ow.length oc:=gy;subst Ds;have oP:Hid (Fm w5 xa ((T.ow.take 0).foldl (λh p=>cg h cx p.l) (cg T cx n0)) av5 (.slice oa T.ow.length oc)/\ar (aG xa xav xov) w3 (aG xa av5 (.slice oa T.ow.length oc)) w5):=ab ⟨C4,(uh mF).trans gh⟩;clear C4 gh WG x0 gy;go_wp2_with fail
   go_loopg [47] T.ow.length (λgn iv wx=>∃(m:Nat) (av6:Value),m+gn=T.ow.length/\iv=.int .i64 m/\Hid (Fm wx xa ((T.ow.take m).foldl (λh p=>cg h cx p.l) (cg T cx n0)) av6 (.slice oa T.ow.length oc)/\ar (aG xa xav xov) w3 (aG xa av6 (.slice oa T.ow.length oc)) wx))
   case atStart=>exact⟨0,av5,by omega,rfl,oP⟩
   case round =>
    clear oP c6;obtain⟨m,av6,hmn,rfl,hJ⟩:=hrel;obtain⟨G2,FD⟩:∃G2,G2=gk:=⟨_,rfl⟩;have howE:((T.ow.take m).foldl (λh p=>cg h cx p.l) (cg T cx n0)).ow=T.ow:=BC _;have hapE:((T.ow.take m).foldl (λh p=>cg h cx p.l) (cg T cx n0)).ap.length<=100000:=by
     rw[Jp];show(T.ap++[_]).length+(T.ow.take m).length<=_;rw[length_append,length_singleton,length_take];omega
    by_cases fJ:m<T.ow.length
    .have k6:decide ((m:Int)<(T.ow.length:Int))=true:=(by simp;omega);have bq:wr.ownsRow 0 182 3 (.slice oa T.ow.length oc) T.ow.length (af T.ow):=by
      have:=(uh hJ).1.is.ow;rwa [howE]at this
     obtain⟨go,gc,oW,-,-⟩:=aE bq fJ;simp only[Value.slice.injEq,true_and]at oW;obtain⟨rfl,rfl⟩:=oW;obtain⟨y0,y1,y2⟩:=aB bq fJ;have qq:=jK (g:=λh p=>cg h cx p.l) (a:=cg T cx n0) fJ;obtain⟨p,hp⟩:∃p,p=T.ow.getD m ay:=⟨_,rfl⟩;rw[<-hp]at y0 y1 y2 qq;obtain⟨W1,d9⟩:∃W1,W1=wr.alloc (.cells #[Value.int .i64 p.k,.int .i64 p.l,.int .i64 p.r] 182):=⟨_,rfl⟩;have cf:Below wr.heap.size wr W1:=(by rw[d9];exact ah wr _);have m0:Bk W1 wr.heap.size 182 [Value.int .i64 p.k,.int .i64 p.l,.int .i64 p.r]:=(by rw[d9];exact Bk.new wr _ _);obtain⟨X,gW⟩:∃X,X=wr.heap.size:=⟨_,rfl⟩;rw[<-gW]at m0;have b1:=m0.cell 1 rfl;have WH:=ab (rh ((uh hJ).1.below cf) cx p.l hapE);have HSB:=ab ((uh hJ).2.trans (ar.ofBw cf));have ajB:=ab qq;have k1:(0:Int)<=(m:Int):=(by omega);have k2:(m:Int)<(T.ow.length:Int):=(by omega);clear bq qq hp cf m0 hJ howE hapE;go_upto_region 10 with fail;rw[<-d9,<-gW];clear d9 gW;go_wp2_with fail
     refine(uh WH).mono ?_;rintro e w7 ⟨rfl,av7,Um,Ez⟩;have HN:Hid (Fm w7 xa ((T.ow.take (m+1)).foldl (λh p=>cg h cx p.l) (cg T cx n0)) av7 (.slice (some ⟨go,0,none⟩) T.ow.length oc)/\ar (aG xa xav xov) w3 (aG xa av7 (.slice (some ⟨go,0,none⟩) T.ow.length oc)) w7):=ab ⟨by rw[uh ajB];exact Um,(uh HSB).trans Ez⟩;clear Um Ez WH HSB;go_wp2_with fail
     go_roundg (G2-1)
     case rel=>exact⟨m+1,av7,by omega,by go_num,HN⟩
     case measure=>omega
    .have k6:decide ((m:Int)<(T.ow.length:Int))=false:=(by simp;omega);have hfe:(T.ow.take m).foldl (λh p=>cg h cx p.l) (cg T cx n0)=l9 xf v:=(by rw[take_of_length_le (by omega)];exact(uh HFE).symm);rw[hfe]at hJ;clear hfe howE hapE;go_wp2_with fail
     refine(uh rM _ _ _ (uh hJ).1 (uh hJ).2).mono ?_;rintro e w8 ⟨rfl,nv8,y8,hy8,afa⟩;have HN:Hid (Lo w w8 O A f av ov r.2.1 r.2.2.1 r.2.2.2 nv8 (Ln++[y8]) B (.slice (some ⟨g2,0,none⟩) L.length lc) L (j+1)/\(Ln++[y8]).map (·.f)=(L.take (j+1)).map (λx=>aQ (l9 x.f v))):=ab ⟨afa,by rw[uh yd,map_append,uh WC];simp[hy8]⟩;have hl8:(Ln++[y8]).length=j+1:=(by rw[length_append,length_singleton,ZM]);have HL8:=ab hl8;clear hy8 afa hl8 rM yd WC uY hJ;go_wp2_with fail
     go_roundg (G-1)
     case rel=>exact⟨j+1,nv8,Ln++[y8],by omega,by go_num,uh HL8,HN⟩
     case measure=>omega
  .have hd:decide ((j:Int)<(L.length:Int))=false:=(by simp;omega);have hN:Ln.map (·.f)=r.1.map (λg=>aQ (l9 g v)):=by
    rw[(uh hI).2,take_of_length_le (by omega),<-uh WE,map_map];rfl
   have uZ:=ab hN;clear hN;go_wp2_with fail
   go_end0
   exact⟨rfl,(uh hI).1.os.out (o:=bR r (λg=>l9 g v)) (uh uZ) rfl⟩
end
def YK(w:World)(o:MX)(O:Nat)(w':World):Prop:=∃nv tv Ln Lt,Oo w' O o.nu o.da o.fu nv tv Ln Lt/\Ln.map (·.f)=o.nx/\Lt.map (·.f)=o.ot/\(∀k∈eR O nv tv Ln Lt,w.heap.size<=k)/\Below w.heap.size w w'
theorem pG.own{w W w':World}{O:Nat}{o:MX}(h:pG W O o w')(hb:Below w.heap.size w W)(hO:w.heap.size<=O):YK w o O w':=by
 obtain⟨nv,tv,Ln,Lt,h1,h2,h3,h4⟩:=h;refine⟨nv,tv,Ln,Lt,h1,h2,h3,λk hk=>?_,⟨h4.os.trans hb.os,h4.tape.trans hb.tape,h4.output.trans hb.output,zq3 hb.size h4.size,λk hk=>(h4.block k (zq6 hk hb.size) (λhn=>by rw[mem_singleton]at hn;omega)).trans (hb.block k hk)⟩⟩;rcases h4.foot k hk with q|q
 .rw[mem_singleton]at q;omega
 .exact zq3 hb.size q
theorem Oo.swap{w:World}{O:Nat}{nu da fu:Bool}{nv tv:Value}{Ln Lt:List FE}(h:Oo w O nu da fu nv tv Ln Lt):Oo ((w.setCell ⟨O,0,none⟩ tv).setCell ⟨O,1,none⟩ nv) O nu da fu tv nv Lt Ln:=by
 have dG:=nodup_cons.1 h.nd;have vZ:=nodup_append.1 dG.2;have e:∀k,k≠O->((w.setCell ⟨O,0,none⟩ tv).setCell ⟨O,1,none⟩ nv).heap[k]?=w.heap[k]?:=λk hk=>(heap_setCell _ _ _ _ hk).trans (heap_setCell _ _ _ _ hk);refine⟨(h.bk.set 0 tv).set 1 nv,h.ot.of_eq (λk hk=>e k (λq=>dG.1 (by rw[<-q];exact mem_append_right _ hk))),h.nx.of_eq (λk hk=>e k (λq=>dG.1 (by rw[<-q];exact mem_append_left _ hk))),?_⟩;rw[nodup_cons,nodup_append];refine⟨λhm=>dG.1 ?_,vZ.2.1,vZ.1,λa ha b hb q=>vZ.2.2 b hb a ha q.symm⟩;rcases mem_append.1 hm with q|q
 .exact mem_append_right _ q
 .exact mem_append_left _ q
section
variable {w:World} {A:Nat} {f:CF} {av ov:Value}
theorem NU{n:Nd}(h:eQ w A f av ov)(hT:Td f)(hv:n.v<4)(hi:n.ai<4)(pw:n.op<=1000):
  Calls prog 203 #[SP n,.pointer (some ⟨A,0,none⟩)] w λe w'=>∃O,e=.returned (.pointer (some ⟨O,0,none⟩))/\YK w (cn n f) O w':=by
 have hO:=hT.ok;have ha:f.ap.length<=40000:=zq3 hT.ln (by omega);have iJ:=hO.owLen;obtain⟨oR,hoR⟩:∃oR,oR=cn n f:=⟨_,rfl⟩;obtain⟨W1,d9⟩:∃W1,W1=w.alloc (.cells #[Value.int .i64 (n.op:Int),.int .i64 (n.v:Int),.int .i64 (n.ak:Int),.int .i64 (n.ai:Int),.int .i64 (n.nx:Int),.int .i64 (n.ot:Int)] 186):=⟨_,rfl⟩;obtain⟨W2,jw⟩:∃W2,W2=W1.alloc (.cells #[Value.slice none 0 0,.slice none 0 0,.bool false,.bool false,.bool false] 280):=⟨_,rfl⟩;have bB:Below w.heap.size w W1:=by rw[d9];exact ah w _
 have aW:Below W1.heap.size W1 W2:=by rw[jw];exact ah W1 _
 have hX:Bk W2 w.heap.size 186 [Value.int .i64 (n.op:Int),.int .i64 (n.v:Int),.int .i64 (n.ak:Int),.int .i64 (n.ai:Int),.int .i64 (n.nx:Int),.int .i64 (n.ot:Int)]:=by
  refine Bk.below ?_ aW;rw[d9];exact Bk.new w _ _
 have Cm:Bk W2 W1.heap.size 280 [dD,dD,.bool false,.bool false,.bool false]:=by rw[jw];exact Bk.new W1 _ _
 have mP:W1.heap.size=w.heap.size+1:=by rw[d9];simp
 obtain⟨X,gW⟩:∃X,X=w.heap.size:=⟨_,rfl⟩;obtain⟨O,hOe⟩:∃O,O=W1.heap.size:=⟨_,rfl⟩;rw[<-gW]at hX;rw[<-hOe]at Cm;have hb:=bB.trans (aW.mono bB.size);have hwO:w.heap.size<=O:=by omega
 have hOs:Os W2 W2 O A f av ov false false false dD dD [] []:=Os.start ⟨Cm,Fl.nil0 _ _,Fl.nil0 _ _,by simp[bf,dD,Value.ownBlock]⟩ (h.below hb) rfl (λhn=>by have:=h.lt O hn;omega);have afh:O=w.heap.size+1:=by omega
 have hXO:X≠O:=by omega
 have b0:=hX.cell 0 rfl;have b1:=hX.cell 1 rfl;have b2:=hX.cell 2 rfl;have b3:=hX.cell 3 rfl;have b4:=hX.cell 4 rfl;have b5:=hX.cell 5 rfl;have HS:=ab hOs;have HO:=ab hO;have HB:=ab hb;have HWO:=ab hwO;have HX:=ab hX;have Sj:=ab hoR;obtain⟨z,hz⟩:∃z,z=(n.op:Int):=⟨_,rfl⟩;have HZ:=ab hz;rw[<-hoR];have aad:oR=cn n f:=hoR;unfold cn at aad;have G9:=ab aad;have R9:Hid (∀w':World,pG W2 O oR w'->∃O',(Ending.returned (.pointer (some ⟨O,0,none⟩)):Ending)=.returned (.pointer (some ⟨O',0,none⟩))/\YK w oR O' w'):=ab (λw' hp=>⟨O,rfl,hp.own hb hwO⟩);have dG:SP n=.agg #[.int .i64 z,.int .i64 (n.v:Int),.int .i64 (n.ak:Int),.int .i64 (n.ai:Int),.int .i64 (n.nx:Int),.int .i64 (n.ot:Int)]:=by rw[hz];rfl
 rw[<-hz]at d9 b0;clear h hT hO bB aW hX Cm mP hb hOs hoR hz aad;rw[dG];have HND:Hid (SP n=.agg #[.int .i64 z,.int .i64 (n.v:Int),.int .i64 (n.ak:Int),.int .i64 (n.ai:Int),.int .i64 (n.nx:Int),.int .i64 (n.ot:Int)]):=ab dG;clear dG;go_enter func203,ntmps203;go_upto_region 2 with fail;rw[<-d9,<-jw,<-afh,<-gW];clear d9 jw gW hOe afh;by_cases h0:n.op=0
 .have z0:z=0:=by rw[uh HZ,h0];rfl
  have HE:Hid (oR=wN):=ab (by rw[uh G9,if_pos h0]);subst z0;clear h0;go_wp2_with fail
  go_ret;exact uh R9 _ (by rw[uh HE];exact(uh HS).out (o:=wN) rfl rfl)
 .have z0:(z==0)=false:=by rw[uh HZ];simp;omega
  by_cases h4:n.op=4
  .have z4:z=4:=(by rw[uh HZ,h4];rfl);have HE:Hid (oR=if 24<=aw f then ⟨[],[],false,false,true⟩ else ⟨[aQ (Ev f n.v)],[],false,false,false⟩):=ab (by rw[uh G9,if_neg h0,if_neg (by omega),if_neg (by omega),if_neg (by omega),if_pos h4]);have uW:=ab (Fj (v:=n.v) (uh HS) (uh HO) ha hv);rw[<-uh HE]at uW;subst z4;clear h0 h4 z0;go_wp2_with fail
   refine(uh uW).mono ?_;rintro e w3 ⟨rfl,hP⟩;have HP:=ab hP;clear hP uW;go_wp2_with fail
   go_ret;exact uh R9 _ (uh HP)
  .have z4:(z==4)=false:=(by rw[uh HZ];simp;omega);by_cases h5:n.op=5
   .have z5:z=5:=(by rw[uh HZ,h5];rfl);have HE:Hid (oR=bR (c9 f n.v) (λg=>l9 g n.v)):=ab (by rw[uh G9,if_neg h0,if_neg (by omega),if_neg (by omega),if_neg (by omega),if_neg (by omega),if_pos h5]);have uW:=ab (OA (v:=n.v) (uh HS) (uh HO) ha hv);rw[<-uh HE]at uW;subst z5;clear h0 h4 h5 z0 z4;go_wp2_with fail
    refine(uh uW).mono ?_;rintro e w3 ⟨rfl,hP⟩;have HP:=ab hP;clear hP uW;go_wp2_with fail
    go_ret;exact uh R9 _ (uh HP)
   .have z5:(z==5)=false:=(by rw[uh HZ];simp;omega);by_cases h2:n.op=2
    .have z2:z=2:=(by rw[uh HZ,h2];rfl);have HE:Hid (oR=bR (c9 f n.ai) (λg=>fs g n)):=ab (by rw[uh G9,if_neg h0,if_neg (by omega),if_pos h2]);have uW:=ab (Fx (uh HS) (uh HO) ha hv hi);rw[<-uh HE,uh HND]at uW;subst z2;clear h0 h4 h5 h2 z0 z4 z5;go_wp2_with fail
     refine(uh uW).mono ?_;rintro e w3 ⟨rfl,hP⟩;have HP:=ab hP;clear hP uW;go_wp2_with fail
     go_ret;exact uh R9 _ (uh HP)
    .have z2:(z==2)=false:=(by rw[uh HZ];simp;omega);by_cases h3:n.op=3
     .have z3:z=3:=(by rw[uh HZ,h3];rfl);have HE:Hid (oR=bR (c9 f n.v) (λg=>ny g n)):=ab (by rw[uh G9,if_neg h0,if_neg (by omega),if_neg (by omega),if_pos h3]);have uW:=ab (P6 (uh HS) (uh HO) ha hv hi);rw[<-uh HE,uh HND]at uW;subst z3;clear h0 h4 h5 h2 h3 z0 z4 z5 z2;go_wp2_with fail
      refine(uh uW).mono ?_;rintro e w3 ⟨rfl,hP⟩;have HP:=ab hP;clear hP uW;go_wp2_with fail
      go_ret;exact uh R9 _ (uh HP)
     .have z3:(z==3)=false:=(by rw[uh HZ];simp;omega);by_cases h8:n.op=8
      .have z8:z=8:=(by rw[uh HZ,h8];rfl);have HE:Hid (oR=⟨(mu f n).1,(mu f n).2,false,false,false⟩):=ab (by rw[uh G9,if_neg h0,if_neg (by omega),if_neg (by omega),if_neg (by omega),if_neg (by omega),if_neg (by omega),if_neg (by omega),if_pos h8]);have uW:=ab (sV (uh HS) (uh HO) ha hv hi);rw[<-uh HE,uh HND]at uW;subst z8;clear h0 h4 h5 h2 h3 h8 z0 z4 z5 z2 z3;go_wp2_with fail
       refine(uh uW).mono ?_;rintro e w3 ⟨rfl,hP⟩;have HP:=ab hP;clear hP uW;go_wp2_with fail
       go_ret;exact uh R9 _ (uh HP)
      .have z8:(z==8)=false:=(by rw[uh HZ];simp;omega);by_cases h9:n.op=9
       .have z9:z=9:=(by rw[uh HZ,h9];rfl);have HE:Hid (oR=⟨(mu f n).2,(mu f n).1,false,false,false⟩):=ab (by rw[uh G9,if_neg h0,if_neg (by omega),if_neg (by omega),if_neg (by omega),if_neg (by omega),if_neg (by omega),if_neg (by omega),if_neg (by omega),if_pos h9]);have uW:=ab (sV (n:=n) (uh HS) (uh HO) ha hv hi);rw[uh HND]at uW;subst z9;clear h0 h4 h5 h2 h3 h8 h9 z0 z4 z5 z2 z3 z8;go_wp2_with fail
        refine(uh uW).mono ?_;rintro e w3 ⟨rfl,nv,tv,Ln,Lt,tO,hm1,th,aP⟩;obtain⟨na,nc,K8,-,-⟩:=am tO.nx.row;subst K8;obtain⟨ta,tc,htv,-,-⟩:=am tO.ot.row;subst htv;have o0:=tO.bk.cell 0 rfl;have o1:=tO.bk.cell 1 rfl;have oz:=tO.bk.frz 0;have Da:=tO.bk.set 0 (.slice ta Lt.length tc);have o1':=Da.cell 1 rfl;have oz':=Da.frz 1;have hsw:=tO.swap;have hP:pG W2 O oR ((w3.setCell ⟨O,0,none⟩ (.slice ta Lt.length tc)).setCell ⟨O,1,none⟩ (.slice na Ln.length nc)):=by
         rw[uh HE];refine⟨_,_,Lt,Ln,hsw,th,hm1,((aP.setCell (p:=⟨O,0,none⟩) (zq0 (by simp)) _).setCell (p:=⟨O,1,none⟩) (zq0 (by simp)) _).foots (λk hk=>aP.foot k ?_)⟩;simp only[eR,mem_cons,mem_append]at hk ⊢;rcases hk with q|q|q
         .exact zq0 q
         .exact zq1 (zq1 q)
         .exact zq1 (zq0 q)
        have HP:=ab hP;clear tO hm1 th aP Da hsw hP uW;go_wp2_with fail
        go_ret;exact uh R9 _ (uh HP)
       .have z9:(z==9)=false:=(by rw[uh HZ];simp;omega);by_cases h7:n.op=7
        .have z7:z=7:=(by rw[uh HZ,h7];rfl);have HE:Hid (oR=⟨[aQ f],[aQ f],false,false,false⟩):=ab (by rw[uh G9,if_neg h0,if_neg (by omega),if_neg (by omega),if_neg (by omega),if_neg (by omega),if_neg (by omega),if_pos h7]);have kZ:=ab (cQ (uh HS).ff (uh HO).c5 ha (zq3 iJ (by omega)));subst z7;clear h0 h4 h5 h2 h3 h8 h9 h7 z0 z4 z5 z2 z3 z8 z9;go_wp2_with fail
         refine(uh kZ).mono ?_;rintro e w3 ⟨A3,rfl,Cl⟩;obtain⟨av3,ov3,m7⟩:=Cl.frf;have OQ:=(uh HS).below m7.bw;have rM:=ab (iF OQ.oo m7.fm (uh HO) (zq3 ha (by omega)) ((uh HS).fresh m7.ge) (by simp));have H3:=ab OQ;have HG3:=ab m7.ge;clear Cl m7 OQ kZ;go_wp2_with fail
         refine(uh rM).mono ?_;rintro e w4 ⟨rfl,nv4,x4,-,hx4,PE,wb⟩;have KE:=(uh H3).next (uh HG3) PE wb;have adG:=ab (cQ KE.ff (uh HO).c5 ha (zq3 iJ (by omega)));have H4:=ab KE;have HX4:=ab hx4;clear PE wb hx4 KE rM;go_wp2_with fail
         refine(uh adG).mono ?_;rintro e w5 ⟨A5,rfl,hN5⟩;obtain⟨av5,ov5,Dg⟩:=hN5.frf;have hO5:=(uh H4).below Dg.bw;have WQ:=ab (xE hO5.oo Dg.fm (uh HO) (zq3 ha (by omega)) ((uh H4).fresh Dg.ge) (by simp));have H5:=ab hO5;have HG5:=ab (λk hk=>zq3 (uh H4).st.size (Dg.ge k hk));clear hN5 Dg hO5 adG;go_wp2_with fail
         refine(uh WQ).mono ?_;rintro e w6 ⟨rfl,tv6,x6,-,hx6,agz,Dw⟩;have HN:=ab ((uh H5).next (uh HG5) agz Dw);have HX6:=ab hx6;clear agz Dw hx6 WQ;go_wp2_with fail
         go_ret;exact uh R9 _ (by rw[uh HE];exact(uh HN).out (o:=⟨[aQ f],[aQ f],false,false,false⟩) (by simp[uh HX4]) (by simp[uh HX6]))
        .have z7:(z==7)=false:=(by rw[uh HZ];simp;omega);by_cases h1:n.op=1
         .have z1:z=1:=(by rw[uh HZ,h1];rfl);have HE:Hid (oR=⟨[aQ (setC f (1+n.v) (clT f n.ak n.ai))],[],false,false,false⟩):=ab (by rw[uh G9,if_neg h0,if_pos h1]);have xK:Hid (∀W':World,Below W2.heap.size W2 W'->Calls prog 236 #[.pointer (some ⟨A,0,none⟩),.agg #[.int .i64 (n.ak:Int),.int .i64 (n.ai:Int)]] W' λe w''=>e=.returned (.int .i64 (clT f n.ak n.ai:Nat))/\Below W2.heap.size W2 w''):=ab (λW' hb=>(rR ((uh HS).ff.below hb) n.ak n.ai hi).mono (λe w'' hw=>⟨hw.1,hb.trans (hw.2.mono hb.size)⟩));have HAS:Hid (∀W':World,Below W2.heap.size W2 W'->Calls prog 235 #[.pointer (some ⟨O,0,none⟩),.pointer (some ⟨A,0,none⟩),.int .i64 (n.v:Int),.int .i64 (clT f n.ak n.ai:Nat)] W' λe w''=>e=.returned (.tuple #[])/\pG W2 O oR w''/\Bk w'' X 186 [Value.int .i64 (n.op:Int),.int .i64 (n.v:Int),.int .i64 (n.ak:Int),.int .i64 (n.ai:Int),.int .i64 (n.nx:Int),.int .i64 (n.ot:Int)]):=ab (λW' hb=>(Fa ((uh HS).rebase hb) (uh HO) ha hv ((uh HO).cT _ _)).mono (λe w'' hw=>⟨hw.1,by rw[uh HE];exact hw.2.pre hb,by
           obtain⟨nv,tv,Ln,Lt,-,-,-,aP⟩:=hw.2;exact((uh HX).below hb).stp aP (by simpa using hXO)⟩))
          have EA:=(uh HX).lt;obtain⟨cc,Xs⟩:∃cc,cc=clT f n.ak n.ai:=⟨_,rfl⟩;rw[<-Xs]at xK HAS;obtain⟨nv',UG⟩:∃q,q=n.v:=⟨_,rfl⟩;obtain⟨nk',PC⟩:∃q,q=n.ak:=⟨_,rfl⟩;obtain⟨ni',PB⟩:∃q,q=n.ai:=⟨_,rfl⟩;rw[<-UG,<-PC,<-PB]at HAS;rw[<-PC,<-PB]at xK;rw[<-UG]at b1;rw[<-PC]at b2;rw[<-PB]at b3;rw[<-UG,<-PC,<-PB];subst z1;clear h0 h4 h5 h2 h3 h8 h9 h7 h1 z0 z4 z5 z2 z3 z8 z9 z7 Xs UG PC PB;go_upto_region 7 with fail;go_region_held3 (λW=>W.cell? ⟨X,1,none⟩=some (.int .i64 (nv':Int))/\W.cell? ⟨X,2,none⟩=some (.int .i64 (nk':Int))/\W.cell? ⟨X,3,none⟩=some (.int .i64 (ni':Int))) (first|(simp only[cell?_drew,b1,b2,b3,and_self];done)|(simp only[q1,q2,q3,and_self];done)|(simp only[r1,r2,r3,and_self];done))
           (first
            |(go_at_call 235;refine(uh HAS _ (uh tD)).mono ?_;rintro e w4 ⟨rfl,hP,Z0⟩;have r1:=Z0.cell 1 rfl;have r2:=Z0.cell 2 rfl;have r3:=Z0.cell 3 rfl;have HP:=ab hP;clear hP Z0)
            |(go_at_call 236;refine(uh xK _ (Below.refl _ _).drew).mono ?_;rintro e w3 ⟨rfl,dy⟩;have q1:=(dy.cell EA).trans b1;have q2:=(dy.cell EA).trans b2;have q3:=(dy.cell EA).trans b3;have tD:=ab dy;clear dy))
          go_wp2_with fail
          go_ret;exact uh R9 _ (uh HP)
         .have z1:(z==1)=false:=(by rw[uh HZ];simp;omega);have HE:Hid (oR=⟨[aQ f],[],false,false,false⟩):=ab (by rw[uh G9,if_neg h0,if_neg h1,if_neg h2,if_neg h3,if_neg h4,if_neg h5,if_neg h7,if_neg h8,if_neg h9]);have kZ:=ab (cQ (uh HS).ff (uh HO).c5 ha (zq3 iJ (by omega)));clear h0 h4 h5 h2 h3 h8 h9 h7 h1;go_wp2_with fail
          refine(uh kZ).mono ?_;rintro e w3 ⟨A3,rfl,Cl⟩;obtain⟨av3,ov3,m7⟩:=Cl.frf;have OQ:=(uh HS).below m7.bw;have rM:=ab (iF OQ.oo m7.fm (uh HO) (zq3 ha (by omega)) ((uh HS).fresh m7.ge) (by simp));have H3:=ab OQ;have HG3:=ab m7.ge;clear Cl m7 OQ kZ;go_wp2_with fail
          refine(uh rM).mono ?_;rintro e w4 ⟨rfl,nv4,x4,-,hx4,PE,wb⟩;have HN:=ab ((uh H3).next (uh HG3) PE wb);have HX4:=ab hx4;clear PE wb hx4 rM;go_wp2_with fail
          go_ret;exact uh R9 _ (by rw[uh HE];exact(uh HN).out (o:=⟨[aQ f],[],false,false,false⟩) (by simp[uh HX4]) rfl)
end
