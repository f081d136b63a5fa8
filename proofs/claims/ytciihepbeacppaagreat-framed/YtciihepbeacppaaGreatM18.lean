import Derived.Test.YtciihepbeacppaaGreatM17
set_option maxRecDepth 100000
set_option maxHeartbeats 0
namespace Go.Proofs.YtciihepbeacppaaGreat
open Tryz Go.RowKit List World Below
set_option linter.unusedVariables false
theorem pA.pre{w W w':World}{O:Nat}{o:MD}(h:pA W O o w')(hb:Below w.heap.size w W):pA w O o w':=by
 obtain⟨nv,tv,Ln,Lt,h1,h2,h3,h4⟩:=h;refine⟨nv,tv,Ln,Lt,h1,h2,h3,⟨h4.os.trans hb.os,h4.tape.trans hb.tape,h4.output.trans hb.output,zq3 hb.size h4.size,λk hk hn=>(h4.block k (zq6 hk hb.size) hn).trans (hb.block k hk),λk hk=>?_⟩⟩;rcases h4.foot k hk with q|q
 .exact zq0 q
 .exact zq1 (zq3 hb.size q)
theorem Os.rebase{w W:World}{O A:Nat}{f:CF}{av ov:Value}(h:Os w w O A f av ov false false false di di [] [])(hb:Below w.heap.size w W):Os W W O A f av ov false false false di di [] [] :=
 Os.start (h.oo.below hb) (h.ff.below hb) rfl h.of
section
variable {w:World} {O A:Nat} {f:CF} {av ov:Value}
theorem E9{n:Nd}(h:Os w w O A f av ov false false false di di [] [])(hO:aq f)(ha:f.ap.length<=40000)(hv:n.v<4)(hi:n.ai<4):
  Calls prog 237 #[.pointer (some ⟨O,0,none⟩),.pointer (some ⟨A,0,none⟩),RX n] w λe w'=>e=.returned (.tuple #[])/\pA w O (bt (dP f n.ai) (λg=>eG g n)) w':=by
 have iE:=hO.owLen;obtain⟨N,hN⟩:∃N,N=n:=⟨_,rfl⟩;obtain⟨op,v,ak,ai,nx,ot⟩:=n;simp only at hv hi;unfold RX;simp only;rw[<-hN];have hNv:N.v=v:=by rw[hN]
 have RK:N.ai=ai:=by rw[hN]
 obtain⟨W1,dV⟩:∃W1,W1=w.alloc (.cells #[Value.int .i64 (op:Int),.int .i64 (v:Int),.int .i64 (ak:Int),.int .i64 (ai:Int),.int .i64 (nx:Int),.int .i64 (ot:Int)] 186):=⟨_,rfl⟩;have cf:Below w.heap.size w W1:=by rw[dV];exact ah w _
 have hX:Bk W1 w.heap.size 186 [Value.int .i64 (op:Int),.int .i64 (v:Int),.int .i64 (ak:Int),.int .i64 (ai:Int),.int .i64 (nx:Int),.int .i64 (ot:Int)]:=by rw[dV];exact Bk.new w _ _
 obtain⟨X,gV⟩:∃X,X=w.heap.size:=⟨_,rfl⟩;rw[<-gV]at hX;have hXO:X≠O:=by have:=h.ol;omega
 have tW:=h.rebase cf;have b3:=hX.cell 3 rfl;have kO:=ab (im (N:=40000) hi hO ha);have Bx:=ab (si hi tW.oo.bk tW.ff hO ha tW.of);obtain⟨r,hr⟩:∃r,r=dP f ai:=⟨_,rfl⟩;rw[<-hr]at Bx kO;have Wm:Hid (r.1.length<=96):=ab (by rw[hr];exact uf hO ai);rw[<-hr];have H1:=ab tW;have HX:=ab hX;have HBX:=ab cf;have HNv:=ab hNv;have HNa:=ab RK;clear h hO tW cf hX hr hN hNv RK;go_enter func237,ntmps237;go_upto_region 1 with fail;rw[<-dV,<-gV];clear dV gV;go_wp2_with fail
 refine(uh Bx).mono ?_;rintro e w2 ⟨lv,L,rfl,kT,Oi,CK,gQ⟩;have WS:=Lo.start (uh H1) kT (by simpa using CK) gQ;obtain⟨la,lc,ic,-,-⟩:=aj kT.row;subst ic;have Wd:=ab Oi;have hLL:L.length<=96:=by
  have h1:=congrArg List.length Oi;rw[length_map]at h1;have:=uh Wm;omega
 have cG:Hid (Lo W1 w2 O A f av ov r.2.1 r.2.2.1 r.2.2.2 di [] W1.heap.size (.slice la L.length lc) L 0):=ab (by simpa using WS);clear kT Oi CK gQ WS Bx b3;obtain⟨B,hB⟩:∃B,B=W1.heap.size:=⟨_,rfl⟩;rw[<-hB]at cG;clear hB;go_wp2_with fail
 go_loopg [16] L.length (λgn iv wx=>∃(j:Nat) (nv:Value) (Ln:List FE),j+gn=L.length/\iv=.int .i64 j/\Ln.length=j/\Hid (Lo W1 wx O A f av ov r.2.1 r.2.2.1 r.2.2.2 nv Ln B (.slice la L.length lc) L j/\Ln.map (·.f)=(L.take j).map (λx=>aZ (eG x.f N))))
 case atStart=>exact⟨0,di,[],by omega,rfl,rfl,ab ⟨uh cG,rfl⟩⟩
 case round =>
  clear cG;obtain⟨j,nv,Ln,BO,rfl,Zz,hI⟩:=hrel;obtain⟨G,hG⟩:∃G,G=gk:=⟨_,rfl⟩;by_cases f7:j<L.length
  .have hd:decide ((j:Int)<(L.length:Int))=true:=(by simp;omega);obtain⟨g2,cap2,dx,ay⟩:=(uh hI).1.pe.cell f7;simp only[Value.slice.injEq,true_and]at dx;obtain⟨rfl,rfl⟩:=dx;obtain⟨hx,-,-,-,-⟩:=(uh hI).1.pe.next f7;have bD:=uh kO L[j].f (by rw[<-uh Wd];exact mem_map_of_mem (getElem_mem f7));have TY:=(uh HX).stp (uh hI).1.os.st (by simpa using hXO);have b1:=TY.cell 1 rfl;have b3:=TY.cell 3 rfl;have rA:(L.take (j+1)).map (λx=>aZ (eG x.f N))=(L.take j).map (λx=>aZ (eG x.f N))++[aZ (eG L[j].f N)]:=by
    rw[take_add_one,getElem?_eq_getElem f7,map_append];rfl
   have uB:Hid (∀(x':FE) (W':World),au L[j].bs wr x'.bs W'->_):=ab (λx' W' hs=>(uh hI).1.mid (x':=x') f7 hs);obtain⟨x,BX⟩:∃x,x=L[j]:=⟨_,rfl⟩;rw[<-BX]at ay hx bD rA uB;obtain⟨i',m0⟩:=Option.isSome_iff_exists.1 bD.bg;obtain⟨xx,-⟩:=eC m0;have xc:=hx.is.cls (i:=1+ai) (by omega);have xv:=hx.is.cls (i:=1+v) (by omega);have zv:=ownsRow.frozenAt hx.is.ob (1+v);unfold gZ at xc;obtain⟨xa,xf,xav,xov⟩:=x;simp only at ay hx bD rA m0 xx xc xv zv;obtain⟨oa,oc,gj,-,-⟩:=aj hx.is.ow;subst gj;have c6:=hx.is.c6;obtain⟨go,gc,oQ,-,-⟩:=aE hx.is.ow xx;simp only[Value.slice.injEq,true_and]at oQ;obtain⟨rfl,rfl⟩:=oQ;obtain⟨-,-,y2⟩:=aD hx.is.ow xx;obtain⟨rr,KQ⟩:∃rr,rr=(xf.ow.getD i' ax).r:=⟨_,rfl⟩;rw[<-KQ]at y2;obtain⟨cx,xr⟩:∃cx,cx=xf.cl.getD (1+ai) 0:=⟨_,rfl⟩;rw[<-xr]at xc;have mL:Hid (∀m:Nat,Calls prog 208 #[.pointer (some ⟨xa,0,none⟩),.int .i64 cx] (wr.drewN m) λe w''=>e=.returned (.int .i64 (i':Int))/\∃q,w''=wr.drewN q):=ab (λm=>(cI (w:=wr.drewN m) cx (hx.is.of_eq (λ_ _=>rfl))).mono (λe w'' hw=>by
    have h1:=hw.1;rw[xr,m0]at h1;exact⟨h1,m,hw.2⟩))
   have hfg:setC xf (1+v) rr=eG xf N:=by
    unfold eG;rw[uh HNv,uh HNa];show setC xf (1+v) rr=setC xf (1+v) (owA xf (pZ xf (xf.cl.getD (1+ai) 0))).r;unfold pZ;rw[m0,KQ];rfl
   have qb:=hx.setCl (1+v) rr (by omega);have bS:au (aH xa xav (.slice (some ⟨go,0,none⟩) xf.ow.length oc)) wr (aH xa xav (.slice (some ⟨go,0,none⟩) xf.ow.length oc)) (wr.setCell ⟨xa,1+v,none⟩ (.int .i64 (rr:Int))):=(au.refl _ _).setCell (p:=⟨xa,1+v,none⟩) (zq0 (by simp[aH])) _;have xI:=ab qb;have cS:=ab bS;have LJ:=ab hfg;have xK:=ab rA;have rX:=zS (n:=N) (by rw[uh HNa];exact bD);have Yb:=ab rX;have rC:Hid (∀W':World,Fm W' xa (eG xf N) xav (.slice (some ⟨go,0,none⟩) xf.ow.length oc)->au (aH xa xav (.slice (some ⟨go,0,none⟩) xf.ow.length oc)) wr (aH xa xav (.slice (some ⟨go,0,none⟩) xf.ow.length oc)) W'->Calls prog 242 #[.pointer (some ⟨O,0,none⟩),.pointer (some ⟨xa,0,none⟩)] W' λe w''=>e=.returned (.tuple #[])/\∃nv' y,y.f=aZ (eG xf N)/\Lo W1 w'' O A f av ov r.2.1 r.2.2.1 r.2.2.2 nv' (Ln++[y]) B (.slice (some ⟨g2,0,none⟩) L.length lc) L (j+1)):=ab (λW' hf hs=>by
    have hwB:=(uh hI).1.wB;obtain⟨m1,m2,m3,m4,m5⟩:=uh uB ⟨xa,eG xf N,xav,.slice (some ⟨go,0,none⟩) xf.ow.length oc⟩ W' hs;refine(iA m1.oo hf rX.1 (zq3 rX.2 (by omega)) m2 (by omega)).mono ?_;rintro e w'' ⟨rfl,nv',y,-,hy,tB,aV⟩;exact⟨rfl,nv',y,hy,Lo.fin m1 m3 m4 m5 hwB tB aV⟩)
   have Ai:(FE.p ⟨xa,xf,xav,.slice (some ⟨go,0,none⟩) xf.ow.length oc⟩)=.pointer (some ⟨xa,0,none⟩):=rfl;rw[Ai]at ay;have i1:(0:Int)<=1+(ai:Int):=(by omega);have i2:1+(ai:Int)<5:=(by omega);have i3:(1+(ai:Int)).toNat=1+ai:=(by omega);have i4:(0:Int)<=1+(v:Int):=(by omega);have i5:1+(v:Int)<5:=(by omega);have i6:(1+(v:Int)).toNat=1+v:=(by omega);have i7:(0:Int)<=(j:Int):=(by omega);have i8:(j:Int)<(L.length:Int):=(by omega);have i9:(0:Int)<=(i':Int):=(by omega);have ia:(i':Int)<(xf.ow.length:Int):=(by omega);have Wb:Hid (Ln.map (·.f)=(L.take j).map (λx=>aZ (eG x.f N))):=ab (uh hI).2;have HwB:=ab (uh hI).1.wB;clear hx bD rA TY KQ xr hfg qb bS rX Ai BX m0 hI;go_wp2_with fail
   go_quiet ((go_at_call 208;exact uh mL _))
   go_wp2_with fail
   go_region
   go_wp2_with fail
   refine(uh rC ((wr.drewN (nq+1)).setCell ⟨xa,1+v,none⟩ (.int .i64 (rr:Int))) (by rw[<-uh LJ];exact(uh xI).of_eq (λ_ _=>rfl)) ⟨(uh cS).os,(uh cS).tape,(uh cS).output,(uh cS).size,(uh cS).block,(uh cS).foot⟩).mono ?_;rintro e w5 ⟨rfl,nv5,y5,hy5,Oj⟩;have HN:Hid (Lo W1 w5 O A f av ov r.2.1 r.2.2.1 r.2.2.2 nv5 (Ln++[y5]) B (.slice (some ⟨g2,0,none⟩) L.length lc) L (j+1)/\(Ln++[y5]).map (·.f)=(L.take (j+1)).map (λx=>aZ (eG x.f N))):=ab ⟨Oj,by rw[uh xK,map_append,uh Wb];simp[hy5]⟩;have Xm:(Ln++[y5]).length=j+1:=(by rw[length_append,length_singleton,Zz]);have Yg:=ab Xm;clear hy5 Oj Xm rC xI cS LJ xK Yb Wb uB;go_wp2_with fail
   go_roundg (G-1)
   case rel=>exact⟨j+1,nv5,Ln++[y5],by omega,by go_num,uh Yg,HN⟩
   case measure=>omega
  .have hd:decide ((j:Int)<(L.length:Int))=false:=(by simp;omega);have hN:Ln.map (·.f)=r.1.map (λg=>aZ (eG g N)):=by
    rw[(uh hI).2,take_of_length_le (by omega),<-uh Wd,map_map];rfl
   have yj:=ab hN;clear hN;go_wp2_with fail
   go_end0
   exact⟨rfl,((uh hI).1.os.out (o:=bt r (λg=>eG g N)) (uh yj) rfl).pre (uh HBX)⟩
end
section
variable {w:World} {O A:Nat} {f:CF} {av ov:Value}
theorem PK{n:Nd}(h:Os w w O A f av ov false false false di di [] [])(hO:aq f)(ha:f.ap.length<=40000)(hv:n.v<4)(hi:n.ai<4):
  Calls prog 238 #[.pointer (some ⟨O,0,none⟩),.pointer (some ⟨A,0,none⟩),RX n] w λe w'=>e=.returned (.tuple #[])/\pA w O (bt (dP f n.v) (λg=>mx g n)) w':=by
 have iE:=hO.owLen;obtain⟨N,hN⟩:∃N,N=n:=⟨_,rfl⟩;obtain⟨op,v,ak,ai,nx,ot⟩:=n;simp only at hv hi;unfold RX;simp only;rw[<-hN];have hNv:N.v=v:=by rw[hN]
 have RK:N.ai=ai:=by rw[hN]
 have hNk:N.ak=ak:=by rw[hN]
 obtain⟨W1,dV⟩:∃W1,W1=w.alloc (.cells #[Value.int .i64 (op:Int),.int .i64 (v:Int),.int .i64 (ak:Int),.int .i64 (ai:Int),.int .i64 (nx:Int),.int .i64 (ot:Int)] 186):=⟨_,rfl⟩;have cf:Below w.heap.size w W1:=by rw[dV];exact ah w _
 have hX:Bk W1 w.heap.size 186 [Value.int .i64 (op:Int),.int .i64 (v:Int),.int .i64 (ak:Int),.int .i64 (ai:Int),.int .i64 (nx:Int),.int .i64 (ot:Int)]:=by rw[dV];exact Bk.new w _ _
 obtain⟨X,gV⟩:∃X,X=w.heap.size:=⟨_,rfl⟩;rw[<-gV]at hX;have hXO:X≠O:=by have:=h.ol;omega
 have tW:=h.rebase cf;have b1:=hX.cell 1 rfl;have kO:=ab (im (N:=40000) hv hO ha);have Bx:=ab (si hv tW.oo.bk tW.ff hO ha tW.of);obtain⟨r,hr⟩:∃r,r=dP f v:=⟨_,rfl⟩;rw[<-hr]at Bx kO;have Wm:Hid (r.1.length<=96):=ab (by rw[hr];exact uf hO v);rw[<-hr];have H1:=ab tW;have HX:=ab hX;have HBX:=ab cf;have HNv:=ab hNv;have HNa:=ab RK;have HNk:=ab hNk;clear h hO tW cf hX hr hN hNv RK hNk;go_enter func238,ntmps238;go_upto_region 1 with fail;rw[<-dV,<-gV];clear dV gV;go_wp2_with fail
 refine(uh Bx).mono ?_;rintro e w2 ⟨lv,L,rfl,kT,Oi,CK,gQ⟩;have WS:=Lo.start (uh H1) kT (by simpa using CK) gQ;obtain⟨la,lc,ic,-,-⟩:=aj kT.row;subst ic;have Wd:=ab Oi;have hLL:L.length<=96:=by
  have h1:=congrArg List.length Oi;rw[length_map]at h1;have:=uh Wm;omega
 have cG:Hid (Lo W1 w2 O A f av ov r.2.1 r.2.2.1 r.2.2.2 di [] W1.heap.size (.slice la L.length lc) L 0):=ab (by simpa using WS);clear kT Oi CK gQ WS Bx b1;obtain⟨B,hB⟩:∃B,B=W1.heap.size:=⟨_,rfl⟩;rw[<-hB]at cG;clear hB;go_wp2_with fail
 go_loopg [15] L.length (λgn iv wx=>∃(j:Nat) (nv:Value) (Ln:List FE),j+gn=L.length/\iv=.int .i64 j/\Ln.length=j/\Hid (Lo W1 wx O A f av ov r.2.1 r.2.2.1 r.2.2.2 nv Ln B (.slice la L.length lc) L j/\Ln.map (·.f)=(L.take j).map (λx=>aZ (mx x.f N))))
 case atStart=>exact⟨0,di,[],by omega,rfl,rfl,ab ⟨uh cG,rfl⟩⟩
 case round =>
  clear cG;obtain⟨j,nv,Ln,BO,rfl,Zz,hI⟩:=hrel;obtain⟨G,hG⟩:∃G,G=gk:=⟨_,rfl⟩;by_cases f7:j<L.length
  .have hd:decide ((j:Int)<(L.length:Int))=true:=(by simp;omega);obtain⟨g2,cap2,dx,ay⟩:=(uh hI).1.pe.cell f7;simp only[Value.slice.injEq,true_and]at dx;obtain⟨rfl,rfl⟩:=dx;obtain⟨hx,-,-,-,-⟩:=(uh hI).1.pe.next f7;have bD:=uh kO L[j].f (by rw[<-uh Wd];exact mem_map_of_mem (getElem_mem f7));have TY:=(uh HX).stp (uh hI).1.os.st (by simpa using hXO);have b1:=TY.cell 1 rfl;have b2:=TY.cell 2 rfl;have b3:=TY.cell 3 rfl;have rA:(L.take (j+1)).map (λx=>aZ (mx x.f N))=(L.take j).map (λx=>aZ (mx x.f N))++[aZ (mx L[j].f N)]:=by
    rw[take_add_one,getElem?_eq_getElem f7,map_append];rfl
   have uB:Hid (∀(x':FE) (W':World),au L[j].bs wr x'.bs W'->_):=ab (λx' W' hs=>(uh hI).1.mid (x':=x') f7 hs);obtain⟨x,BX⟩:∃x,x=L[j]:=⟨_,rfl⟩;rw[<-BX]at ay hx bD rA uB;obtain⟨i',m0⟩:=Option.isSome_iff_exists.1 bD.bg;obtain⟨xx,-⟩:=eC m0;have xc:=hx.is.cls (i:=1+v) (by omega);unfold gZ at xc;obtain⟨xa,xf,xav,xov⟩:=x;simp only at ay hx bD rA m0 xx xc;obtain⟨oa,oc,gj,-,-⟩:=aj hx.is.ow;subst gj;have c6:=hx.is.c6;obtain⟨go,gc,oQ,-,-⟩:=aE hx.is.ow xx;simp only[Value.slice.injEq,true_and]at oQ;obtain⟨rfl,rfl⟩:=oQ;obtain⟨-,-,y2⟩:=aD hx.is.ow xx;obtain⟨cx,xr⟩:∃cx,cx=xf.cl.getD (1+v) 0:=⟨_,rfl⟩;rw[<-xr]at xc;have mL:Hid (∀m:Nat,Calls prog 208 #[.pointer (some ⟨xa,0,none⟩),.int .i64 cx] (wr.drewN m) λe w''=>e=.returned (.int .i64 (i':Int))/\∃q,w''=wr.drewN q):=ab (λm=>(cI (w:=wr.drewN m) cx (hx.is.of_eq (λ_ _=>rfl))).mono (λe w'' hw=>by
    have h1:=hw.1;rw[xr,m0]at h1;exact⟨h1,m,hw.2⟩))
   obtain⟨b,hbE⟩:∃b,b=clT xf ak ai:=⟨_,rfl⟩;have hfg:setO xf i' ⟨(owA xf i').k,(owA xf i').l,b⟩=mx xf N:=by
    unfold mx;rw[uh HNv,uh HNa,uh HNk];unfold pZ;rw[m0,hbE];rfl
   have HPO:Hid (∀W':World,Below wr.heap.size wr W'->Fm W' xa xf xav (.slice (some ⟨go,0,none⟩) xf.ow.length oc)):=ab (λW' hb=>hx.below hb);have nS:=(hx.is.ow.lt go rfl).2;have tD:=hx.lt xa (by simp[aH]);have Ef:=TY.lt;have hgx:go≠xa:=λe=>hx.nds.2.1 (by rw[e];rfl);have hgX:go≠X:=λe=>by
    have h1:=(uh hI).1.pe.next f7;have h2:=h1.2.1 go (by rw[<-BX];simp[FE.bs,aH,Value.ownBlock]);have h3:=(uh HX).lt;have h4:=(uh hI).1.wB;omega
   have LJ:=ab hfg;have JH:=ab hbE;have xK:=ab rA;have rX:=FX (n:=N) (by rw[uh HNv];exact bD);have Yb:=ab rX;have rC:Hid (∀W':World,Fm W' xa (mx xf N) xav (.slice (some ⟨go,0,none⟩) xf.ow.length oc)->au (aH xa xav (.slice (some ⟨go,0,none⟩) xf.ow.length oc)) wr (aH xa xav (.slice (some ⟨go,0,none⟩) xf.ow.length oc)) W'->Calls prog 242 #[.pointer (some ⟨O,0,none⟩),.pointer (some ⟨xa,0,none⟩)] W' λe w''=>e=.returned (.tuple #[])/\∃nv' y,y.f=aZ (mx xf N)/\Lo W1 w'' O A f av ov r.2.1 r.2.2.1 r.2.2.2 nv' (Ln++[y]) B (.slice (some ⟨g2,0,none⟩) L.length lc) L (j+1)):=ab (λW' hf hs=>by
    have hwB:=(uh hI).1.wB;obtain⟨m1,m2,m3,m4,m5⟩:=uh uB ⟨xa,mx xf N,xav,.slice (some ⟨go,0,none⟩) xf.ow.length oc⟩ W' hs;refine(iA m1.oo hf rX.1 (zq3 rX.2 (by omega)) m2 (by omega)).mono ?_;rintro e w'' ⟨rfl,nv',y,-,hy,tB,aV⟩;exact⟨rfl,nv',y,hy,Lo.fin m1 m3 m4 m5 hwB tB aV⟩)
   have Ai:(FE.p ⟨xa,xf,xav,.slice (some ⟨go,0,none⟩) xf.ow.length oc⟩)=.pointer (some ⟨xa,0,none⟩):=rfl;rw[Ai]at ay;have i1:(0:Int)<=1+(ai:Int):=(by omega);have i2:1+(ai:Int)<5:=(by omega);have i3:(1+(ai:Int)).toNat=1+ai:=(by omega);have i4:(0:Int)<=1+(v:Int):=(by omega);have i5:1+(v:Int)<5:=(by omega);have i6:(1+(v:Int)).toNat=1+v:=(by omega);have i7:(0:Int)<=(j:Int):=(by omega);have i8:(j:Int)<(L.length:Int):=(by omega);have i9:(0:Int)<=(i':Int):=(by omega);have ia:(i':Int)<(xf.ow.length:Int):=(by omega);have Wb:Hid (Ln.map (·.f)=(L.take j).map (λx=>aZ (mx x.f N))):=ab (uh hI).2;have HwB:=ab (uh hI).1.wB;clear hx bD rA TY xr hfg rX Ai BX m0 hI hbE;go_wp2_with fail
   go_quiet ((go_at_call 208;exact uh mL _))
   obtain⟨W4,xT⟩:∃W4,W4=wr.drewN nq:=⟨_,rfl⟩;rw[<-xT];have nR:Below wr.heap.size wr W4:=(by rw[xT];exact gz wr nq);have p6:=(nR.cell tD).trans c6;have p2:=(nR.cell Ef).trans b2;have p3:=(nR.cell Ef).trans b3;have zq:=ab nR;have wZ:Hid (∀W':World,Below wr.heap.size wr W'->Calls prog 236 #[.pointer (some ⟨xa,0,none⟩),.agg #[.int .i64 (ak:Int),.int .i64 (ai:Int)]] W' λe w''=>e=.returned (.int .i64 (b:Int))/\Below wr.heap.size wr w''):=ab (λW' hb=>(rJ (uh HPO W' hb).is ak ai hi).mono (λe w'' hw=>⟨by rw[uh JH];exact hw.1,hb.trans (hw.2.mono hb.size)⟩));clear xT nR;have alq:¬ (go=xa):=hgx;have hgX':¬ (go=X):=hgX;have asu:¬ (xa=go):=λe=>hgx e.symm;have arf:¬ (X=go):=λe=>hgX e.symm;go_wp2_with fail
   go_region_held3 (λW=>W.cell? ⟨xa,6,none⟩=some (.slice (some ⟨go,0,none⟩) xf.ow.length oc)/\W.cell? ⟨X,2,none⟩=some (.int .i64 (ak:Int))/\W.cell? ⟨X,3,none⟩=some (.int .i64 (ai:Int))) (first|(simp only[cell?_drew,p6,p2,p3,and_self];done)|(simp only[q6,q2,q3,and_self];done)|(simp[cell?_setCell_far,q6,q2,q3,alq,hgX'];done))
    (first
     |(go_at_call 236;refine(uh wZ _ (by first|exact(uh zq).drew|exact uh zq)).mono ?_;rintro e w6 ⟨rfl,kG⟩;have q6:=(kG.cell tD).trans c6;have q2:=(kG.cell Ef).trans b2;have q3:=(kG.cell Ef).trans b3;have TK:=uh HPO w6 kG;have y6:=(kG.cell nS).trans y2;have z6:=TK.is.ow.frozenAt (i'*3+2);have xH:=ab kG;have HF6:=ab TK;clear kG TK))
   have HPU:=ab (Fm.putO (uh HF6) xx b);go_wp2_with fail
   refine(uh rC (w6.setCell ⟨go,i'*3+2,none⟩ (.int .i64 (b:Int))) (by rw[<-uh LJ];exact(uh HPU).1) ((au.ofBw (F:=aH xa xav (.slice (some ⟨go,0,none⟩) xf.ow.length oc)) (uh xH)).trans (uh HPU).2.1)).mono ?_;rintro e w5 ⟨rfl,nv5,y5,hy5,Oj⟩;have HN:Hid (Lo W1 w5 O A f av ov r.2.1 r.2.2.1 r.2.2.2 nv5 (Ln++[y5]) B (.slice (some ⟨g2,0,none⟩) L.length lc) L (j+1)/\(Ln++[y5]).map (·.f)=(L.take (j+1)).map (λx=>aZ (mx x.f N))):=ab ⟨Oj,by rw[uh xK,map_append,uh Wb];simp[hy5]⟩;have Xm:(Ln++[y5]).length=j+1:=(by rw[length_append,length_singleton,Zz]);have Yg:=ab Xm;clear hy5 Oj Xm rC LJ xK Yb Wb uB HPO wZ zq xH HF6 HPU;go_wp2_with fail
   go_roundg (G-1)
   case rel=>exact⟨j+1,nv5,Ln++[y5],by omega,by go_num,uh Yg,HN⟩
   case measure=>omega
  .have hd:decide ((j:Int)<(L.length:Int))=false:=(by simp;omega);have hN:Ln.map (·.f)=r.1.map (λg=>aZ (mx g N)):=by
    rw[(uh hI).2,take_of_length_le (by omega),<-uh Wd,map_map];rfl
   have yj:=ab hN;clear hN;go_wp2_with fail
   go_end0
   exact⟨rfl,((uh hI).1.os.out (o:=bt r (λg=>mx g N)) (uh yj) rfl).pre (uh HBX)⟩
end
theorem I5:∀(l:List Pr) {g:CF} {c:Nat},(l.foldl (λh p=>b7 h c p.l) g).ap.length=g.ap.length+l.length
 |[],_,_=>rfl
 |p::r,g,c=>by
  rw[foldl_cons,I5 r (g:=b7 g c p.l),length_cons];show(g.ap++[_]).length+_=_;rw[length_append,length_singleton];omega
section
variable {w:World} {O A:Nat} {f:CF} {av ov:Value}
theorem N5{v:Nat}(h:Os w w O A f av ov false false false di di [] [])(hO:aq f)(ha:f.ap.length<=40000)(hv:v<4):
  Calls prog 240 #[.pointer (some ⟨O,0,none⟩),.pointer (some ⟨A,0,none⟩),.int .i64 v] w λe w'=>e=.returned (.tuple #[])/\pA w O (bt (dP f v) (λg=>kh g v)) w':=by
 have iE:=hO.owLen;have kO:=ab (im (N:=40000) hv hO ha);have Bx:=ab (si hv h.oo.bk h.ff hO ha h.of);obtain⟨r,hr⟩:∃r,r=dP f v:=⟨_,rfl⟩;rw[<-hr]at Bx kO;have Wm:Hid (r.1.length<=96):=ab (by rw[hr];exact uf hO v);rw[<-hr];have H1:=ab h;have i1:(0:Int)<=1+(v:Int):=by omega
 have i2:1+(v:Int)<5:=by omega
 have i3:(1+(v:Int)).toNat=1+v:=by omega
 clear h hO hr;go_enter func240,ntmps240;go_wp2_with fail
 refine(uh Bx).mono ?_;rintro e w2 ⟨lv,L,rfl,kT,Oi,CK,gQ⟩;have WS:=Lo.start (uh H1) kT (by simpa using CK) gQ;obtain⟨la,lc,ic,-,-⟩:=aj kT.row;subst ic;have Wd:=ab Oi;have hLL:L.length<=96:=by
  have h1:=congrArg List.length Oi;rw[length_map]at h1;have:=uh Wm;omega
 have cG:Hid (Lo w w2 O A f av ov r.2.1 r.2.2.1 r.2.2.2 di [] w.heap.size (.slice la L.length lc) L 0):=ab (by simpa using WS);clear kT Oi CK gQ WS Bx;obtain⟨B,hB⟩:∃B,B=w.heap.size:=⟨_,rfl⟩;rw[<-hB]at cG;clear hB;go_wp2_with fail
 go_loopg [17] L.length (λgn iv wx=>∃(j:Nat) (nv:Value) (Ln:List FE),j+gn=L.length/\iv=.int .i64 j/\Ln.length=j/\Hid (Lo w wx O A f av ov r.2.1 r.2.2.1 r.2.2.2 nv Ln B (.slice la L.length lc) L j/\Ln.map (·.f)=(L.take j).map (λx=>aZ (kh x.f v))))
 case atStart=>exact⟨0,di,[],by omega,rfl,rfl,ab ⟨uh cG,rfl⟩⟩
 case round =>
  clear cG;obtain⟨j,nv,Ln,BO,rfl,Zz,hI⟩:=hrel;obtain⟨G,hG⟩:∃G,G=gk:=⟨_,rfl⟩;by_cases f7:j<L.length
  .have hd:decide ((j:Int)<(L.length:Int))=true:=(by simp;omega);obtain⟨g2,cap2,dx,ay⟩:=(uh hI).1.pe.cell f7;simp only[Value.slice.injEq,true_and]at dx;obtain⟨rfl,rfl⟩:=dx;obtain⟨hx,-,-,-,-⟩:=(uh hI).1.pe.next f7;have bD:=uh kO L[j].f (by rw[<-uh Wd];exact mem_map_of_mem (getElem_mem f7));have rA:(L.take (j+1)).map (λx=>aZ (kh x.f v))=(L.take j).map (λx=>aZ (kh x.f v))++[aZ (kh L[j].f v)]:=by
    rw[take_add_one,getElem?_eq_getElem f7,map_append];rfl
   have uB:Hid (∀(x':FE) (W':World),au L[j].bs wr x'.bs W'->_):=ab (λx' W' hs=>(uh hI).1.mid (x':=x') f7 hs);obtain⟨x,BX⟩:∃x,x=L[j]:=⟨_,rfl⟩;rw[<-BX]at ay hx bD rA uB;obtain⟨i',m0⟩:=Option.isSome_iff_exists.1 bD.bg;obtain⟨xx,-⟩:=eC m0;obtain⟨xa,xf,xav,xov⟩:=x;simp only at ay hx bD rA m0 xx;have xc:=hx.is.cls (i:=1+v) (by omega);unfold gZ at xc;have hfrE:kh xf v=(gY xf i').ow.foldl (λh p=>b7 h (xf.cl.getD (1+v) 0) p.l) (b7 (gY xf i') (xf.cl.getD (1+v) 0) ((gY xf i').cl.getD 0 0)):=by
    have e:pZ xf (xf.cl.getD (1+v) 0)=i':=(by unfold pZ;rw[m0];rfl);show(gY xf (pZ xf (xf.cl.getD (1+v) 0))).ow.foldl _ (b7 (gY xf (pZ xf (xf.cl.getD (1+v) 0))) _ _)=_;rw[e]
   obtain⟨cx,xr⟩:∃cx,cx=xf.cl.getD (1+v) 0:=⟨_,rfl⟩;rw[<-xr]at xc m0 hfrE;have amq:=bD.ok.owLen;have mL:=ab (cI cx hx.is);rw[m0,show fL (some i')=(i':Int) from rfl]at mL;have HTA:=ab (yH hx (zq3 amq (by omega)) i');have rX:=mV bD;have rC:Hid (∀(W':World) (av' ov':Value),Fm W' xa (kh xf v) av' ov'->au (aH xa xav xov) wr (aH xa av' ov') W'->Calls prog 242 #[.pointer (some ⟨O,0,none⟩),.pointer (some ⟨xa,0,none⟩)] W' λe w''=>e=.returned (.tuple #[])/\∃nv' y,y.f=aZ (kh xf v)/\Lo w w'' O A f av ov r.2.1 r.2.2.1 r.2.2.2 nv' (Ln++[y]) B (.slice (some ⟨g2,0,none⟩) L.length lc) L (j+1)):=ab (λW' av' ov' hf hs=>by
    have hwB:=(uh hI).1.wB;obtain⟨m1,m2,m3,m4,m5⟩:=uh uB ⟨xa,kh xf v,av',ov'⟩ W' hs;refine(iA m1.oo hf rX.1 (zq3 rX.2 (by omega)) m2 (by omega)).mono ?_;rintro e w'' ⟨rfl,nv',y,-,hy,tB,aV⟩;exact⟨rfl,nv',y,hy,Lo.fin m1 m3 m4 m5 hwB tB aV⟩)
   have Ai:(FE.p ⟨xa,xf,xav,xov⟩)=.pointer (some ⟨xa,0,none⟩):=rfl;rw[Ai]at ay;have ast:=bD.ln;have htl:(gY xf i').ow.length<=24:=(bD.ok.tk i').owLen;have KT:(gY xf i').ap.length<=40000:=bD.ln;have xK:=ab rA;have HFE:=ab hfrE;have Wb:Hid (Ln.map (·.f)=(L.take j).map (λx=>aZ (kh x.f v))):=ab (uh hI).2;have i7:(0:Int)<=(j:Int):=(by omega);have i8:(j:Int)<(L.length:Int):=(by omega);clear hx bD rA xr hfrE rX Ai BX m0 hI;go_wp2_with fail
   refine(uh mL).mono ?_;rintro e w3 ⟨rfl,rfl⟩;go_wp2_with fail
   refine(uh HTA).mono ?_;rintro e w4 ⟨rfl,ov4,rU,fh⟩;obtain⟨T,hT⟩:∃T,T=gY xf i':=⟨_,rfl⟩;have Zr:Fm w4 xa T xav ov4:=(by rw[hT];exact rU);rw[<-hT]at HFE htl KT;have x0:=Zr.is.cls (i:=0) (by omega);unfold gZ at x0;obtain⟨n0,oS⟩:∃n0,n0=T.cl.getD 0 0:=⟨_,rfl⟩;rw[<-oS]at x0 HFE;have Wh:=ab (qX Zr cx n0 (zq3 KT (by omega)));have mA:=ab fh;clear rU Zr fh oS hT HTA mL xc ay;go_wp2_with fail
   refine(uh Wh).mono ?_;rintro e w5 ⟨rfl,av5,CE,fX⟩;have c6:=CE.is.c6;obtain⟨oa,oc,gj,-,-⟩:=aj CE.is.ow;have C2:ov4=.slice oa T.ow.length oc:=gj;subst C2;have oK:Hid (Fm w5 xa ((T.ow.take 0).foldl (λh p=>b7 h cx p.l) (b7 T cx n0)) av5 (.slice oa T.ow.length oc)/\au (aH xa xav xov) w3 (aH xa av5 (.slice oa T.ow.length oc)) w5):=ab ⟨CE,(uh mA).trans fX⟩;clear CE fX Wh x0 gj;go_wp2_with fail
   go_loopg [47] T.ow.length (λgn iv wx=>∃(m:Nat) (av6:Value),m+gn=T.ow.length/\iv=.int .i64 m/\Hid (Fm wx xa ((T.ow.take m).foldl (λh p=>b7 h cx p.l) (b7 T cx n0)) av6 (.slice oa T.ow.length oc)/\au (aH xa xav xov) w3 (aH xa av6 (.slice oa T.ow.length oc)) wx))
   case atStart=>exact⟨0,av5,by omega,rfl,oK⟩
   case round =>
    clear oK c6;obtain⟨m,av6,hmn,rfl,hJ⟩:=hrel;obtain⟨G2,Fi⟩:∃G2,G2=gk:=⟨_,rfl⟩;have howE:((T.ow.take m).foldl (λh p=>b7 h cx p.l) (b7 T cx n0)).ow=T.ow:=AQ _;have hapE:((T.ow.take m).foldl (λh p=>b7 h cx p.l) (b7 T cx n0)).ap.length<=100000:=by
     rw[I5];show(T.ap++[_]).length+(T.ow.take m).length<=_;rw[length_append,length_singleton,length_take];omega
    by_cases fy:m<T.ow.length
    .have kj:decide ((m:Int)<(T.ow.length:Int))=true:=(by simp;omega);have bE:wr.ownsRow 0 182 3 (.slice oa T.ow.length oc) T.ow.length (af T.ow):=by
      have:=(uh hJ).1.is.ow;rwa [howE]at this
     obtain⟨go,gc,oQ,-,-⟩:=aE bE fy;simp only[Value.slice.injEq,true_and]at oQ;obtain⟨rfl,rfl⟩:=oQ;obtain⟨y0,y1,y2⟩:=aD bE fy;have qd:=jE (g:=λh p=>b7 h cx p.l) (a:=b7 T cx n0) fy;obtain⟨p,hp⟩:∃p,p=T.ow.getD m ax:=⟨_,rfl⟩;rw[<-hp]at y0 y1 y2 qd;obtain⟨W1,dV⟩:∃W1,W1=wr.alloc (.cells #[Value.int .i64 p.k,.int .i64 p.l,.int .i64 p.r] 182):=⟨_,rfl⟩;have cf:Below wr.heap.size wr W1:=(by rw[dV];exact ah wr _);have mX:Bk W1 wr.heap.size 182 [Value.int .i64 p.k,.int .i64 p.l,.int .i64 p.r]:=(by rw[dV];exact Bk.new wr _ _);obtain⟨X,gV⟩:∃X,X=wr.heap.size:=⟨_,rfl⟩;rw[<-gV]at mX;have b1:=mX.cell 1 rfl;have Wi:=ab (qX ((uh hJ).1.below cf) cx p.l hapE);have HSB:=ab ((uh hJ).2.trans (au.ofBw cf));have ajp:=ab qd;have k1:(0:Int)<=(m:Int):=(by omega);have k2:(m:Int)<(T.ow.length:Int):=(by omega);clear bE qd hp cf mX hJ howE hapE;go_upto_region 10 with fail;rw[<-dV,<-gV];clear dV gV;go_wp2_with fail
     refine(uh Wi).mono ?_;rintro e w7 ⟨rfl,av7,TL,Ee⟩;have HN:Hid (Fm w7 xa ((T.ow.take (m+1)).foldl (λh p=>b7 h cx p.l) (b7 T cx n0)) av7 (.slice (some ⟨go,0,none⟩) T.ow.length oc)/\au (aH xa xav xov) w3 (aH xa av7 (.slice (some ⟨go,0,none⟩) T.ow.length oc)) w7):=ab ⟨by rw[uh ajp];exact TL,(uh HSB).trans Ee⟩;clear TL Ee Wi HSB;go_wp2_with fail
     go_roundg (G2-1)
     case rel=>exact⟨m+1,av7,by omega,by go_num,HN⟩
     case measure=>omega
    .have kj:decide ((m:Int)<(T.ow.length:Int))=false:=(by simp;omega);have hfe:(T.ow.take m).foldl (λh p=>b7 h cx p.l) (b7 T cx n0)=kh xf v:=(by rw[take_of_length_le (by omega)];exact(uh HFE).symm);rw[hfe]at hJ;clear hfe howE hapE;go_wp2_with fail
     refine(uh rC _ _ _ (uh hJ).1 (uh hJ).2).mono ?_;rintro e w8 ⟨rfl,nv8,y8,hy8,ae5⟩;have HN:Hid (Lo w w8 O A f av ov r.2.1 r.2.2.1 r.2.2.2 nv8 (Ln++[y8]) B (.slice (some ⟨g2,0,none⟩) L.length lc) L (j+1)/\(Ln++[y8]).map (·.f)=(L.take (j+1)).map (λx=>aZ (kh x.f v))):=ab ⟨ae5,by rw[uh xK,map_append,uh Wb];simp[hy8]⟩;have hl8:(Ln++[y8]).length=j+1:=(by rw[length_append,length_singleton,Zz]);have HL8:=ab hl8;clear hy8 ae5 hl8 rC xK Wb uB hJ;go_wp2_with fail
     go_roundg (G-1)
     case rel=>exact⟨j+1,nv8,Ln++[y8],by omega,by go_num,uh HL8,HN⟩
     case measure=>omega
  .have hd:decide ((j:Int)<(L.length:Int))=false:=(by simp;omega);have hN:Ln.map (·.f)=r.1.map (λg=>aZ (kh g v)):=by
    rw[(uh hI).2,take_of_length_le (by omega),<-uh Wd,map_map];rfl
   have yj:=ab hN;clear hN;go_wp2_with fail
   go_end0
   exact⟨rfl,(uh hI).1.os.out (o:=bt r (λg=>kh g v)) (uh yj) rfl⟩
end
def Yx(w:World)(o:MD)(O:Nat)(w':World):Prop:=∃nv tv Ln Lt,Oo w' O o.nu o.da o.fu nv tv Ln Lt/\Ln.map (·.f)=o.nx/\Lt.map (·.f)=o.ot/\(∀k∈ez O nv tv Ln Lt,w.heap.size<=k)/\Below w.heap.size w w'
theorem pA.own{w W w':World}{O:Nat}{o:MD}(h:pA W O o w')(hb:Below w.heap.size w W)(hO:w.heap.size<=O):Yx w o O w':=by
 obtain⟨nv,tv,Ln,Lt,h1,h2,h3,h4⟩:=h;refine⟨nv,tv,Ln,Lt,h1,h2,h3,λk hk=>?_,⟨h4.os.trans hb.os,h4.tape.trans hb.tape,h4.output.trans hb.output,zq3 hb.size h4.size,λk hk=>(h4.block k (zq6 hk hb.size) (λhn=>by rw[mem_singleton]at hn;omega)).trans (hb.block k hk)⟩⟩;rcases h4.foot k hk with q|q
 .rw[mem_singleton]at q;omega
 .exact zq3 hb.size q
theorem Oo.swap{w:World}{O:Nat}{nu da fu:Bool}{nv tv:Value}{Ln Lt:List FE}(h:Oo w O nu da fu nv tv Ln Lt):Oo ((w.setCell ⟨O,0,none⟩ tv).setCell ⟨O,1,none⟩ nv) O nu da fu tv nv Lt Ln:=by
 have c9:=nodup_cons.1 h.nd;have vy:=nodup_append.1 c9.2;have e:∀k,k≠O->((w.setCell ⟨O,0,none⟩ tv).setCell ⟨O,1,none⟩ nv).heap[k]?=w.heap[k]?:=λk hk=>(heap_setCell _ _ _ _ hk).trans (heap_setCell _ _ _ _ hk);refine⟨(h.bk.set 0 tv).set 1 nv,h.ot.of_eq (λk hk=>e k (λq=>c9.1 (by rw[<-q];exact mem_append_right _ hk))),h.nx.of_eq (λk hk=>e k (λq=>c9.1 (by rw[<-q];exact mem_append_left _ hk))),?_⟩;rw[nodup_cons,nodup_append];refine⟨λhm=>c9.1 ?_,vy.2.1,vy.1,λa ha b hb q=>vy.2.2 b hb a ha q.symm⟩;rcases mem_append.1 hm with q|q
 .exact mem_append_right _ q
 .exact mem_append_left _ q
section
variable {w:World} {A:Nat} {f:CF} {av ov:Value}
theorem NB{n:Nd}(h:ew w A f av ov)(hT:Td f)(hv:n.v<4)(hi:n.ai<4)(nU:n.op<=1000):
  Calls prog 203 #[RX n,.pointer (some ⟨A,0,none⟩)] w λe w'=>∃O,e=.returned (.pointer (some ⟨O,0,none⟩))/\Yx w (bL n f) O w':=by
 have hO:=hT.ok;have ha:f.ap.length<=40000:=zq3 hT.ln (by omega);have iE:=hO.owLen;obtain⟨oR,hoR⟩:∃oR,oR=bL n f:=⟨_,rfl⟩;obtain⟨W1,dV⟩:∃W1,W1=w.alloc (.cells #[Value.int .i64 (n.op:Int),.int .i64 (n.v:Int),.int .i64 (n.ak:Int),.int .i64 (n.ai:Int),.int .i64 (n.nx:Int),.int .i64 (n.ot:Int)] 186):=⟨_,rfl⟩;obtain⟨W2,jt⟩:∃W2,W2=W1.alloc (.cells #[Value.slice none 0 0,.slice none 0 0,.bool false,.bool false,.bool false] 280):=⟨_,rfl⟩;have bH:Below w.heap.size w W1:=by rw[dV];exact ah w _
 have aU:Below W1.heap.size W1 W2:=by rw[jt];exact ah W1 _
 have hX:Bk W2 w.heap.size 186 [Value.int .i64 (n.op:Int),.int .i64 (n.v:Int),.int .i64 (n.ak:Int),.int .i64 (n.ai:Int),.int .i64 (n.nx:Int),.int .i64 (n.ot:Int)]:=by
  refine Bk.below ?_ aU;rw[dV];exact Bk.new w _ _
 have BJ:Bk W2 W1.heap.size 280 [di,di,.bool false,.bool false,.bool false]:=by rw[jt];exact Bk.new W1 _ _
 have nV:W1.heap.size=w.heap.size+1:=by rw[dV];simp
 obtain⟨X,gV⟩:∃X,X=w.heap.size:=⟨_,rfl⟩;obtain⟨O,hOe⟩:∃O,O=W1.heap.size:=⟨_,rfl⟩;rw[<-gV]at hX;rw[<-hOe]at BJ;have hb:=bH.trans (aU.mono bH.size);have hwO:w.heap.size<=O:=by omega
 have hOs:Os W2 W2 O A f av ov false false false di di [] []:=Os.start ⟨BJ,Fl.nil0 _ _,Fl.nil0 _ _,by simp[bn,di,Value.ownBlock]⟩ (h.below hb) rfl (λhn=>by have:=h.lt O hn;omega);have afc:O=w.heap.size+1:=by omega
 have hXO:X≠O:=by omega
 have b0:=hX.cell 0 rfl;have b1:=hX.cell 1 rfl;have b2:=hX.cell 2 rfl;have b3:=hX.cell 3 rfl;have b4:=hX.cell 4 rfl;have b5:=hX.cell 5 rfl;have HS:=ab hOs;have HO:=ab hO;have HB:=ab hb;have HWO:=ab hwO;have HX:=ab hX;have RD:=ab hoR;obtain⟨z,hz⟩:∃z,z=(n.op:Int):=⟨_,rfl⟩;have HZ:=ab hz;rw[<-hoR];have Z2:oR=bL n f:=hoR;unfold bL at Z2;have GK:=ab Z2;have Rx:Hid (∀w':World,pA W2 O oR w'->∃O',(Ending.returned (.pointer (some ⟨O,0,none⟩)):Ending)=.returned (.pointer (some ⟨O',0,none⟩))/\Yx w oR O' w'):=ab (λw' hp=>⟨O,rfl,hp.own hb hwO⟩);have c9:RX n=.agg #[.int .i64 z,.int .i64 (n.v:Int),.int .i64 (n.ak:Int),.int .i64 (n.ai:Int),.int .i64 (n.nx:Int),.int .i64 (n.ot:Int)]:=by rw[hz];rfl
 rw[<-hz]at dV b0;clear h hT hO bH aU hX BJ nV hb hOs hoR hz Z2;rw[c9];have HND:Hid (RX n=.agg #[.int .i64 z,.int .i64 (n.v:Int),.int .i64 (n.ak:Int),.int .i64 (n.ai:Int),.int .i64 (n.nx:Int),.int .i64 (n.ot:Int)]):=ab c9;clear c9;go_enter func203,ntmps203;go_upto_region 2 with fail;rw[<-dV,<-jt,<-afc,<-gV];clear dV jt gV hOe afc;by_cases h0:n.op=0
 .have z0:z=0:=by rw[uh HZ,h0];rfl
  have HE:Hid (oR=sk):=ab (by rw[uh GK,if_pos h0]);subst z0;clear h0;go_wp2_with fail
  go_ret;exact uh Rx _ (by rw[uh HE];exact(uh HS).out (o:=sk) rfl rfl)
 .have z0:(z==0)=false:=by rw[uh HZ];simp;omega
  by_cases h4:n.op=4
  .have z4:z=4:=(by rw[uh HZ,h4];rfl);have HE:Hid (oR=if 24<=aw f then ⟨[],[],false,false,true⟩ else ⟨[aZ (zK f n.v)],[],false,false,false⟩):=ab (by rw[uh GK,if_neg h0,if_neg (by omega),if_neg (by omega),if_neg (by omega),if_pos h4]);have uz:=ab (EZ (v:=n.v) (uh HS) (uh HO) ha hv);rw[<-uh HE]at uz;subst z4;clear h0 h4 z0;go_wp2_with fail
   refine(uh uz).mono ?_;rintro e w3 ⟨rfl,hP⟩;have HP:=ab hP;clear hP uz;go_wp2_with fail
   go_ret;exact uh Rx _ (uh HP)
  .have z4:(z==4)=false:=(by rw[uh HZ];simp;omega);by_cases h5:n.op=5
   .have z5:z=5:=(by rw[uh HZ,h5];rfl);have HE:Hid (oR=bt (dP f n.v) (λg=>kh g n.v)):=ab (by rw[uh GK,if_neg h0,if_neg (by omega),if_neg (by omega),if_neg (by omega),if_neg (by omega),if_pos h5]);have uz:=ab (N5 (v:=n.v) (uh HS) (uh HO) ha hv);rw[<-uh HE]at uz;subst z5;clear h0 h4 h5 z0 z4;go_wp2_with fail
    refine(uh uz).mono ?_;rintro e w3 ⟨rfl,hP⟩;have HP:=ab hP;clear hP uz;go_wp2_with fail
    go_ret;exact uh Rx _ (uh HP)
   .have z5:(z==5)=false:=(by rw[uh HZ];simp;omega);by_cases h2:n.op=2
    .have z2:z=2:=(by rw[uh HZ,h2];rfl);have HE:Hid (oR=bt (dP f n.ai) (λg=>eG g n)):=ab (by rw[uh GK,if_neg h0,if_neg (by omega),if_pos h2]);have uz:=ab (E9 (uh HS) (uh HO) ha hv hi);rw[<-uh HE,uh HND]at uz;subst z2;clear h0 h4 h5 h2 z0 z4 z5;go_wp2_with fail
     refine(uh uz).mono ?_;rintro e w3 ⟨rfl,hP⟩;have HP:=ab hP;clear hP uz;go_wp2_with fail
     go_ret;exact uh Rx _ (uh HP)
    .have z2:(z==2)=false:=(by rw[uh HZ];simp;omega);by_cases h3:n.op=3
     .have z3:z=3:=(by rw[uh HZ,h3];rfl);have HE:Hid (oR=bt (dP f n.v) (λg=>mx g n)):=ab (by rw[uh GK,if_neg h0,if_neg (by omega),if_neg (by omega),if_pos h3]);have uz:=ab (PK (uh HS) (uh HO) ha hv hi);rw[<-uh HE,uh HND]at uz;subst z3;clear h0 h4 h5 h2 h3 z0 z4 z5 z2;go_wp2_with fail
      refine(uh uz).mono ?_;rintro e w3 ⟨rfl,hP⟩;have HP:=ab hP;clear hP uz;go_wp2_with fail
      go_ret;exact uh Rx _ (uh HP)
     .have z3:(z==3)=false:=(by rw[uh HZ];simp;omega);by_cases h8:n.op=8
      .have z8:z=8:=(by rw[uh HZ,h8];rfl);have HE:Hid (oR=⟨(jW f n).1,(jW f n).2,false,false,false⟩):=ab (by rw[uh GK,if_neg h0,if_neg (by omega),if_neg (by omega),if_neg (by omega),if_neg (by omega),if_neg (by omega),if_neg (by omega),if_pos h8]);have uz:=ab (sH (uh HS) (uh HO) ha hv hi);rw[<-uh HE,uh HND]at uz;subst z8;clear h0 h4 h5 h2 h3 h8 z0 z4 z5 z2 z3;go_wp2_with fail
       refine(uh uz).mono ?_;rintro e w3 ⟨rfl,hP⟩;have HP:=ab hP;clear hP uz;go_wp2_with fail
       go_ret;exact uh Rx _ (uh HP)
      .have z8:(z==8)=false:=(by rw[uh HZ];simp;omega);by_cases h9:n.op=9
       .have z9:z=9:=(by rw[uh HZ,h9];rfl);have HE:Hid (oR=⟨(jW f n).2,(jW f n).1,false,false,false⟩):=ab (by rw[uh GK,if_neg h0,if_neg (by omega),if_neg (by omega),if_neg (by omega),if_neg (by omega),if_neg (by omega),if_neg (by omega),if_neg (by omega),if_pos h9]);have uz:=ab (sH (n:=n) (uh HS) (uh HO) ha hv hi);rw[uh HND]at uz;subst z9;clear h0 h4 h5 h2 h3 h8 h9 z0 z4 z5 z2 z3 z8;go_wp2_with fail
        refine(uh uz).mono ?_;rintro e w3 ⟨rfl,nv,tv,Ln,Lt,tB,hm1,rz,aV⟩;obtain⟨na,nc,BT,-,-⟩:=aj tB.nx.row;subst BT;obtain⟨ta,tc,htv,-,-⟩:=aj tB.ot.row;subst htv;have o0:=tB.bk.cell 0 rfl;have o1:=tB.bk.cell 1 rfl;have oz:=tB.bk.frz 0;have CJ:=tB.bk.set 0 (.slice ta Lt.length tc);have o1':=CJ.cell 1 rfl;have oz':=CJ.frz 1;have hsw:=tB.swap;have hP:pA W2 O oR ((w3.setCell ⟨O,0,none⟩ (.slice ta Lt.length tc)).setCell ⟨O,1,none⟩ (.slice na Ln.length nc)):=by
         rw[uh HE];refine⟨_,_,Lt,Ln,hsw,rz,hm1,((aV.setCell (p:=⟨O,0,none⟩) (zq0 (by simp)) _).setCell (p:=⟨O,1,none⟩) (zq0 (by simp)) _).foots (λk hk=>aV.foot k ?_)⟩;simp only[ez,mem_cons,mem_append]at hk ⊢;rcases hk with q|q|q
         .exact zq0 q
         .exact zq1 (zq1 q)
         .exact zq1 (zq0 q)
        have HP:=ab hP;clear tB hm1 rz aV CJ hsw hP uz;go_wp2_with fail
        go_ret;exact uh Rx _ (uh HP)
       .have z9:(z==9)=false:=(by rw[uh HZ];simp;omega);by_cases h7:n.op=7
        .have z7:z=7:=(by rw[uh HZ,h7];rfl);have HE:Hid (oR=⟨[aZ f],[aZ f],false,false,false⟩):=ab (by rw[uh GK,if_neg h0,if_neg (by omega),if_neg (by omega),if_neg (by omega),if_neg (by omega),if_neg (by omega),if_pos h7]);have kM:=ab (cK (uh HS).ff (uh HO).c5 ha (zq3 iE (by omega)));subst z7;clear h0 h4 h5 h2 h3 h8 h9 h7 z0 z4 z5 z2 z3 z8 z9;go_wp2_with fail
         refine(uh kM).mono ?_;rintro e w3 ⟨A3,rfl,BI⟩;obtain⟨av3,ov3,mY⟩:=BI.frf;have On:=(uh HS).below mY.bw;have rC:=ab (iA On.oo mY.fm (uh HO) (zq3 ha (by omega)) ((uh HS).fresh mY.ge) (by simp));have H3:=ab On;have HG3:=ab mY.ge;clear BI mY On kM;go_wp2_with fail
         refine(uh rC).mono ?_;rintro e w4 ⟨rfl,nv4,x4,-,hx4,Pf,vD⟩;have Ko:=(uh H3).next (uh HG3) Pf vD;have adG:=ab (cK Ko.ff (uh HO).c5 ha (zq3 iE (by omega)));have H4:=ab Ko;have HX4:=ab hx4;clear Pf vD hx4 Ko rC;go_wp2_with fail
         refine(uh adG).mono ?_;rintro e w5 ⟨A5,rfl,hN5⟩;obtain⟨av5,ov5,CP⟩:=hN5.frf;have hO5:=(uh H4).below CP.bw;have Wr:=ab (wT hO5.oo CP.fm (uh HO) (zq3 ha (by omega)) ((uh H4).fresh CP.ge) (by simp));have H5:=ab hO5;have HG5:=ab (λk hk=>zq3 (uh H4).st.size (CP.ge k hk));clear hN5 CP hO5 adG;go_wp2_with fail
         refine(uh Wr).mono ?_;rintro e w6 ⟨rfl,tv6,x6,-,hx6,agx,C6⟩;have HN:=ab ((uh H5).next (uh HG5) agx C6);have HX6:=ab hx6;clear agx C6 hx6 Wr;go_wp2_with fail
         go_ret;exact uh Rx _ (by rw[uh HE];exact(uh HN).out (o:=⟨[aZ f],[aZ f],false,false,false⟩) (by simp[uh HX4]) (by simp[uh HX6]))
        .have z7:(z==7)=false:=(by rw[uh HZ];simp;omega);by_cases h1:n.op=1
         .have z1:z=1:=(by rw[uh HZ,h1];rfl);have HE:Hid (oR=⟨[aZ (setC f (1+n.v) (clT f n.ak n.ai))],[],false,false,false⟩):=ab (by rw[uh GK,if_neg h0,if_pos h1]);have wZ:Hid (∀W':World,Below W2.heap.size W2 W'->Calls prog 236 #[.pointer (some ⟨A,0,none⟩),.agg #[.int .i64 (n.ak:Int),.int .i64 (n.ai:Int)]] W' λe w''=>e=.returned (.int .i64 (clT f n.ak n.ai:Nat))/\Below W2.heap.size W2 w''):=ab (λW' hb=>(rJ ((uh HS).ff.below hb) n.ak n.ai hi).mono (λe w'' hw=>⟨hw.1,hb.trans (hw.2.mono hb.size)⟩));have HAS:Hid (∀W':World,Below W2.heap.size W2 W'->Calls prog 235 #[.pointer (some ⟨O,0,none⟩),.pointer (some ⟨A,0,none⟩),.int .i64 (n.v:Int),.int .i64 (clT f n.ak n.ai:Nat)] W' λe w''=>e=.returned (.tuple #[])/\pA W2 O oR w''/\Bk w'' X 186 [Value.int .i64 (n.op:Int),.int .i64 (n.v:Int),.int .i64 (n.ak:Int),.int .i64 (n.ai:Int),.int .i64 (n.nx:Int),.int .i64 (n.ot:Int)]):=ab (λW' hb=>(EQ ((uh HS).rebase hb) (uh HO) ha hv ((uh HO).cT _ _)).mono (λe w'' hw=>⟨hw.1,by rw[uh HE];exact hw.2.pre hb,by
           obtain⟨nv,tv,Ln,Lt,-,-,-,aV⟩:=hw.2;exact((uh HX).below hb).stp aV (by simpa using hXO)⟩))
          have Ef:=(uh HX).lt;obtain⟨cc,T4⟩:∃cc,cc=clT f n.ak n.ai:=⟨_,rfl⟩;rw[<-T4]at wZ HAS;obtain⟨nv',Uf⟩:∃q,q=n.v:=⟨_,rfl⟩;obtain⟨nk',Pd⟩:∃q,q=n.ak:=⟨_,rfl⟩;obtain⟨ni',Pc⟩:∃q,q=n.ai:=⟨_,rfl⟩;rw[<-Uf,<-Pd,<-Pc]at HAS;rw[<-Pd,<-Pc]at wZ;rw[<-Uf]at b1;rw[<-Pd]at b2;rw[<-Pc]at b3;rw[<-Uf,<-Pd,<-Pc];subst z1;clear h0 h4 h5 h2 h3 h8 h9 h7 h1 z0 z4 z5 z2 z3 z8 z9 z7 T4 Uf Pd Pc;go_upto_region 7 with fail;go_region_held3 (λW=>W.cell? ⟨X,1,none⟩=some (.int .i64 (nv':Int))/\W.cell? ⟨X,2,none⟩=some (.int .i64 (nk':Int))/\W.cell? ⟨X,3,none⟩=some (.int .i64 (ni':Int))) (first|(simp only[cell?_drew,b1,b2,b3,and_self];done)|(simp only[q1,q2,q3,and_self];done)|(simp only[r1,r2,r3,and_self];done))
           (first
            |(go_at_call 235;refine(uh HAS _ (uh s8)).mono ?_;rintro e w4 ⟨rfl,hP,ZN⟩;have r1:=ZN.cell 1 rfl;have r2:=ZN.cell 2 rfl;have r3:=ZN.cell 3 rfl;have HP:=ab hP;clear hP ZN)
            |(go_at_call 236;refine(uh wZ _ (Below.refl _ _).drew).mono ?_;rintro e w3 ⟨rfl,du⟩;have q1:=(du.cell Ef).trans b1;have q2:=(du.cell Ef).trans b2;have q3:=(du.cell Ef).trans b3;have s8:=ab du;clear du))
          go_wp2_with fail
          go_ret;exact uh Rx _ (uh HP)
         .have z1:(z==1)=false:=(by rw[uh HZ];simp;omega);have HE:Hid (oR=⟨[aZ f],[],false,false,false⟩):=ab (by rw[uh GK,if_neg h0,if_neg h1,if_neg h2,if_neg h3,if_neg h4,if_neg h5,if_neg h7,if_neg h8,if_neg h9]);have kM:=ab (cK (uh HS).ff (uh HO).c5 ha (zq3 iE (by omega)));clear h0 h4 h5 h2 h3 h8 h9 h7 h1;go_wp2_with fail
          refine(uh kM).mono ?_;rintro e w3 ⟨A3,rfl,BI⟩;obtain⟨av3,ov3,mY⟩:=BI.frf;have On:=(uh HS).below mY.bw;have rC:=ab (iA On.oo mY.fm (uh HO) (zq3 ha (by omega)) ((uh HS).fresh mY.ge) (by simp));have H3:=ab On;have HG3:=ab mY.ge;clear BI mY On kM;go_wp2_with fail
          refine(uh rC).mono ?_;rintro e w4 ⟨rfl,nv4,x4,-,hx4,Pf,vD⟩;have HN:=ab ((uh H3).next (uh HG3) Pf vD);have HX4:=ab hx4;clear Pf vD hx4 rC;go_wp2_with fail
          go_ret;exact uh Rx _ (by rw[uh HE];exact(uh HN).out (o:=⟨[aZ f],[],false,false,false⟩) (by simp[uh HX4]) rfl)
end
