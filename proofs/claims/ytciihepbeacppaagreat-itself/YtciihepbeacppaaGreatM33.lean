import Derived.Test.YtciihepbeacppaaGreatM30
import Derived.Test.YtciihepbeacppaaGreatM32
set_option maxRecDepth 100000
set_option maxHeartbeats 0
namespace Go.Proofs.YtciihepbeacppaaGreat
open Tryz Go.RowKit List World Below
set_option linter.unusedVariables false
def ivL(r:Rs)(z:Int):List CF:=if z<0 then [] else r.kn.getD z.toNat []
def rM(vs:List UInt8)(r:Rs)(z:Int):List (List UInt8):=(ivL r z).map (qe vs)
theorem agO{α:Type}{l:List α}{n:Nat}{d:α}(h:n<l.length):l.getD n d∈l:=by
 rw[getD_eq_getElem?_getD,getElem?_eq_getElem h];exact getElem_mem h
theorem UX(M N:List (List UInt8)):iw (M++N)=iw M++iw N:=by simp[iw]
theorem Qe{xs:List Value}{k:Nat}{a:Value}(h:k<xs.length):(xs.set k a).take (k+1)=xs.take k++[a]:=by
 rw[take_add_one,take_set_of_le (zq4 _),getElem?_set_self h];simp
section
variable {w w':World} {X Q:Nat} {ws:List ByteArray} {ps:PS} {al:List bC} {vv pv nv fv:Value} {Z:List Nat}
theorem wn(h:Pa w X Q ws ps al vv pv nv fv Z)(hA:An ps al)(hl:∀l∈(vU ps.nodes ps.vars.length al).kn,l.length<=1000000000001)(z:Int):
  Calls prog 37 #[.pointer (some ⟨X,0,none⟩),.int .i64 z] w λe w'=>∃v,e=.returned v/\w'.ownsRow w.heap.size 9 1 v (rM ps.vars (vU ps.nodes ps.vars.length al) z).length (iw (rM ps.vars (vU ps.nodes ps.vars.length al) z))/\(rM ps.vars (vU ps.nodes ps.vars.length al) z=[]->v=.slice none 0 0)/\∃RB w1,yh w X Q ws ps al vv pv nv Z RB w1/\Below w1.heap.size w1 w'/\∀k,v.ownBlock=some k->w1.heap.size<=k:=by
 obtain⟨j0,xC,hy0,hy1,Re⟩:=info_parts infoStr;have HEM:=ab (oE h.bx);have Xo:Hid (∀n,Calls prog 60 #[.pointer (some ⟨X,0,none⟩)] (w.drewN n) λe w'=>∃RB,e=.returned (.pointer (some ⟨RB,0,none⟩))/\yh w X Q ws ps al vv pv nv Z RB w'):=ab (λn=>(ry (w:=w.drewN n) (h.of_eq (w':=w.drewN n) (λ_ _=>rfl)) hA).mono (by
  rintro e w' ⟨RB,he,av,kv,FV,L,p1,p2,p3,p4⟩;exact⟨RB,he,av,kv,FV,L,p1,p2,⟨p3.os,p3.tape,p3.output,p3.size,p3.block,p3.foot⟩,p4⟩))
 obtain⟨r,hr⟩:∃r,r=vU ps.nodes ps.vars.length al:=⟨_,rfl⟩;rw[<-hr]at hl ⊢;have HR:=ab hr;have HHL:=ab hl;have qp:=hA.v;clear h hA hr hl;go_enter func37,ntmps37;go_wp2_with (first|(go_at_call 53;refine(uh HEM).mono ?_;rintro e w1 ⟨rfl,n,rfl⟩))
 refine(uh Xo _).mono ?_;rintro e w2 ⟨RB,rfl,hP⟩;have ko:w.heap.size<=w2.heap.size:=by obtain⟨av,kv,FV,L,p1,p2,p3,p4⟩:=hP;exact p3.size
 have HP:=ab hP;obtain⟨av,kv,FV,L,hPa,hFd,-,-⟩:=hP;rw[<-uh HR]at hFd;have r7:=hFd.bk.cell 2 rfl;obtain⟨ka,kc,BX,-,-⟩:=aj hFd.kr;have QK:=ab hFd;have FH:=ab hPa;rw[BX]at r7;have HKV:=ab BX;clear Xo HEM hFd hPa BX;by_cases eo:z<0
 .have d0:decide (z<0)=true:=by simp;omega
  have HE:Hid (rM ps.vars r z=[]):=ab (by unfold rM ivL;rw[if_pos eo];rfl);clear eo;go_wp2_with fail
  go_ret;refine⟨_,rfl,?_,λ_=>rfl,RB,w2,uh HP,Below.refl _ _,λk hk=>by cases hk⟩;rw[uh HE];exact⟨rfl,.inl ⟨rfl,rfl⟩⟩
 .have d0:decide (z<0)=false:=by simp;omega
  obtain⟨n,rfl⟩:∃n:Nat,z=n:=⟨z.toNat,by omega⟩;have Q7:rM ps.vars r (n:Int)=(r.kn.getD n []).map (qe ps.vars):=by unfold rM ivL;rw[if_neg eo,Int.toNat_natCast]
  have hLr:r.kn.length=L.length:=by rw[<-(uh QK).km,length_map]
  by_cases hn:n<L.length
  .have d1:decide ((L.length:Int)<=(n:Int))=false:=(by simp;omega);have i1:(n:Int)<(L.length:Int):=(by omega);have lX:r.kn.getD n []=(L.getD n []).map (λx=>x.f):=by
    rw[<-(uh QK).km,getD_eq_getElem?_getD,getElem?_map,getElem?_eq_getElem hn,getD_eq_getElem?_getD,getElem?_eq_getElem hn];rfl
   have lj:=(uh QK).ke n hn;have jE:=(uh QK).fl;have Q8:=(uh QK).kr;rw[uh HKV]at Q8;obtain⟨kb,kcap,hkb,-,-⟩:=bM Q8 (by omega);simp only[Value.slice.injEq,true_and]at hkb;obtain⟨rfl,rfl⟩:=hkb;have x0:=Q8.cellAt n (by omega);rw[show FV[n]?=some (FV.getD n aF) by rw[getD_eq_getElem?_getD,getElem?_eq_getElem (by omega)];rfl]at x0;obtain⟨M,hM⟩:∃M,M=L.getD n []:=⟨_,rfl⟩;have hMm:∀x∈M,dF w2 x.A x.f x.av x.ov/\Td x.f:=λx hx=>(uh QK).fm (L.getD n []) (agO hn) x (by rw[<-hM];exact hx);have We:M.length<=1000000000001:=by
    have h8:=uh HHL (r.kn.getD n []) (agO (by omega));rw[lX,length_map,<-hM]at h8;exact h8
   rw[<-hM]at lj lX;rw[lX,map_map]at Q7;have xB:(rM ps.vars r (n:Int)).length=M.length:=(by rw[Q7,length_map]);obtain⟨ma,mc,Wz,-,-⟩:=aj lj;rw[Wz]at x0 lj;have I2:=ab hMm;have HIV:=ab Q7;have iy:=ab lj;have HIL:=ab xB;clear lX hM hMm Q7 xB lj jE Q8 hLr Wz HHL eo;by_cases h0:M=[]
   .have d2:((M.length:Int)==(0:Int))=true:=(by rw[h0];rfl);have HE:Hid (rM ps.vars r (n:Int)=[]):=ab (by rw[uh HIV,h0];rfl);clear h0;go_wp2_with fail
    go_ret;refine⟨_,rfl,?_,λ_=>rfl,RB,w2,uh HP,Below.refl _ _,λk hk=>by cases hk⟩;rw[uh HE];exact⟨rfl,.inl ⟨rfl,rfl⟩⟩
   .have hM0:M.length≠0:=λe=>h0 (length_eq_zero_iff.1 e);have d2:((M.length:Int)==(0:Int))=false:=(by simp;omega);have su:Hid (rM ps.vars r (n:Int)≠[]):=ab (by rw[uh HIV];simpa using h0);clear h0;go_wp2_with (at_make;refine wpList_make_full _ rfl _ _ 50 rfl w2.heap.size 9 j0 (.string ⟨#[]⟩) 1 underlying50 xC hy0 hy1 .i64 .i64 _ _ M.length rfl rfl rfl rfl (by rw[Re];omega) (by unfold maxLen;omega) (zq4 _) ?_)
    intro w3 WD NN;have cB:Below w2.heap.size w2 w3:=(Below.refl _ _).grown NN (zq4 _) (λk h=>by cases h);obtain⟨b,Q1⟩:∃b,b=w2.heap.size:=⟨_,rfl⟩;have Ok:w3.ownsRow w2.heap.size 9 1 (.slice (some ⟨b,0,none⟩) M.length M.length) M.length (madeCells #[Value.string ⟨#[]⟩] M.length).toList:=(by rw[Q1];exact WD);have bX:Hid (w3.ownsRow w2.heap.size 9 1 (.slice (some ⟨b,0,none⟩) M.length M.length) M.length (madeCells #[Value.string ⟨#[]⟩] M.length).toList/\((madeCells #[Value.string ⟨#[]⟩] M.length).toList).take 0=iw ((M.take 0).map (λx=>qe ps.vars x.f))/\Below w2.heap.size w2 w3):=ab ⟨Ok,by simp[iw],cB⟩;rw[<-Q1];have nO:=ab Q1;have q0:=(uh FH).bx.cell 0 rfl;have q1:=(uh FH).cp.bk.cell 1 rfl;have yL:=(uh FH).bx.lt;have hQl:=(uh FH).cp.bk.lt;clear WD NN cB Ok Q1 r7 x0;go_wp2_with fail
    go_loopg [8] M.length (λgn iv wx=>∃(k:Nat) (xs:List Value),k+gn=M.length/\iv=.int .i64 k/\Hid (wx.ownsRow w2.heap.size 9 1 (.slice (some ⟨b,0,none⟩) M.length M.length) M.length xs/\xs.take k=iw ((M.take k).map (λx=>qe ps.vars x.f))/\Below w2.heap.size w2 wx))
    case atStart=>exact⟨0,_,by omega,rfl,bX⟩
    case round =>
     clear bX;obtain⟨k,xs,eV,rfl,hI⟩:=hrel;obtain⟨G1,yJ⟩:∃G1,G1=gk:=⟨_,rfl⟩;obtain⟨h1,h2,h3⟩:=uh hI;by_cases aq:k<M.length
     .have hd:decide ((k:Int)<(M.length:Int))=true:=(by simp;omega);have c0:wr.cell? ⟨X,0,none⟩=some (.pointer (some ⟨Q,0,none⟩)):=(h3.cell yL).trans q0;have c1:wr.cell? ⟨Q,1,none⟩=some vv:=(h3.cell hQl).trans q1;have iu:=dy (uh iy) h3;obtain⟨g,cap,cM,-,-,k9⟩:=bM (uh iy) (by omega);simp only[Value.slice.injEq,true_and]at cM;obtain⟨rfl,rfl⟩:=cM;have x0:=iu.cellAt k (by omega);have hxk:(M.map FE.p)[k]?=some (.pointer (some ⟨(M[k]).A,0,none⟩)):=(by rw[getElem?_map,getElem?_eq_getElem aq];rfl);rw[hxk]at x0;have fx:=uh I2 M[k] (getElem_mem aq);have aE:(M.take (k+1)).map (λx=>qe ps.vars x.f)=(M.take k).map (λx=>qe ps.vars x.f)++[qe ps.vars M[k].f]:=(by rw[take_succ_eq_append_getElem aq,map_append];rfl);have HWR:Hid (∀W':World,Below wr.heap.size wr W'->Calls prog 63 #[.pointer (some ⟨M[k].A,0,none⟩),vv] W' λe w''=>e=.returned (.string ⟨(qe ps.vars M[k].f).toArray⟩)/\Below wr.heap.size wr w''):=ab (λW' hb=>by
       have aL:=h3.trans (hb.mono h3.size);exact(KD (fx.1.below aL) fx.2 ((uh FH).cp.below aL).vr qp).mono (λe w'' hw=>⟨hw.1,hb.trans (hw.2.mono hb.size)⟩))
      obtain⟨fA,hfA⟩:∃fA,fA=M[k].A:=⟨_,rfl⟩;obtain⟨T,hT⟩:∃T,T=qe ps.vars M[k].f:=⟨_,rfl⟩;rw[<-hfA]at x0 HWR;rw[<-hT]at HWR aE;have cK:=ab aE;have H1:=ab h1;have H2:=ab h2;have H3:=ab h3;have hXw:=zq6 yL h3.size;have hQw:=zq6 hQl h3.size;have hgw:=zq6 k9 h3.size;have k1:(0:Int)<=(k:Int):=(by omega);have k2:(k:Int)<(M.length:Int):=(by omega);clear h1 h2 h3 iu hxk fx aE hfA hT hI;have nb1:¬ (b=g):=(by have:=uh nO;omega);have nb2:¬ (b=X):=(by have:=uh nO;omega);have nb3:¬ (b=Q):=(by have:=uh nO;omega);go_upto_region 11 with fail;go_region_held3 (λW=>W.cell? ⟨g,k,none⟩=some (.pointer (some ⟨fA,0,none⟩))/\W.cell? ⟨X,0,none⟩=some (.pointer (some ⟨Q,0,none⟩))/\W.cell? ⟨Q,1,none⟩=some vv) (first|(simp only[cell?_drew,x0,c0,c1,and_self];done)|(simp only[u0,u1,u2,and_self];done)|(simp[cell?_setCell_far,u0,u1,u2,nb1,nb2,nb3];done))
       (first
        |(go_at_call 63;refine(uh HWR _ (Below.refl _ _).drew).mono ?_;rintro e w6 ⟨rfl,ib⟩;have u0:=(ib.cell hgw).trans x0;have u1:=(ib.cell hXw).trans c0;have u2:=(ib.cell hQw).trans c1;have h16:=dy (uh H1) ib;obtain⟨yv,y0⟩:∃yv,w6.cell? ⟨b,k,none⟩=some yv:=⟨_,(h16.cellAt k (by rw[Nat.mul_one];exact aq)).trans (getElem?_eq_getElem (by rw[h16.1];omega))⟩;have z6:=h16.frozenAt k;have tt:=ab ib;have H16:=ab h16;clear ib h16))
      all_goals
       go_wp2_with fail
       go_roundg (G1-1)
       case rel=>exact⟨k+1,xs.set k (.string ⟨T.toArray⟩),by omega,by go_num,ab ⟨((uh H16).stored k (.string ⟨T.toArray⟩)).1,by rw[Qe (by have:=(uh H16).1;omega),uh H2,uh cK,UX];rfl,((uh H3).trans ((uh tt).mono (uh H3).size)).setCell (p:=⟨b,k,none⟩) (by rw[uh nO];exact zq4 _) _⟩⟩
       case measure=>omega
     .have hd:decide ((k:Int)<(M.length:Int))=false:=(by simp;omega);have hxs:xs=iw (rM ps.vars r (n:Int)):=by
       have h4:=h2;rw[take_of_length_le (by rw[h1.1];omega),take_of_length_le (by omega)]at h4;rw[uh HIV];exact h4
      have HN:=ab (zq2 (show wr.ownsRow w2.heap.size 9 1 (.slice (some ⟨b,0,none⟩) M.length M.length) M.length (iw (rM ps.vars r (n:Int))) by rw[<-hxs];exact h1) h3);clear h1 h2 h3 hI hxs;go_wp2_with fail
      go_ret;exact⟨_,rfl,by rw[uh HIL];exact dA (uh HN).1 ko,λe=>absurd e (uh su),RB,w2,uh HP,(uh HN).2,λk hk=>by(have e0:=uh nO;have e1:b=k:=(by injection hk);omega)⟩
  .have d1:decide ((L.length:Int)<=(n:Int))=true:=(by simp;omega);have HE:Hid (rM ps.vars r (n:Int)=[]):=ab (by rw[Q7,getD_eq_getElem?_getD,getElem?_eq_none (by omega)];rfl);clear eo Q7 hLr;go_wp2_with fail
   go_ret;refine⟨_,rfl,?_,λ_=>rfl,RB,w2,uh HP,Below.refl _ _,λk hk=>by cases hk⟩;rw[uh HE];exact⟨rfl,.inl ⟨rfl,rfl⟩⟩
end
def wQ(ws:List ByteArray):Rs:=vU (lu ws bY).nodes (lu ws bY).vars.length (fZ ws bY)
def AnW(ws:List ByteArray):Prop:=An (lu ws bY) (fZ ws bY)
def sA(w:World)(X:Nat)(ws:List ByteArray)(G:List Nat):Prop :=
 ∃Q vv pv nv fv Z,Pa w X Q ws (lu ws bY) (fZ ws bY) vv pv nv fv Z/\G=X::(Ar Q vv pv nv++Z)
section
variable {w w':World} {X:Nat} {ws:List ByteArray} {G:List Nat}
theorem sA.of_eq(h:sA w X ws G)(he:∀k∈G,w'.heap[k]?=w.heap[k]?):sA w' X ws G:=by
 obtain⟨Q,vv,pv,nv,fv,Z,h1,rfl⟩:=h;refine⟨Q,vv,pv,nv,fv,Z,h1.of_eq (λk hk=>he k ?_),rfl⟩;rcases hk with rfl|hk|hk
 .exact mem_cons_self
 .exact mem_cons_of_mem _ (mem_append_left _ hk)
 .exact mem_cons_of_mem _ (mem_append_right _ hk)
theorem sA.lt(h:sA w X ws G):∀k∈G,k<w.heap.size:=by
 obtain⟨Q,vv,pv,nv,fv,Z,h1,rfl⟩:=h;intro k hk;refine h1.lt k ?_;rcases mem_cons.1 hk with rfl|hk
 .exact zq0 rfl
 .rcases mem_append.1 hk with hk|hk
  .exact zq1 (zq0 hk)
  .exact zq1 (zq1 hk)
theorem sA.mem(h:sA w X ws G):X∈G:=by
 obtain⟨Q,vv,pv,nv,fv,Z,h1,rfl⟩:=h;exact mem_cons_self
theorem sA.below(h:sA w X ws G)(hb:Below w.heap.size w w'):sA w' X ws G:=h.of_eq (λk hk=>hb.block k (h.lt k hk))
theorem IsL.prg{B:Nat}(h:IsL B w X ws (lu ws bY) (fZ ws bY)):∃G,sA w X ws G/\∀k∈G,B<=k:=by
 obtain⟨Q,h0,hB,h1⟩:=h;obtain⟨vv,pv,nv,hC,cq⟩:=h1.cp;have bQ:Bk w X 88 [aaQ Q,.pointer none]:=h0;have aR:∀{e sz n:Nat} {v:Value} {xs:List Value},w.ownsRow 0 e sz v n xs->e≠88->∀k,v.ownBlock=some k->X≠k:=by
  intro e sz n v xs hr aJ k hk hXk;rcases hr.2 with⟨rfl,-⟩|⟨g,cap,cur,rfl,-,hg,-⟩
  .cases hk
  .have e1:g=k:=(by injection hk);rw[e1,<-hXk]at hg;unfold Bk at bQ;rw[bQ]at hg;injection hg with hg;injection hg with _ hg;exact aJ hg.symm
 have hPa:Pa w X Q ws (lu ws bY) (fZ ws bY) vv pv nv (.pointer none) []:=by
  refine⟨bQ,hC,zq0 ⟨rfl,rfl⟩,λhm=>?_,by simp⟩;simp only[Ar,mem_cons,mem_append,Option.mem_toList]at hm;rcases hm with rfl|hm|hm|hm
  .have h2:=hC.bk;unfold Bk at h2 bQ;rw[h2]at bQ;injection bQ with bQ;injection bQ with _ bQ;revert bQ;decide
  .exact aR hC.vr (by decide) X hm rfl
  .exact aR hC.pr (by decide) X hm rfl
  .exact aR hC.nr (by decide) X hm rfl
 refine⟨_,⟨Q,vv,pv,nv,_,[],hPa,rfl⟩,λk hk=>?_⟩;rcases mem_cons.1 hk with rfl|hk
 .exact hB
 .rw[append_nil]at hk;exact cq k hk
structure Ask(w:World)(X:Nat)(ws:List ByteArray)(G G':List Nat)(w':World):Prop where
 pg:sA w' X ws G'
 st:ar [X] w [X] w'
 gr:∀k∈G',k∈G\/w.heap.size<=k
theorem yh.ask{Q RB:Nat}{vv pv nv:Value}{Z:List Nat}{w1:World}(hG:G=X::(Ar Q vv pv nv++Z))(h:yh w X Q ws (lu ws bY) (fZ ws bY) vv pv nv Z RB w1)(hb:Below w1.heap.size w1 w'):∃G',Ask w X ws G G' w':=by
 obtain⟨av,kv,FV,L,h1,-,h3,h4⟩:=h;refine⟨X::(Ar Q vv pv nv++V2 RB av kv FV L),⟨Q,vv,pv,nv,_,_,h1.below hb,rfl⟩,⟨hb.os.trans h3.os,hb.tape.trans h3.tape,hb.output.trans h3.output,zq3 h3.size hb.size,λk hk hX=>(hb.block k (zq6 hk h3.size)).trans (h3.block k hk hX),λk hk=>zq0 hk⟩,λk hk=>?_⟩;rw[hG];rcases mem_cons.1 hk with rfl|hk
 .exact zq0 mem_cons_self
 .rcases mem_append.1 hk with hk|hk
  .exact zq0 (mem_cons_of_mem _ (mem_append_left _ hk))
  .rcases h4 k hk with hk|hk
   .exact zq0 (mem_cons_of_mem _ (mem_append_right _ hk))
   .exact zq1 hk
theorem sA.verdict(h:sA w X ws G)(hA:AnW ws):Calls prog 33 #[.pointer (some ⟨X,0,none⟩)] w λe w'=>e=.returned (.int .i64 ((wQ ws).vd:Nat))/\∃G',Ask w X ws G G' w':=by
 obtain⟨Q,vv,pv,nv,fv,Z,h1,hG⟩:=h;refine(CV h1 hA).mono ?_;rintro e w1 ⟨rfl,RB,hP⟩;exact⟨rfl,hP.ask hG (Below.refl _ _)⟩
theorem sA.invariant2(h:sA w X ws G)(hA:AnW ws)(z:Int):Calls prog 37 #[.pointer (some ⟨X,0,none⟩),.int .i64 z] w λe w'=>∃v,e=.returned v/\w'.ownsRow w.heap.size 9 1 v (rM (lu ws bY).vars (wQ ws) z).length (iw (rM (lu ws bY).vars (wQ ws) z))/\(rM (lu ws bY).vars (wQ ws) z=[]->v=.slice none 0 0)/\∃G',Ask w X ws G G' w'/\∀k,v.ownBlock=some k->k ∉ G':=by
 obtain⟨Q,vv,pv,nv,fv,Z,h1,hG⟩:=h;refine(wn h1 hA (AY hA) z).mono ?_;rintro e w2 ⟨v,rfl,g1,g2,RB,w1,hP,hb,g3⟩;obtain⟨G1,h2⟩:=hP.ask (w':=w1) hG (Below.refl _ _);refine⟨v,rfl,g1,g2,G1,⟨h2.pg.below hb,⟨hb.os.trans h2.st.os,hb.tape.trans h2.st.tape,hb.output.trans h2.st.output,zq3 h2.st.size hb.size,λk hk hX=>(hb.block k (zq6 hk h2.st.size)).trans (h2.st.block k hk hX),λk hk=>zq0 hk⟩,h2.gr⟩,λk hk hm=>?_⟩;have:=g3 k hk;have:=h2.pg.lt k hm;omega
theorem sA.invariant(h:sA w X ws G)(hA:AnW ws)(z:Int):Calls prog 37 #[.pointer (some ⟨X,0,none⟩),.int .i64 z] w λe w'=>∃v,e=.returned v/\w'.ownsRow w.heap.size 9 1 v (rM (lu ws bY).vars (wQ ws) z).length (iw (rM (lu ws bY).vars (wQ ws) z))/\(rM (lu ws bY).vars (wQ ws) z=[]->v=.slice none 0 0)/\∃G',Ask w X ws G G' w' :=
 (h.invariant2 hA z).mono (λ_ _ ⟨v,e,g1,g2,G',h1,_⟩=>⟨v,e,g1,g2,G',h1⟩)
theorem sA.nodes(h:sA w X ws G):Calls prog 29 #[.pointer (some ⟨X,0,none⟩)] w λe w'=>e=.returned (.int .i64 (lu ws bY).nodes.length)/\∃n,w'=w.drewN n:=by
 obtain⟨Q,vv,pv,nv,fv,Z,h1,-⟩:=h;have HE:=ab (oE h1.bx);have c0:w.cell? ⟨X,0,none⟩=some (.pointer (some ⟨Q,0,none⟩)):=h1.bx.cell 0 rfl;have q0:=h1.cp.bk.cell 3 rfl;obtain⟨aa,ac,jO,-,-⟩:=aj h1.cp.nr;subst jO;clear h1;go_enter func29,ntmps29;go_wp2_with (go_at_call 53;refine(uh HE).mono ?_;rintro e w' ⟨rfl,n,rfl⟩)
 go_ret;exact⟨rfl,_,rfl⟩
end
def Dsk(w:World)(Y X:Nat)(s:ByteArray):Prop:=Bk w Y 36 [.pointer (some ⟨X,0,none⟩),.string s,.slice none 0 0,.slice none 0 0]
theorem Mr(s:ByteArray)(w:World):Calls prog 16 #[.string s] w λe w'=>Below w.heap.size w w'/\(((240<s.size\/lJ s.data.toList≠0)/\e=.returned (.tuple #[.pointer none,.bool true])) \/
  (s.size<=240/\lJ s.data.toList=0/\∃Y X G,e=.returned (.tuple #[.pointer (some ⟨Y,0,none⟩),.bool true])/\Dsk w' Y X s/\w.heap.size<=Y/\Y ∉ G/\sA w' X (bN s.data.toList) G/\∀k∈G,w.heap.size<=k)):=by
 by_cases hl:240<s.size
 .have d0:decide ((240:Int)<(s.size:Int))=true:=by simp;omega
  go_enter func16,ntmps16;go_wp2_with fail
  go_ret2;exact⟨Below.refl _ _,zq0 ⟨zq0 hl,rfl⟩⟩
 .have d0:decide ((240:Int)<(s.size:Int))=false:=by simp;omega
  have HLD:=ab (OR s w (by omega));go_enter func16,ntmps16;go_wp2_with fail
  refine(uh HLD).mono ?_;rintro e w1 ⟨hb,⟨aJ,rfl⟩|⟨h0,X,rfl,hL⟩⟩
  .have d1:((lJ s.data.toList:Int)==0)=false:=(by simp;omega);obtain⟨z,hz⟩:∃z,z=lJ s.data.toList:=⟨_,rfl⟩;rw[<-hz]at d1 aJ ⊢;have HB:=ab hb;have HZ:=ab hz;clear hb HLD hz;go_wp2_with fail
   go_ret2;have ep:((z:Int) != 0)=true:=(by simp;omega);exact⟨uh HB,zq0 ⟨zq1 (by rw[<-uh HZ];exact aJ),by rw[<-ep];rfl⟩⟩
  .obtain⟨G,hG,cq⟩:=IsL.prg (show IsL w.heap.size w1 X (bN s.data.toList) (lu (bN s.data.toList) bY) (fZ (bN s.data.toList) bY) from hL);have HN:Hid (Below w.heap.size w (w1.alloc (.cells #[.pointer (some ⟨X,0,none⟩),.string s,.slice none 0 0,.slice none 0 0] 36))/\Dsk (w1.alloc (.cells #[.pointer (some ⟨X,0,none⟩),.string s,.slice none 0 0,.slice none 0 0] 36)) w1.heap.size X s/\w.heap.size<=w1.heap.size/\w1.heap.size ∉ G/\sA (w1.alloc (.cells #[.pointer (some ⟨X,0,none⟩),.string s,.slice none 0 0,.slice none 0 0] 36)) X (bN s.data.toList) G/\∀k∈G,w.heap.size<=k):=ab ⟨hb.trans ((ah w1 _).mono hb.size),Bk.new w1 _ _,hb.size,λhm=>by have:=hG.lt _ hm;omega,hG.below (ah w1 _),cq⟩;have H0:=ab h0;clear hb hL hG cq HLD h0;go_wp2_with fail
   go_ret2;exact⟨(uh HN).1,zq1 ⟨by omega,uh H0,_,X,G,rfl,(uh HN).2⟩⟩
theorem aaV{l:List UInt8}(h:lJ l=0):NdS (b7 l).nodes (b7 l).vars.length:=by
 obtain⟨-,-,hf,hv,-⟩:=uN h;have hA:=ky h;obtain⟨M,hR⟩:=uM hf;have hQ:ip (b7 l):=ag0 (bN l);have fx:∀n,(b7 l).nodes.getD n aS∈(b7 l).nodes\/(b7 l).nodes.getD n aS=aS:=λn=>by
  rw[getD_eq_getElem?_getD];cases hg:(b7 l).nodes[n]? with
  |none=>exact zq1 rfl
  |some x=>exact zq0 (mem_of_getElem? hg)
 have oj:∀nd∈(b7 l).nodes,(Lw (b7 l).vars.length nd.v/\nd.op<=10)\/nd.op=0:=λnd c9=>by
  rw[show(b7 l).nodes=M++[{ lr with nx:=M.length+1 }] from hR.nd]at c9;rcases mem_append.1 c9 with c9|c9
  .obtain⟨k,hk,rfl⟩:=mem_iff_getElem.1 c9;have:=hR.go k _ (getElem?_eq_getElem hk);exact zq0 ⟨this.1,this.2.2.1.2⟩
  .rw[mem_singleton.1 c9];exact zq1 rfl
 refine⟨hA.n,λn=>?_,λn AD=>?_,λn=>?_⟩
 .rcases fx n with h1|h1
  .exact hQ.ak _ h1
  .rw[h1];exact⟨by decide,λe=>by cases e⟩
 .rcases fx n with h1|h1
  .rcases oj _ h1 with⟨h2,-⟩|h2
   .by_cases h0:(b7 l).vars.length=0
    .exact absurd (hQ.nv hf h0 _ h1) AD
    .rcases h2 with h2|h2 <;> omega
   .exact absurd (zq1 (zq1 (zq1 h2))) AD
  .rw[h1]at AD;exact absurd (zq1 (zq1 (zq1 rfl))) AD
 .rcases fx n with h1|h1
  .rcases oj _ h1 with⟨-,h2⟩|h2 <;> omega
  .rw[h1];decide
theorem DG{s:Sr}(h:RS s.wr=[])(n k:Nat)(hk:k=2\/k=3\/k=4):KN s n k=false:=by
 cases hf:KN s n k with
 |false=>rfl
 |true =>
  exfalso;have hn:n<s.wr.length:=by
   apply Classical.byContradiction;intro hc;unfold KN at hf;have e:s.wr.getD n []=[]:=(by rw[getD_eq_getElem?_getD,getElem?_eq_none (by omega)];rfl);rw[e]at hf;simp at hf
  have:(n,k)∈RS s.wr:=by
   unfold RS;refine mem_flatMap.2 ⟨n,by simpa using hn,mem_map.2 ⟨k,mem_filter.2 ⟨?_,hf⟩,rfl⟩⟩;rcases hk with rfl|rfl|rfl <;> simp
  rw[h]at this;simp at this
theorem CJ{ps:PS}{al:List bC}(hA:An ps al)(hv:(vU ps.nodes ps.vars.length al).vd=0):
  SfS (Ao ps.nodes ps.vars.length al) (oS ps.nodes ps.vars.length al)/\∀cs t,CsH cs->CX cs t (sG (aG al) ps.vars.length)->KnH (oS ps.nodes ps.vars.length al) 0 cs t:=by
 obtain⟨c,hc⟩:∃c,c=Ao ps.nodes ps.vars.length al:=⟨_,rfl⟩;have fQ:c.nds=ps.nodes:=by rw[hc];rfl
 have hS:Sf (oS ps.nodes ps.vars.length al):=by
  unfold vU AM at hv;split at hv
  .cases hv
  .rename_i dW;refine⟨by simpa using dW,DG ?_⟩;apply Classical.byContradiction;intro h0;have hv:(if RS (oS ps.nodes ps.vars.length al).wr=[] then 0 else 1)=0:=hv;rw[if_neg h0]at hv;cases hv
 have bf:=hA.ok;unfold oS at hS bf ⊢;rw[<-hc]at hS bf ⊢;have h0:=zR ps.nodes;have nC:ps.nodes.length-1<ps.nodes.length:=by have:=hA.p;omega
 have key:gZ ps.nodes.length (dL c 4000 ps.vars.length al (jH ps.nodes))/\I7 c (dL c 4000 ps.vars.length al (jH ps.nodes)) 0 []/\(Sf (dL c 4000 ps.vars.length al (jH ps.nodes))->∀cs t,CsH cs->CX cs t (sG (aG al) ps.vars.length)->KnH (dL c 4000 ps.vars.length al (jH ps.nodes)) 0 cs t):=by
  have hJ0:∀{s:Sr},jc (jH ps.nodes) s->I7 c s 0 []:=λho n e he hd=>by
   have:=ho n e he hd;rw[Fj]at this;simp at this
  unfold dL;split
  .rename_i lF;refine⟨h0,hJ0 (jc.refl _),λ_ cs t uc Dm=>?_⟩;exfalso;obtain⟨v,h1,h2⟩:=kq.1 Dm;have hm:XT (cs.map (·.1)) (cs.map (·.2)) v (aG al):=by
    refine⟨?_,h1.ap,h1.sp⟩;have:=h1.nl;rwa [show(sG (aG al) ps.vars.length).cl.getD 0 0=(aG al).cl.getD 0 0 from rfl]at this
   have:=Yo hm uc.nd (λa ha=>by obtain⟨d,hd,rfl⟩:=mem_map.1 ha;exact uc.ps d hd);rw[this]at lF;cases lF
  .rename_i lF;have fs:=gy (jA hA.a.tm (by simpa using lF)) ps.vars.length;rw[fQ];obtain⟨k1,k2,k3⟩:=nR (c:=c) (fuel:=4000) (a:=ps.nodes.length-1) (b:=0) fs.tidy h0 nC hA.p;refine⟨k2,hJ0 (FY fs.tidy h0 nC hA.p),λhSf cs t uc Dm=>k3 hSf _ (Md uc) (Dm.td fs)⟩
 obtain⟨r1,r2,r3⟩:=mM (c:=c) (fuel:=4000) (by rw[fQ]) (by rw[fQ];exact hA.n) 1000000 key.1;exact⟨⟨r2.td,r3 bf hS key.2.1⟩,λcs t uc Dm=>r1.knH _ _ _ uc (key.2.2 (r1.sf hS) cs t uc Dm)⟩
section
variable {f g:CF}
theorem Od{cl:List Nat}{ap ap' ow ow':List Pr}(h:∀p,p∈ow'↔p∈ow):fO ⟨cl,ap,ow⟩↔fO ⟨cl,ap',ow'⟩:=by
 constructor
 .intro hF B h1 h2 p hp;exact hF B h1 (λq hq=>h2 q ((h q).2 hq)) p ((h p).1 hp)
 .intro hF B h1 h2 p hp;exact hF B h1 (λq hq=>h2 q ((h q).1 hq)) p ((h p).2 hp)
theorem Zx:fO (my f)↔fO f:=Iff.rfl
theorem ZC:fO (orF f)↔fO f:=(Od (cl:=f.cl) (ap:=f.ap) (ap':=(orF f).ap) (ow:=f.ow) (λ_=>gC)).symm
theorem ZD(hk:am f):fO (uQ f)↔fO f:=by
 have dX:=j8 hk.ow hk.cl hk.lf;have hg:∀c,c∈db f->(eF f).getD ((eF f).idxOf c) 0=c:=λc hc=>by
  rw[getD_eq_getElem?_getD,getElem?_eq_getElem (idxOf_lt_length_iff.2 (dX c hc))];simp
 have du:∀i,i<5->f.cl.getD i 0∈db f:=λi hi=>mem_append_left _ (eI hi);have hl:∀p∈f.ow,p.l∈db f/\p.r∈db f:=λp hp=>⟨mem_append_right _ (mem_flatMap.2 ⟨p,hp,by simp⟩),mem_append_right _ (mem_flatMap.2 ⟨p,hp,by simp⟩)⟩;constructor
 .intro hF B h1 h2 p hp;have:=hF (λn=>B ((eF f).getD n 0)) (λi hi=>by
   show B ((eF f).getD ((uQ f).cl.getD i 0) 0);rw[show(uQ f).cl.getD i 0=(eF f).idxOf (f.cl.getD i 0) from lN f (λc=>(eF f).idxOf c) hi,hg _ (du i hi)];exact h1 i hi) (λq hq hB=>by
   obtain⟨q,xF,rfl⟩:=mem_map.1 (show q∈f.ow.map (qs (eF f)) from hq);have hB:B ((eF f).getD ((eF f).idxOf q.l) 0):=hB;show B ((eF f).getD ((eF f).idxOf q.r) 0);rw[hg _ (hl q xF).1]at hB;rw[hg _ (hl q xF).2];exact h2 q xF hB) (qs (eF f) p) (mem_map.2 ⟨p,hp,rfl⟩)
  have this:B ((eF f).getD ((eF f).idxOf p.l) 0):=this;rw[hg _ (hl p hp).1]at this;exact this
 .intro hF B h1 h2 p hp;obtain⟨p,hp1,rfl⟩:=mem_map.1 (show p∈f.ow.map (qs (eF f)) from hp);exact hF (λc=>B ((eF f).idxOf c)) (λi hi=>by
   have:=h1 i hi;rw[show(uQ f).cl.getD i 0=(eF f).idxOf (f.cl.getD i 0) from lN f (λc=>(eF f).idxOf c) hi]at this;exact this) (λq hq hB=>h2 (qs (eF f) q) (mem_map.2 ⟨q,hq,rfl⟩) hB) p hp1
theorem lY(hk:am f):fO (bz f)↔fO f:=ZC.trans ((ZD hk.fg).trans Zx)
theorem Tx{k:Nat}(hk:am f)(hs:Ff f=some k):fO (qH f k)↔fO f:=by
 obtain⟨hi,hp⟩:k<f.ow.length/\IB f (f.ow.getD k au)=true:=by
  unfold Ff at hs;obtain⟨h1,h2,-⟩:=findIdx?_eq_some_iff_getElem.1 hs;exact⟨h1,by rw[bK h1];exact h2⟩
 obtain⟨p,wh⟩:∃p,p=f.ow.getD k au:=⟨_,rfl⟩;rw[<-wh]at hp;obtain⟨uj,aJ,hc⟩:=IC hp;have uk:=mr hi;rw[<-wh]at uk;have r7:(rp f.ow k).countP (λq=>decide (q.r=p.l))=1:=by
  have:=uk.countP_eq (λq=>decide (q.r=p.l));unfold Da at hc;rw[hc,countP_cons,decide_eq_false aJ]at this;simpa using this.symm
 obtain⟨q,R,hqR,hq,hR⟩:=wX r7;have hq:q.r=p.l:=by simpa using hq
 have hR:∀x∈R,x.r≠p.l:=λx hx=>by simpa using hR x hx
 have dh:f.ow.Perm (p::q::R):=uk.trans (hqR.cons p);have c9:((p::q::R).map (λx:Pr=>x.l)).Nodup:=(dh.map (λx:Pr=>x.l)).nodup_iff.1 hk.lf;rw[map_cons,map_cons,nodup_cons,nodup_cons]at c9;have TH:q.l≠p.l:=λe=>c9.1 (by rw[e];exact mem_cons_self);have Nt:∀x∈R,x.l≠p.l:=λx hx e=>c9.1 (mem_cons_of_mem _ (by rw[<-e];exact mem_map_of_mem (f:=(·.l)) hx));have fx:∀x,x∈(qH f k).ow↔x=⟨4,q.l,p.r⟩\/x∈R:=λx=>by
  show x∈rp (f.ow.map (Go.Proofs.YtciihepbeacppaaGreat.fo1 (f.ow.getD k au).l (f.ow.getD k au).r)) k↔_;rw[IK,<-wh];have h3:=hqR.map (Go.Proofs.YtciihepbeacppaaGreat.fo1 p.l p.r);rw[map_cons]at h3;have e1:Go.Proofs.YtciihepbeacppaaGreat.fo1 p.l p.r q=⟨4,q.l,p.r⟩:=by unfold Go.Proofs.YtciihepbeacppaaGreat.fo1;rw[if_pos hq]
  have e2:R.map (Go.Proofs.YtciihepbeacppaaGreat.fo1 p.l p.r)=R:=by
   conv=>rhs;rw[<-map_id R]
   apply map_congr_left;intro x hx;unfold Go.Proofs.YtciihepbeacppaaGreat.fo1;rw[if_neg (hR x hx)];rfl
  rw[e1,e2]at h3;rw[h3.mem_iff,mem_cons]
 have du:(qH f k).cl=f.cl:=rfl;have B0:∀i,i<5->f.cl.getD i 0≠p.l:=λi hi5 e=>by
  unfold nmB at uj;simp only[Bool.or_eq_false_iff,decide_eq_false_iff_not]at uj;have:i=0\/i=1\/i=2\/i=3\/i=4:=by omega
  rcases this with rfl|rfl|rfl|rfl|rfl
  .exact uj.1.1.1.1 e
  .exact uj.1.1.1.2 e
  .exact uj.1.1.2 e
  .exact uj.1.2 e
  .exact uj.2 e
 constructor
 .intro hF B h1 h2;have hB:=hF B h1 (λx hx hl=>by
   rcases(fx x).1 hx with rfl|hx
   .have:=h2 q (dh.symm.subset (by simp)) hl;rw[hq]at this;exact h2 p (dh.symm.subset (by simp)) this
   .exact h2 x (dh.symm.subset (by simp[hx])) hl)
  have hBq:B q.l:=hB ⟨4,q.l,p.r⟩ ((fx _).2 (zq0 rfl));intro x hx;rcases mem_cons.1 (dh.subset hx) with rfl|hx
  .have:=h2 q (dh.symm.subset (by simp)) hBq;rw[hq]at this;exact this
  .rcases mem_cons.1 hx with rfl|hx
   .exact hBq
   .exact hB x ((fx x).2 (zq1 hx))
 .intro hF B h1 h2;have hB:=hF (λc=>(c=p.l/\B q.l)\/(c≠p.l/\B c)) (λi hi5=>zq1 ⟨B0 i hi5,h1 i hi5⟩) (λx hx hl=>by
   rcases mem_cons.1 (dh.subset hx) with rfl|hx
   .rcases hl with⟨-,hl⟩|⟨hl,-⟩
    .exact zq1 ⟨aJ,h2 ⟨4,q.l,x.r⟩ ((fx _).2 (zq0 rfl)) hl⟩
    .exact absurd rfl hl
   .rcases mem_cons.1 hx with rfl|hx
    .rcases hl with⟨hl,-⟩|⟨-,hl⟩
     .exact absurd hl TH
     .exact zq0 ⟨hq,hl⟩
    .rcases hl with⟨hl,-⟩|⟨-,hl⟩
     .exact absurd hl (Nt x hx)
     .exact zq1 ⟨hR x hx,h2 x ((fx x).2 (zq1 hx)) hl⟩)
  intro x hx;rcases(fx x).1 hx with rfl|hx
  .rcases hB q (dh.symm.subset (by simp)) with⟨e,-⟩|⟨-,h⟩
   .exact absurd e TH
   .exact h
  .rcases hB x (dh.symm.subset (by simp[hx])) with⟨e,-⟩|⟨-,h⟩
   .exact absurd e (Nt x hx)
   .exact h
theorem ui:∀(n:Nat) {f:CF},am f->(fO (fX n f)↔fO f)
 |0,_,_=>Iff.rfl
 |n+1,f,h=>by
  unfold fX;split
  .exact Iff.rfl
  .rename_i k hk;exact(ui n (Gu h k).1).trans (Tx h hk)
end
section
variable {f g:CF}
theorem aaS{B:Nat->Prop}(h2:∀p∈f.ow,B p.l->B p.r){s:List Nat}{p:Pr}(hp:p∈f.ow)(h:∀c∈s,B c):∀c∈oV s p,B c:=by
 unfold oV;split
 .rename_i hh;intro c hc;rcases mem_append.1 hc with hc|hc
  .exact h c hc
  .rw[mem_singleton.1 hc];exact h2 p hp (h _ hh.1)
 .exact h
theorem PE{B:Nat->Prop}(h2:∀p∈f.ow,B p.l->B p.r):∀(l:List Pr) {s:List Nat},(∀p∈l,p∈f.ow)->(∀c∈s,B c)->∀c∈l.foldl oV s,B c
 |[],_,_,h=>h
 |p::l,s,hl,h=>by
  rw[foldl_cons];exact PE h2 l (λq hq=>hl q (by simp[hq])) (aaS h2 (hl p (by simp)) h)
theorem PH{B:Nat->Prop}(h2:∀p∈f.ow,B p.l->B p.r):∀(n:Nat) {s:List Nat},(∀c∈s,B c)->∀c∈UB f n s,B c
 |0,_,h=>h
 |n+1,s,h=>by
  unfold UB;split
  .exact h
  .exact PH h2 n (PE h2 f.ow (λp hp=>hp) h)
theorem Oc(hl:eY f=[]):fO f:=by
 intro B h1 h2 p hp;have h0:∀c∈UA f,B c:=by
  intro c hc;rcases Ht _ hc with hc|hc
  .simp at hc
  .simp only[mem_cons,not_mem_nil,or_false]at hc;rcases hc with rfl|rfl|rfl|rfl
   .exact h1 1 (by omega)
   .exact h1 2 (by omega)
   .exact h1 3 (by omega)
   .exact h1 4 (by omega)
 obtain⟨i,hi,rfl⟩:=mem_iff_getElem.1 hp;unfold eY at hl;rw[filter_eq_nil_iff]at hl;have:=hl i (by simpa using hi);simp only[Bool.not_eq_true,Bool.not_eq_false',decide_eq_true_eq]at this;have e:owA f i=f.ow[i]:=bK hi;rw[e]at this;exact PH h2 25 h0 _ this
theorem DU{V:CF}{B:Nat->Prop}(h2:∀p∈V.ow,B p.l->B p.r):∀{L:List Nat} {a e:Nat},(∀i∈L,i<V.ow.length)->QT V L a e->B a->(∀i∈L,B (V.ow.getD i au).l)/\B e
 |[],_,_,_,h,_=>h.elim
 |[i],a,e,hL,h,hB=>by
  obtain⟨rfl,rfl⟩:=h;exact⟨λj hj=>by rw[mem_singleton.1 hj];exact hB,h2 _ (aZ (hL i (by simp))) hB⟩
 |i::j::r,a,e,hL,h,hB=>by
  obtain⟨rfl,h3⟩:=h;obtain⟨g1,g2⟩:=DU h2 (λx hx=>hL x (by simp[hx])) h3 (h2 _ (aZ (hL i (by simp))) hB);exact⟨λx hx=>by
   rcases mem_cons.1 hx with rfl|hx
   .exact hB
   .exact g1 x hx,g2⟩
theorem Bf{V T:CF}{b:Nat->Option Nat}:∀{ks fr:List Nat},ie V T b ks fr->(∀k∈ks,∃L a e,(∀i∈L,i∈fr)/\b (T.ow.getD k au).l=some a/\b (T.ow.getD k au).r=some e/\QT V L a e) /\
  ∀i∈fr,∃k∈ks,∃L a e,(∀i∈L,i∈fr)/\i∈L/\b (T.ow.getD k au).l=some a/\QT V L a e
 |[],fr,h=>by
  have h:fr=[]:=h;subst h;exact⟨λk hk=>by simp at hk,λi hi=>by simp at hi⟩
 |k::ks,fr,h=>by
  obtain⟨L,rest,h1,⟨a,e,h2,h3,h4⟩,-,h5⟩:=h;obtain⟨g1,g2⟩:=Bf h5;have hL:∀i∈L,i∈fr:=λi hi=>h1.symm.subset (mem_append_left _ hi);have hr:∀i∈rest,i∈fr:=λi hi=>h1.symm.subset (mem_append_right _ hi);refine⟨λj hj=>?_,λi hi=>?_⟩
  .rcases mem_cons.1 hj with rfl|hj
   .exact⟨L,a,e,hL,h2,h3,h4⟩
   .obtain⟨L',a',e',k1,k2⟩:=g1 j hj;exact⟨L',a',e',λi hi=>hr i (k1 i hi),k2⟩
  .rcases mem_append.1 (h1.subset hi) with hi|hi
   .exact⟨k,mem_cons_self,L,a,e,hL,hi,h2,h4⟩
   .obtain⟨j,hj,L',a',e',k1,k2⟩:=g2 i hi;exact⟨j,mem_cons_of_mem _ hj,L',a',e',λi hi=>hr i (k1 i hi),k2⟩
theorem Ey(hg:am g)(hw:zZ f g=true)(hF:fO g):fO f:=by
 unfold zZ at hw;rw[Bool.and_eq_true]at hw;obtain⟨-,hw⟩:=hw;cases jm:rC f g [0,1,2,3,4] (replicate 24 none) with
 |none=>rw[jm]at hw;cases hw
 |some an =>
  rw[jm]at hw;obtain⟨g1,_,g3,_⟩:=Bl (λi _=>hg.get i) (by decide) (by simp) jm;have xH:uP (lM f g an 128)=range g.ow.length:=by
   unfold uP lM;simp only[length_replicate];rw[filter_eq_self];intro k hk;have:=mem_range.1 hk;simp[getD_eq_getElem?_getD,this]
  have ir:qn (lM f g an 128)=range f.ow.length:=by
   unfold qn lM;simp only[length_replicate];rw[filter_eq_self];intro k hk;have:=mem_range.1 hk;simp[getD_eq_getElem?_getD,this]
  have rL:Wf f g (lM f g an 128):=⟨by simp[lM],by simp[lM],g1,by rw[ir];simp[lM]⟩;obtain⟨he,-,-,Tr⟩:=(uH hg.ow (yg hg.ow _) _ _ rL (by rw[xH];simp) true (xj f g an 128).2 (Prod.ext hw rfl)).2 rfl;rw[xH,ir]at Tr;obtain⟨d1,d2⟩:=Bf Tr;intro B h1 h2;have hB:=hF (λc=>∃a,(xj f g an 128).2.b c=some a/\B a) (λi hi=>⟨_,he _ _ (g3 i (by simp;omega)),h1 i hi⟩) (λq hq hl=>by
   obtain⟨k,hk,rfl⟩:=mem_iff_getElem.1 hq;obtain⟨L,a,e,k1,k2,k3,k4⟩:=d1 k (by simpa using hk);rw[bK hk]at k2 k3;obtain⟨a',BJ,hBa⟩:=hl;rw[k2]at BJ;injection BJ with BJ;subst BJ;exact⟨e,k3,(DU h2 (λi hi=>by simpa using k1 i hi) k4 hBa).2⟩)
  intro p hp;obtain⟨i,hi,rfl⟩:=mem_iff_getElem.1 hp;obtain⟨k,hk,L,a,e,k1,k2,k3,k4⟩:=d2 i (by simpa using hi);have hk:k<g.ow.length:=by simpa using hk
  obtain⟨a',BJ,hBa⟩:=hB _ (aZ hk);rw[k3]at BJ;injection BJ with BJ;subst BJ;have:=(DU h2 (λi hi=>by simpa using k1 i hi) k4 hBa).1 i k2;rw[bK hi]at this;exact this
theorem Bc:Rj (λf=>¬ fO f):=⟨λ_ hg hw h hF=>h (Ey hg hw hF),λhf h hF=>h ((ui _ hf).1 ((lY (gH _ hf).1).1 hF))⟩
end
section
variable {f g:CF}
theorem B5(h5:f.cl.length=5){v c:Nat}(hv:v<4)(hc:∀B:Nat->Prop,(∀i,i<5->B (f.cl.getD i 0))->(∀p∈f.ow,B p.l->B p.r)->B c)(hF:fO (setC f (1+v) c)):fO f:=by
 intro B h1 h2;refine hF B (λi hi=>?_) h2;rw[uT h5 (by omega)];split
 .exact hc B h1 h2
 .exact h1 i hi
theorem DW{k i:Nat}(hi:i<4){B:Nat->Prop}(h1:∀i,i<5->B (f.cl.getD i 0)):B (nV f k i):=by
 unfold nV;split
 .exact h1 _ (by omega)
 .exact h1 0 (by omega)
theorem CM{l:List Pr}{i:Nat}{q:Pr}(hq:q.l=(l.getD i au).l){p:Pr}(hp:p∈l)(hi:i<l.length):∃x∈l.set i q,x.l=p.l:=by
 have e:(l.set i q).map (·.l)=l.map (·.l):=pL (λ_=>hq);have:p.l∈(l.set i q).map (·.l):=by rw[e];exact mem_map_of_mem (f:=(·.l)) hp
 obtain⟨x,hx,h⟩:=mem_map.1 this;exact⟨x,hx,h⟩
theorem B6{i k z:Nat}(hi:i<f.ow.length)(hz:∀B:Nat->Prop,(∀i,i<5->B (f.cl.getD i 0))->(∀p∈f.ow,B p.l->B p.r)->B (f.ow.getD i au).l->B z)(hF:fO (setO f i ⟨k,(f.ow.getD i au).l,z⟩)):fO f:=by
 intro B h1 h2;have hB:=hF B h1 (λx hx hl=>by
  rcases mem_or_eq_of_mem_set (show x∈f.ow.set i _ from hx) with hx|rfl
  .exact h2 x hx hl
  .exact hz B h1 h2 hl)
 intro p hp;obtain⟨x,hx,e⟩:=CM (q:=⟨k,(f.ow.getD i au).l,z⟩) rfl hp hi;rw[<-e];exact hB x hx
theorem Zy{c:Nat}(hg:g∈(lD f c).1)(hF:fO g):fO f:=by
 unfold lD at hg;split at hg
 .simp at hg
 .rename_i i hb;obtain⟨hi,hl⟩:=nT hb;have WG:owA f i∈f.ow:=mJ hi;have h1F:fO (nY f i)->fO f:=λh=>B6 (i:=i) (k:=3) (z:=(owA f i).r) hi (λB _ h2 hB=>h2 _ WG hB) h;unfold MV at hg;split at hg
  .simp only[mem_singleton]at hg;rw[hg]at hF;exact hF
  .split at hg
   .simp only[mem_singleton]at hg;rw[hg]at hF;exact h1F hF
   .simp only[mem_cons,not_mem_nil,or_false]at hg;rcases hg with rfl|rfl
    .exact h1F hF
    .intro B h1 h2;have aq:∀{a},a<aI f->((a=aI f/\B c)\/(a≠aI f/\B a)↔B a):=fun {a} ha=>⟨λh=>by
      rcases h with⟨e,-⟩|⟨-,h⟩
      .omega
      .exact h,λh=>zq1 ⟨by omega,h⟩⟩
     have fQ:c<aI f:=(by rw[<-hl];exact(uA f WG).1);have hB:=hF (λa=>(a=aI f/\B c)\/(a≠aI f/\B a)) (λi hi=>(aq (ER f hi)).2 (h1 i hi)) (λx hx vK=>by
      rcases mem_append.1 (show x∈f.ow.set i ⟨3,c,aI f⟩++[⟨4,aI f,(owA f i).r⟩] from hx) with hx|hx
      .rcases mem_or_eq_of_mem_set hx with hx|rfl
       .exact(aq (uA f hx).2).2 (h2 x hx ((aq (uA f hx).1).1 vK))
       .exact zq0 ⟨rfl,(aq fQ).1 vK⟩
      .rw[mem_singleton.1 hx]at vK ⊢;have hBc:B c:=by
        rcases vK with⟨-,h⟩|⟨h,-⟩
        .exact h
        .exact absurd rfl h
       refine(aq (uA f WG).2).2 (h2 _ WG ?_);rw[show(owA f i).l=c from hl];exact hBc)
     intro p hp;obtain⟨x,hx,e⟩:=CM (q:=⟨3,c,aI f⟩) hl.symm hp hi;have:=hB x (mem_append_left _ hx);rw[e]at this;exact(aq (uA f hp).1).1 this
theorem Ty{n:Nd}(hk:am g)(hv:n.v<4)(ha:n.ai<4){r j:Nat}(h1:cR g.ow (g.cl.getD (1+n.ai) 0)=some j)(hF:fO (gG g n)):fO g:=by
 obtain⟨hj,hl⟩:=nT h1;refine B5 hk.c5 hv (λB k1 k2=>?_) hF;rw[tK h1];refine k2 _ (mJ hj) ?_;rw[show(owA g j).l=g.cl.getD (1+n.ai) 0 from hl];exact k1 _ (by omega)
theorem ZB{n:Nd}(ha:n.ai<4){j:Nat}(h1:cR g.ow (g.cl.getD (1+n.v) 0)=some j)(hF:fO (qX g n)):fO g:=by
 obtain⟨hj,-⟩:=nT h1;have e:qX g n=setO g j ⟨(owA g j).k,(g.ow.getD j au).l,nV g n.ak n.ai⟩:=by unfold qX;simp only;rw[tK h1];rfl
 rw[e]at hF;exact B6 hj (λB k1 _ _=>DW ha k1) hF
theorem Pq:∀(l:List Pr) (h:CF) (c:Nat),(l.foldl (λh p=>cC h c p.l) h).ow=h.ow/\(l.foldl (λh p=>cC h c p.l) h).cl=h.cl
 |[],_,_=>⟨rfl,rfl⟩
 |p::r,h,c=>by
  rw[foldl_cons];exact Pq r (cC h c p.l) c
theorem Zz{v:Nat}(hv:v<4){j:Nat}(h1:cR g.ow (g.cl.getD (1+v) 0)=some j)(hF:fO (qK g v)):fO g:=by
 obtain⟨hj,hl⟩:=nT h1;have e:(qK g v).ow=rp g.ow j/\(qK g v).cl=g.cl:=by
  unfold qK;simp only;rw[tK h1];exact Pq _ _ _
 intro B k1 k2;have hB:=hF B (λi hi=>by rw[e.2];exact k1 i hi) (λx hx vK=>k2 x (Fk (by rw[e.1]at hx;exact hx)) vK);intro p hp;rcases mem_cons.1 ((mr hj).subset hp) with rfl|hp
 .rw[hl];exact k1 _ (by omega)
 .exact hB p (by rw[e.1];exact hp)
theorem Zw(h5:f.cl.length=5){v:Nat}(hv:v<4)(hF:fO (C9 f v)):fO f:=by
 intro B k1 k2;have hB:=hF (λa=>a=aI f\/B a) (λi hi=>by
  have e:(C9 f v).cl.getD i 0=if 1+v=i then aI f else f.cl.getD i 0:=uT (f:=qW f ⟨3,aI f,f.cl.getD 0 0⟩) h5 (by omega)
  rw[e];split
  .exact zq0 rfl
  .exact zq1 (k1 i hi)) (λx hx vK=>by
  rcases mem_append.1 (show x∈f.ow++[⟨3,aI f,f.cl.getD 0 0⟩] from hx) with hx|hx
  .rcases vK with e|vK
   .have:=(uA f hx).1;omega
   .exact zq1 (k2 x hx vK)
  .rw[mem_singleton.1 hx];exact zq1 (k1 0 (by omega)))
 intro p hp;rcases hB p (mem_append_left _ hp) with e|h
 .have:=(uA f hp).1;omega
 .exact h
theorem ZA(h5:f.cl.length=5){a b:Nat}(og:∀B:Nat->Prop,(∀i,i<5->B (f.cl.getD i 0))->B a/\B b)(hF:fO (sS f a b)):fO f:=by
 intro B k1 k2;obtain⟨ha,hb⟩:=og B k1;have up:∀{c},B c->B (gW a b c):=λh=>by unfold gW;split;exact ha;exact h
 have dn:∀{c},B (gW a b c)->B c:=fun {c} h=>by
  unfold gW at h;split at h
  .rename_i e;rw[e];exact hb
  .exact h
 have hB:=hF B (λi hi=>by rw[EK h5 hi];exact up (k1 i hi)) (λx hx vK=>by
  obtain⟨q,hq,rfl⟩:=mem_map.1 (show x∈f.ow.map (wF a b) from hx);exact up (k2 q hq (dn vK)))
 intro p hp;exact dn (hB (wF a b p) (mem_map.2 ⟨p,hp,rfl⟩))
theorem ad7{c i:Nat}(hb:cR f.ow c=some i):(lD f c).1≠[]:=by
 unfold lD;rw[hb];simp only;unfold MV;split
 .simp
 .split <;> simp
theorem T5{nd:Nd}(hk:am f)(hv:nd.v<4)(ha:nd.ai<4)(h0:nd.op≠0)(cnu:(b8 nd f).nu=false)(cda:(b8 nd f).da=false)(cfu:(b8 nd f).fu=false)(hL:¬ fO f):(∃x∈(b8 nd f).nx,¬ fO x)\/∃x∈(b8 nd f).ot,¬ fO x:=by
 have opn:∀{w:Nat} {G:CF->CF},w<4->(fC f w).2.1=false->(fC f w).2.2.1=false->(fC f w).2.2.2=false->(∀x∈(fC f w).1,am (G x)/\(fO (G x)->fO x))->∃x∈(fC f w).1.map (λx=>bz (G x)),¬ fO x:=by
  intro w G hw g1 g2 g3 hG;have mC:∃x∈(fC f w).1,fO x->fO f:=by
   unfold fC at g1 g2 g3 ⊢;by_cases e0:f.cl.getD (1+w) 0=f.cl.getD 0 0
   .rw[if_pos e0]at g1;cases g1
   .rw[if_neg e0]at g1 g2 g3 ⊢;by_cases eb:(cR f.ow (f.cl.getD (1+w) 0)).isSome=true
    .rw[if_pos eb];obtain⟨i,hi⟩:=Option.isSome_iff_exists.1 eb;obtain⟨x,hx⟩:=exists_mem_of_ne_nil _ (ad7 hi);exact⟨x,hx,Zy hx⟩
    .rw[if_neg eb]at g2;cases g2
  obtain⟨x,hx,hxf⟩:=mC;obtain⟨k1,k2⟩:=hG x hx;exact⟨_,mem_map.2 ⟨x,hx,rfl⟩,λh=>hL (hxf (k2 ((lY k1).1 h)))⟩
 have opb:∀{w:Nat} {x:CF},w<4->x∈(fC f w).1->am x/\∃j,cR x.ow (x.cl.getD (1+w) 0)=some j:=λhw hx=>by
  have:=iU (N:=f.ap.length) hw hk (zq4 _) _ hx;exact⟨this.ok,Option.isSome_iff_exists.1 this.bg⟩
 by_cases o1:nd.op=1
 .left;refine⟨_,by unfold b8;rw[if_neg h0,if_pos o1];exact mem_singleton.2 rfl,λh=>hL (B5 hk.c5 hv (λB k1 _=>DW ha k1) ((lY (hk.sC _ (hk.cT _ _))).1 h))⟩
 .by_cases o2:nd.op=2
  .have ho:b8 nd f=br (fC f nd.ai) (λg=>gG g nd):=(by unfold b8;rw[if_neg h0,if_neg o1,if_pos o2]);rw[ho]at cnu cda cfu ⊢;exact zq0 (opn ha cnu cda cfu (λx hx=>by
    obtain⟨k1,j,k2⟩:=opb ha hx;exact⟨by unfold gG;exact k1.sC _ (k1.oA _).2,Ty (r:=0) k1 hv ha k2⟩))
  .by_cases o3:nd.op=3
   .have ho:b8 nd f=br (fC f nd.v) (λg=>qX g nd):=(by unfold b8;rw[if_neg h0,if_neg o1,if_neg o2,if_pos o3]);rw[ho]at cnu cda cfu ⊢;exact zq0 (opn hv cnu cda cfu (λx hx=>by
     obtain⟨k1,j,k2⟩:=opb hv hx;exact⟨by unfold qX;exact k1.sO (λ_=>rfl) (k1.cT _ _) (k1.oA _).1,ZB ha k2⟩))
   .by_cases o4:nd.op=4
    .have afU:¬ 24<=aI f:=λhh=>by
      unfold b8 at cfu;rw[if_neg h0,if_neg o1,if_neg o2,if_neg o3,if_pos o4,if_pos hh]at cfu;cases cfu
     left;refine⟨bz (C9 f nd.v),by unfold b8;rw[if_neg h0,if_neg o1,if_neg o2,if_neg o3,if_pos o4,if_neg afU];exact mem_singleton.2 rfl,λh=>hL (Zw hk.c5 hv ((lY (qB hk (by omega))).1 h))⟩
    .by_cases o5:nd.op=5
     .have ho:b8 nd f=br (fC f nd.v) (λg=>qK g nd.v):=(by unfold b8;rw[if_neg h0,if_neg o1,if_neg o2,if_neg o3,if_neg o4,if_pos o5]);rw[ho]at cnu cda cfu ⊢;exact zq0 (opn hv cnu cda cfu (λx hx=>by
       obtain⟨k1,j,k2⟩:=opb hv hx;exact⟨(qL (N:=x.ap.length) ⟨k1,zq4 _,by rw[k2];rfl⟩).1,Zz hv k2⟩))
     .have Do:¬ fO (bz f):=λh=>hL ((lY hk).1 h);by_cases o7:nd.op=7
      .left;exact⟨bz f,by unfold b8;rw[if_neg h0,if_neg o1,if_neg o2,if_neg o3,if_neg o4,if_neg o5,if_pos o7];exact mem_singleton.2 rfl,Do⟩
      .have kj:(∃x∈(jM f nd).1,¬ fO x)\/∃x∈(jM f nd).2,¬ fO x:=by
        cases hd:dS f (f.cl.getD (1+nd.v) 0) (nV f nd.ak nd.ai) with
        |false =>
         left;refine⟨bz (sS f (f.cl.getD (1+nd.v) 0) (nV f nd.ak nd.ai)),by unfold jM;simp only;rw[hd];simp,λh=>hL (ZA hk.c5 (λB k1=>⟨k1 _ (by omega),DW ha k1⟩) ((lY (hk.jo (hk.get _) (gi hd))).1 h))⟩
        |true =>
         right;have aJ:f.cl.getD (1+nd.v) 0≠nV f nd.ak nd.ai:=λe=>by unfold dS at hd;rw[if_pos e]at hd;cases hd
         exact⟨bz (cC f (f.cl.getD (1+nd.v) 0) (nV f nd.ak nd.ai)),by unfold jM;simp only;rw[if_neg aJ];simp,λh=>hL ((lY (hk.pa (hk.get _) (hk.cT _ _))).1 h)⟩
       by_cases o8:nd.op=8
       .have ho:b8 nd f=⟨(jM f nd).1,(jM f nd).2,false,false,false⟩:=(by unfold b8;rw[if_neg h0,if_neg o1,if_neg o2,if_neg o3,if_neg o4,if_neg o5,if_neg o7,if_pos o8]);rw[ho];exact kj
       .by_cases o9:nd.op=9
        .have ho:b8 nd f=⟨(jM f nd).2,(jM f nd).1,false,false,false⟩:=(by unfold b8;rw[if_neg h0,if_neg o1,if_neg o2,if_neg o3,if_neg o4,if_neg o5,if_neg o7,if_neg o8,if_pos o9]);rw[ho];exact kj.symm
        .left;exact⟨bz f,by unfold b8;rw[if_neg h0,if_neg o1,if_neg o2,if_neg o3,if_neg o4,if_neg o5,if_neg o7,if_neg o8,if_neg o9];exact mem_singleton.2 rfl,Do⟩
end
def wK(s:Sr):Prop:=∀n,∀e∈bh s n,fO e.f
section
variable {c:Cd} {N n:Nat} {f:CF} {s:Sr}
theorem Tz(hf:am f)(h:fO f):fO (ch c n f):=by
 unfold ch;split
 .exact(lY (gH _ hf).1).2 ((ui _ hf).2 h)
 .exact h
theorem TU(hn:n<s.kn.length)(hf:am f)(h:fO f)(hs:wK s):wK (bG c n f s):=by
 unfold bG;split
 .exact hs
 .intro m e he;have hkA:bh (pV c (m9 n (ch c n f) (mb c s (2*(bh s n).length)))) m=if n=m then (bh s n).filter (λe=>!zZ e.f (ch c n f))++[⟨ch c n f,false⟩] else bh s m:=iO hn m
  rw[hkA]at he;by_cases e0:n=m
  .rw[if_pos e0]at he;rcases mem_append.1 he with he|he
   .exact hs n e (mem_filter.1 he).1
   .rw[mem_singleton.1 he];exact Tz hf h
  .rw[if_neg e0]at he;exact hs m e he
theorem yp{fuel a b:Nat}(hf:Td f)(hs:gZ N s)(ha:a<N)(hb:b<N)(hS:Sf (dG c fuel a b f s)):(c.lp=false\/eY f=[])/\dG c fuel a b f s=bG c b f s:=by
 by_cases hc:c.lp=false\/eY f=[]
 .exact⟨hc,by unfold dG;rw[if_pos hc]⟩
 .exfalso;have bE:=hS;unfold dG at bE;rw[if_neg hc]at bE;simp only at bE;obtain⟨g1,g2⟩:=Ab hs ha (k:=2) (by omega);obtain⟨k1,k2,k3⟩:=lS (c:=c) fuel 0 (res:=[]) (r:=([f],kT a 2 s)) (λg hg=>by rw[mem_singleton.1 hg];exact hf) (λg hg=>by simp at hg);have hL:mu (kT a 2 s) (iF c fuel 0 [] ([f],kT a 2 s)).2:=by
   refine⟨λh=>MO fuel 0 h,λm k h=>?_,λm P hc h=>?_⟩
   .unfold KN;rw[k3];exact h
   .unfold I8 bh;rw[k2];exact h
  have hSh:gZ N (iF c fuel 0 [] ([f],kT a 2 s)).2:=⟨by rw[k2];exact g2.kn,by rw[k3];exact g2.wr,λr hr=>by rw[k3]at hr;exact g2.rw r hr,λl hl=>by rw[k2]at hl;exact g2.td l hl⟩;obtain⟨q1,-⟩:=zm (c:=c) (n:=b) (iF c fuel 0 [] ([f],kT a 2 s)).1 k1 hSh hb;have h9:=((hL.trans q1).sf bE).2 a 2 (zq0 rfl);rw[sJ hs ha (by omega),if_pos ⟨rfl,rfl⟩]at h9;cases h9
theorem LM{fuel a b:Nat}(hp:c.lp=true)(hf:Td f)(hs:gZ N s)(ha:a<N)(hb:b<N)(hS:Sf (dG c fuel a b f s))(h:wK s):wK (dG c fuel a b f s):=by
 obtain⟨hc,e⟩:=yp hf hs ha hb hS;have hl:eY f=[]:=by
  rcases hc with hc|hc
  .rw[hp]at hc;cases hc
  .exact hc
 rw[e];exact TU (by rw[hs.kn];exact hb) hf.ok (Oc hl) h
theorem DK{fuel a b:Nat}(hp:c.lp=true)(ha:a<N):∀(l:List CF) {s:Sr},(l≠[]->b<N)->cG l->gZ N s->Sf (l.foldl (λs g=>dG c fuel a b g s) s)->wK s->wK (l.foldl (λs g=>dG c fuel a b g s) s)
 |[],_,_,_,_,_,h=>h
 |g::l,s,hb,hl,hs,hS,h=>by
  rw[foldl_cons]at hS ⊢;have hbN:=hb (by simp);obtain⟨-,h2,-⟩:=nR (c:=c) (fuel:=fuel) (hl g (by simp)) hs ha hbN;obtain⟨h4,-,-⟩:=jy (c:=c) (fuel:=fuel) ha l (λ_=>hbN) (λx hx=>hl x (by simp[hx])) h2;exact DK hp ha l (λ_=>hbN) (λx hx=>hl x (by simp[hx])) h2 hS (LM hp (hl g (by simp)) hs ha hbN (h4.sf hS) h)
theorem afV{s':Sr}(e:s'.kn=s.kn)(h:wK s):wK s':=λn x hx=>by
 unfold bh at hx;rw[e]at hx;exact h n x hx
theorem abl{fuel:Nat}(hp:c.lp=true)(hN:c.nds.length=N)(hO:vu c.nds)(hn:n<N)(hf:Td f)(hs:gZ N s)(hS:Sf (nH c fuel n f s))(h:wK s):wK (nH c fuel n f s):=by
 obtain⟨hv,ha⟩:=hO.v n;obtain⟨t1,t2⟩:=lQ hv ha hf;have fU:n<c.nds.length:=by rw[hN];exact hn
 have bQ:(b8 (c.nds.getD n aS) f).nx≠[]->(c.nds.getD n aS).nx<N:=λh=>by rw[<-hN];exact hO.nx n fU (tR h)
 have vy:(b8 (c.nds.getD n aS) f).ot≠[]->(c.nds.getD n aS).ot<N:=λh=>by rw[<-hN];exact hO.ot n fU (qD h)
 unfold nH at hS ⊢;simp only at hS ⊢;obtain⟨-,a2,-⟩:=eN (b:=decide ((c.nds.getD n aS).op=0)&&!decide (eY f=[])) (k:=2) hs hn (by omega);obtain⟨-,b2,-⟩:=eN (b:=(b8 (c.nds.getD n aS) f).nu) (k:=3) a2 hn (by omega);obtain⟨-,d2,-⟩:=eN (b:=(b8 (c.nds.getD n aS) f).da) (k:=4) b2 hn (by omega);obtain⟨-,e2,-⟩:=yH (b8 (c.nds.getD n aS) f).fu d2;obtain⟨-,g2,-⟩:=jy (c:=c) (fuel:=fuel) (b:=(c.nds.getD n aS).nx) hn (b8 (c.nds.getD n aS) f).nx bQ t1 e2;obtain⟨k1,-,-⟩:=jy (c:=c) (fuel:=fuel) (b:=(c.nds.getD n aS).ot) hn (b8 (c.nds.getD n aS) f).ot vy t2 g2;refine DK hp hn _ vy t2 g2 hS (DK hp hn _ bQ t1 e2 (k1.sf hS) ?_);refine afV (s:=s) ?_ h;show(fuS _ (wrI _ n 4 (wrI _ n 3 (wrI _ n 2 s)))).kn=s.kn;show(wrI _ n 4 (wrI _ n 3 (wrI _ n 2 s))).kn=s.kn;rw[gw,gw,gw]
theorem Qw{fuel:Nat}(hp:c.lp=true)(hN:c.nds.length=N)(hO:vu c.nds)(hn:n<N):∀(l:List CF) {s:Sr},cG l->gZ N s->Sf (lL c fuel n l s)->wK s->wK (lL c fuel n l s)
 |[],_,_,_,_,h=>h
 |f::r,s,hl,hs,hS,h=>by
  unfold lL at hS ⊢;split
  .exact h
  .rename_i dW;rw[if_neg dW]at hS;obtain⟨-,h2,-⟩:=zT (fuel:=fuel) hN hO hn (hl f (by simp)) hs;obtain⟨h4,-,-⟩:=zX (fuel:=fuel) hN hO hn r (λx hx=>hl x (by simp[hx])) h2;exact Qw hp hN hO hn r (λx hx=>hl x (by simp[hx])) h2 hS (abl hp hN hO hn (hl f (by simp)) hs (h4.sf hS) h)
theorem abu{fuel:Nat}(hp:c.lp=true)(hN:c.nds.length=N)(hO:vu c.nds)(hn:n<N)(hs:gZ N s)(hS:Sf (qd c fuel n s))(h:wK s):wK (qd c fuel n s):=by
 have eV:n<s.kn.length:=by rw[hs.kn];exact hn
 obtain⟨s0,vG⟩:∃s0:Sr,s0={ s with kn:=s.kn.set n ((bh s n).map (λe:f9=>(⟨e.f,true⟩:f9))) }:=⟨_,rfl⟩;have hkA:∀m,bh s0 m=if n=m then (bh s n).map (λe=>⟨e.f,true⟩) else bh s m:=λm=>by rw[vG];exact iO eV m
 have Nv:gZ N s0:=by
  rw[vG];refine⟨by show(s.kn.set n _).length=N;rw[length_set];exact hs.kn,hs.wr,hs.rw,λl hl e he=>?_⟩;rcases mem_or_eq_of_mem_set (show l∈s.kn.set n _ from hl) with h1|rfl
  .exact hs.td l h1 e he
  .obtain⟨x,hx,rfl⟩:=mem_map.1 he;exact hs.td.at n x hx
 have ir:cG (kH (bh s n)):=λg hg=>by
  obtain⟨e,he,rfl⟩:=mem_map.1 hg;exact hs.td.at n e (mem_filter.1 he).1
 have e1:qd c fuel n s=lL c fuel n (kH (bh s n)) s0:=by rw[vG];rfl
 rw[e1]at hS ⊢;refine Qw hp hN hO hn _ ir Nv hS (λm e he=>?_);rw[hkA]at he;by_cases e0:n=m
 .rw[if_pos e0]at he;obtain⟨x,hx,rfl⟩:=mem_map.1 he;exact h n x hx
 .rw[if_neg e0]at he;exact h m e he
theorem PT{fuel:Nat}(hp:c.lp=true)(hN:c.nds.length=N)(hO:vu c.nds):∀(k:Nat) {s:Sr},gZ N s->Sf (ng c fuel k s)->wK s->wK (ng c fuel k s)
 |0,_,_,_,h=>h
 |k+1,s,hs,hS,h=>by
  unfold ng at hS ⊢;split
  .exact h
  .rename_i n wh;rw[wh]at hS;simp only at hS;have hn:n<N:=by
    unfold E1 at wh;obtain⟨h1,-⟩:=findIdx?_eq_some_iff_getElem.1 wh;rw[<-hs.kn];exact h1
   split
   .exact h
   .rename_i dW;rw[if_neg dW]at hS;obtain⟨-,h2,-⟩:=Ft (fuel:=fuel) hN hO hn hs;obtain⟨h4,-,-⟩:=mM (fuel:=fuel) hN hO k h2;exact PT hp hN hO k h2 hS (abu hp hN hO hn hs (h4.sf hS) h)
theorem Tw(hO:vu c.nds)(hS:SfS c s)(eV:∀n,c.nds.length<=n->bh s n=[])(hfw:∀n,n<c.nds.length->(c.nds.getD n aS).op≠0->n<(c.nds.getD n aS).nx/\(sl (c.nds.getD n aS)=true->n<(c.nds.getD n aS).ot)):wK s:=by
 have key:∀k n,c.nds.length<=n+k->∀e∈bh s n,fO e.f:=by
  intro k;induction k with
  |zero =>
   intro n hn e he;rw[eV n (by omega)]at he;simp at he
  |succ k ih =>
   intro n hn e he;apply Classical.byContradiction;intro hL;have fU:n<c.nds.length:=by
    apply Classical.byContradiction;intro hc;rw[eV n (by omega)]at he;simp at he
   have cl:=hS.cl n e he;by_cases h0:(c.nds.getD n aS).op=0
   .exact hL (Oc (cl.en h0))
   .obtain⟨hv,ha⟩:=hO.v n;have bf:=(hS.td.at n e he).ok;rcases T5 bf hv ha h0 cl.nu cl.da cl.fu hL with⟨x,hx,vK⟩|⟨x,hx,vK⟩
    .obtain⟨e',he',Tv⟩:=cl.nx x hx _ Bc vK;exact Tv (ih _ (by have:=(hfw n fU h0).1;omega) e' he')
    .obtain⟨e',he',Tv⟩:=cl.ot x hx _ Bc vK;have ht:sl (c.nds.getD n aS)=true:=by
      have:=qD (λe=>by rw[e]at hx;simp at hx:(b8 (c.nds.getD n aS) e.f).ot≠[]);unfold sl;simpa using this
     exact Tv (ih _ (by have:=(hfw n fU h0).2 ht;omega) e' he')
 exact λn e he=>key c.nds.length n (by omega) e he
end
theorem PW{l:List UInt8}(h:lJ l=0)(hv:(wQ (bN l)).vd=0):wK (oS (b7 l).nodes (b7 l).vars.length (fZ (bN l) bY)):=by
 obtain⟨-,-,hf,-,-⟩:=uN h;have hA:=ky h;obtain⟨M,hR⟩:=uM hf;obtain⟨hSf,-⟩:=CJ hA hv;obtain⟨c,hc⟩:∃c,c=Ao (b7 l).nodes (b7 l).vars.length (fZ (bN l) bY):=⟨_,rfl⟩;have fQ:c.nds=(b7 l).nodes:=by rw[hc];rfl
 have hS:Sf (oS (b7 l).nodes (b7 l).vars.length (fZ (bN l) bY)):=by
  have hv:(vU (b7 l).nodes (b7 l).vars.length (fZ (bN l) bY)).vd=0:=hv;unfold vU AM at hv;split at hv
  .cases hv
  .rename_i dW;refine⟨by simpa using dW,DG ?_⟩;apply Classical.byContradiction;intro h0;have hv:(if RS (oS (b7 l).nodes (b7 l).vars.length (fZ (bN l) bY)).wr=[] then 0 else 1)=0:=hv;rw[if_neg h0]at hv;cases hv
 rw[<-hc]at hSf;have h0:=zR (b7 l).nodes;have nC:(b7 l).nodes.length-1<(b7 l).nodes.length:=by have:=hA.p;omega
 have hE:gZ (b7 l).nodes.length (dL c 4000 (b7 l).vars.length (fZ (bN l) bY) (jH (b7 l).nodes))/\(c.lp=true->Sf (dL c 4000 (b7 l).vars.length (fZ (bN l) bY) (jH (b7 l).nodes))->wK (dL c 4000 (b7 l).vars.length (fZ (bN l) bY) (jH (b7 l).nodes))):=by
  have oq:wK (jH (b7 l).nodes):=λn e he=>by rw[Fj]at he;simp at he
  unfold dL;split
  .exact⟨h0,λ_ _=>oq⟩
  .rename_i lF;have fs:=gy (jA hA.a.tm (by simpa using lF)) (b7 l).vars.length;rw[fQ];obtain⟨-,k2,-⟩:=nR (c:=c) (fuel:=4000) (a:=(b7 l).nodes.length-1) (b:=0) fs.tidy h0 nC hA.p;exact⟨k2,λhp hS=>LM hp fs.tidy h0 nC hA.p hS oq⟩
 have hkS:gZ (b7 l).nodes.length (oS (b7 l).nodes (b7 l).vars.length (fZ (bN l) bY))/\mu (dL c 4000 (b7 l).vars.length (fZ (bN l) bY) (jH (b7 l).nodes)) (oS (b7 l).nodes (b7 l).vars.length (fZ (bN l) bY)):=by
  obtain⟨r1,r2,-⟩:=mM (c:=c) (fuel:=4000) (by rw[fQ]) (by rw[fQ];exact hA.n) 1000000 hE.1;unfold oS;rw[<-hc];exact⟨r2,r1⟩
 cases BY:c.lp with
 |true =>
  have hh:=hE.2 BY (hkS.2.sf hS);unfold oS at hS ⊢;rw[<-hc]at hS ⊢;exact PT BY (by rw[fQ]) (by rw[fQ];exact hA.n) 1000000 hE.1 hS hh
 |false =>
  refine Tw (c:=c) (by rw[fQ];exact hA.n) hSf (λn hn=>?_) (λn hn h0=>?_)
  .unfold bh;rw[getD_eq_getElem?_getD,getElem?_eq_none (by rw[hkS.1.kn,<-fQ];exact hn)];rfl
  .rw[fQ]at hn h0 ⊢;have afQ:(range (b7 l).nodes.length).any (lG (b7 l).nodes)=false:=(by rw[hc]at BY;exact BY);rw[any_eq_false]at afQ;have hb:=afQ n (by simpa using hn);have c9:(b7 l).nodes=M++[{ lr with nx:=M.length+1 }]:=hR.nd;have hnM:n<M.length:=by
    apply Classical.byContradiction;intro cq;have hl:(b7 l).nodes.length=M.length+1:=(by rw[c9];simp);have qQ:n=M.length:=(by omega);apply h0;rw[c9,qQ,getD_eq_getElem?_getD,getElem?_append_right (zq4 _)];simp;rfl
   have he:(b7 l).nodes.getD n aS=M[n]:=by
    rw[c9,getD_eq_getElem?_getD,getElem?_append_left hnM,getElem?_eq_getElem hnM];rfl
   obtain⟨-,-,-,-,g5,g6,g7⟩:=hR.go n M[n] (getElem?_eq_getElem hnM);unfold lG at hb;rw[he]at hb ⊢;simp only[Bool.and_eq_true,decide_eq_true_eq,not_and,Nat.not_lt]at hb;refine⟨?_,λht=>by have:=g5 ht;omega⟩;by_cases e10:M[n].op=10
   .have:=hb e10;have:=g7 e10;omega
   .have:=g6 e10;omega
