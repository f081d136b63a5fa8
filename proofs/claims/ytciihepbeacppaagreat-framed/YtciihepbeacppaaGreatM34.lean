import Derived.Test.YtciihepbeacppaaGreatM33
namespace Go.Proofs.YtciihepbeacppaaGreat
open Go.RowKit List
set_option linter.unusedVariables false
section
variable {vs:List UInt8} {f:CF}
theorem I0{l:List UInt8}(h:l.Nodup){i j:Nat}(hi:i<l.length)(hj:j<l.length)(e:l.getD i 0=l.getD j 0):i=j:=by
 have h1:=I8 h hi;have h2:=I8 h hj;rw[e]at h1;omega
theorem I1{l:List UInt8}{i:Nat}(hi:i<l.length):l.getD i 0∈l:=by
 rw[getD_eq_getElem?_getD,getElem?_eq_getElem hi];exact getElem_mem hi
end
theorem MY{x y:List UInt8}(h:bA x=bA y):x=y:=by
 have:(bA x).data.toList=(bA y).data.toList:=by rw[h]
 exact this
theorem Jy{s:PS}(hs:tf s){k i k' i':Nat}(h:Ru s.vars s.hid k i)(h':Ru s.vars s.hid k' i')(e:Ly s.vars s.hid k i=Ly s.vars s.hid k' i'):nK k i=nK k' i':=by
 have one_inj:∀{c d:UInt8},bh c=bh d->c=d:=fun {c d} h=>by
  have:(bh c).data.toList=(bh d).data.toList:=by rw[h]
  injection this
 have v1:∀{i:Nat},i<s.vars.length->aF (bh (s.vars.getD i 0))=true:=λhi=>hs.lv _ (I1 hi);have v2:∀{i:Nat},i<s.hid.length->kW (bh (s.hid.getD i 0))=true:=λhi=>hs.lh _ (I1 hi);have n1:∀{c:UInt8},bh c≠bZ:=fun {c} h=>by
  have:(bh c).data.toList=bZ.data.toList:=by rw[h]
  simp[bh,bZ]at this
 have e1:∀{k i:Nat},k<=2->k=0\/k=1\/k=2:=λh=>by omega
 rcases e1 (i:=0) h.1 with rfl|rfl|rfl <;> rcases e1 (i:=0) h'.1 with rfl|rfl|rfl
 .rfl
 .exact absurd e.symm n1
 .exact absurd e.symm n1
 .exact absurd e n1
 .have:=I0 hs.nv (h.2.1 rfl) (h'.2.1 rfl) (one_inj e);rw[this]
 .have h3:=v1 (h.2.1 rfl);have e:bh (s.vars.getD i 0)=bh (s.hid.getD i' 0):=e;rw[e]at h3;have:=vO _ h3;rw[v2 (h'.2.2 rfl)]at this;cases this
 .exact absurd e n1
 .have h3:=v1 (h'.2.1 rfl);have e:bh (s.hid.getD i 0)=bh (s.vars.getD i' 0):=e;rw[<-e]at h3;have:=vO _ h3;rw[v2 (h.2.2 rfl)]at this;cases this
 .have:=I0 hs.nh (h.2.2 rfl) (h'.2.2 rfl) (one_inj e);rw[this]
theorem UK{k k':Nat}(h:k<=4)(h0:k≠0)(h':k'<=4)(h0':k'≠0)(e:RV k=RV k'):k=k':=by
 have hk:k=1\/k=2\/k=3\/k=4:=by omega
 have BP:k'=1\/k'=2\/k'=3\/k'=4:=by omega
 have e2:(RV k).data.toList=(RV k').data.toList:=by rw[e]
 rcases hk with rfl|rfl|rfl|rfl <;> rcases BP with rfl|rfl|rfl|rfl <;> first|rfl|(simp[RV,bW,kJ,B4,Eq]at e2)
theorem U9{s:PS}(hs:tf s){a b:cn}(ha:uw s.vars s.hid a)(hb:uw s.vars s.hid b)(a0:a.k≠0)(b0:b.k≠0)(e:nmA s.vars s.hid a=nmA s.vars s.hid b):tm a=tm b:=by
 unfold nmA at e;injection e with e1 e2 e3;unfold tm;rw[UK ha.1 a0 hb.1 b0 e1,Jy hs ha.2.1 hb.2.1 e2,Jy hs ha.2.2 hb.2.2 e3]
theorem vS{α β γ:Type}{g:α->β}{h:α->γ}{P:α->Prop}(hP:∀a b,P a->P b->g a=g b->h a=h b):∀(l l':List α),(∀a∈l,P a)->(∀a∈l',P a)->l.map g=l'.map g->l.map h=l'.map h
 |[],[],_,_,_=>rfl
 |[],_::_,_,_,e=>by simp at e
 |_::_,[],_,_,e=>by simp at e
 |a::l,b::l',h1,h2,e=>by
  rw[map_cons,map_cons]at e ⊢;injection e with e1 e2;rw[hP a b (h1 a (by simp)) (h2 b (by simp)) e1,vS hP l l' (λx hx=>h1 x (by simp[hx])) (λx hx=>h2 x (by simp[hx])) e2]
def U2(c:List Nat)(p:Pr):List Nat:=if p.k=1 then c.map (λx=>if x=c.getD p.r 0 then c.getD p.l 0 else x) else c
def prU(c:List Nat)(p:Pr):Pr:=⟨p.k,c.getD p.l 0,c.getD p.r 0⟩
def cfT(L:List Pr):CF:=⟨(L.foldl U2 (range 13)).take 5,(L.filter (λp=>p.k==2)).map (prU (L.foldl U2 (range 13))),(L.filter (λp=>p.k==3||p.k==4)).map (prU (L.foldl U2 (range 13)))⟩
theorem WE(al:List cn):bf al=cfT ((al.filter (λa=>a.k != 0)).map tm):=by
 have hm:∀(l:List cn) (c:List Nat),l.foldl j9 c=((l.filter (λa=>a.k != 0)).map tm).foldl U2 c:=by
  intro l;induction l with
  |nil=>intro c;rfl
  |cons a l ih =>
   intro c;rw[foldl_cons,ih];by_cases h0:a.k=0
   .have e1:j9 c a=c:=(by unfold j9;rw[if_neg (by omega)]);rw[e1,filter_cons_of_neg (by simp[h0])]
   .rw[filter_cons_of_pos (by simp[h0]),map_cons,foldl_cons];rfl
 have hf:∀(q:Nat->Bool),q 0=false->∀(m:List Nat),(al.filter (λa=>q a.k)).map (iP m)=(((al.filter (λa=>a.k != 0)).map tm).filter (λp=>q p.k)).map (prU m):=by
  intro q hq m;rw[filter_map,filter_filter,map_map];have:al.filter (λa=>q a.k)=al.filter (λa=>((λp:Pr=>q p.k) ∘ tm) a&&(a.k != 0)):=by
   apply filter_congr;intro a _;show q a.k=(q a.k&&(a.k != 0));by_cases h0:a.k=0
   .rw[h0,hq];rfl
   .simp[h0]
  rw[this];rfl
 unfold bf cfT gS;rw[<-hm al (range 13),hf (λk=>k==2) rfl,hf (λk=>k==3||k==4) rfl]
def GL(s s':PS):Prop:=oH s s'/\(tf s->tf s')
theorem GL.refl(s:PS):GL s s:=⟨oH.refl s,id⟩
theorem GL.trans{a b c:PS}(h:GL a b)(k:GL b c):GL a c:=⟨h.1.trans k.1,λx=>k.2 (h.2 x)⟩
theorem GL.same{s s':PS}(hv:s'.vars=s.vars)(hh:s'.hid=s.hid):GL s s':=⟨⟨by rw[hv];exact prefix_refl _,by rw[hh];exact prefix_refl _⟩,λh=>⟨by rw[hv];exact h.nv,by rw[hh];exact h.nh,by rw[hv];exact h.lv,by rw[hh];exact h.lh⟩⟩
section
variable {ws:List ByteArray}
theorem mo(k:ByteArray)(s:PS):GL s (aG ws k s):=⟨pH ws k s,pP⟩
theorem Hz(s:PS):GL s (bK ws s):=⟨N9 ws s,PV⟩
theorem zU(s:PS):GL s (ce ws s):=⟨Ib ws s,IP⟩
theorem pG(s:PS):GL s s.adv:=GL.same rfl rfl
theorem Fe(nd:Nd)(s:PS):GL s (ch nd s):=GL.same rfl rfl
theorem Zn(s:PS):GL s (yz ws s):=by unfold yz;split;exact pG s;exact mo _ s
theorem aeN(s:PS):GL s (ti ws s):=by
 unfold ti;split
 .exact pG s
 .exact((Hz s).trans (Zn _)).trans (zU _)
theorem WN(s:PS):GL s (gl ws s):=by
 unfold gl Mj;exact(((mo _ s).trans (aeN _)).trans (mo _ _)).trans (Fe _ _)
theorem aeK(s:PS):GL s (oL ws s):=by
 unfold oL;split
 .exact pG s
 .split
  .exact((zU s).trans (pG _)).trans (mo _ _)
  .exact zU s
theorem aeR(s:PS):GL s (io ws s):=by
 unfold io;split
 .exact pG s
 .split
  .exact(pG s).trans (Hz _)
  .split
   .unfold zj;exact((((Hz s).trans (pG _)).trans (mo _ _)).trans (mo _ _)).trans (zU _)
   .exact((Hz s).trans (mo _ _)).trans (aeK _)
theorem aeQ(s:PS):GL s (sW ws s):=by
 unfold sW;exact((aeR s).trans (mo _ _)).trans (Fe _ _)
theorem aeL{blk:PS->PS}(hb:∀s,GL s (blk s))(s:PS):GL s (pE blk ws s):=by
 have h1:GL s (cE blk ws s):=by unfold cE;exact((mo _ s).trans (WN _)).trans (hb _)
 unfold pE;split
 .refine h1.trans (GL.trans (b:=lI s.nodes.length (cE blk ws s)) (GL.same rfl rfl) ((hb _).trans (GL.same rfl rfl)))
 .exact h1.trans (GL.same rfl rfl)
theorem aeO{blk:PS->PS}(hb:∀s,GL s (blk s))(s:PS):GL s (xE blk ws s):=by
 have h1:GL s (ny blk ws s):=by unfold ny;exact((mo _ s).trans (WN _)).trans (hb _)
 exact h1.trans (GL.same rfl rfl)
theorem aeM{blk:PS->PS}(hb:∀s,GL s (blk s))(s:PS):GL s (kQ blk ws s):=by
 unfold kQ;split
 .exact aeL hb s
 .split
  .exact aeO hb s
  .exact aeQ s
theorem N7{c:PS->PS}(hc:∀s,GL s (c s)):∀n s,GL s (ji c ws n s)
 |0,s=>GL.refl s
 |n+1,s=>by
  show GL s (if _ then s else ji c ws n (c s));split
  .exact GL.refl s
  .exact(hc s).trans (N7 hc n _)
theorem WM:∀f s,GL s (cJ ws f s)
 |0,s=>GL.refl s
 |f+1,s=>((mo _ s).trans (N7 (aeM (WM f)) _ _)).trans (mo _ _)
theorem aeP(s:PS):GL (pF ws (aG ws eH s)) (fn ws s):=by
 have h1:GL (pF ws (aG ws eH s)) (Eu ws s):=(WM _ _).trans (Fe _ _);unfold fn;split
 .exact h1
 .exact h1.trans (GL.same rfl rfl)
theorem IN:tf aX:=⟨nodup_nil,nodup_nil,λc hc=>(by cases hc),λc hc=>(by cases hc)⟩
theorem aa1:tf (fn ws aX):=(aeP aX).2 (PU (pP IN))
end
def Brn(b:List ByteArray)(C:List qj):Prop:=∀(ws:List ByteArray) (f n:Nat) (q:List ByteArray) (s:PS),b.length<f->b.length<n->gW tR q=false->Rd ws s (b++q) ->
  ∃n' s',ji (kQ (cJ ws f) ws) ws n s=ji (kQ (cJ ws f) ws) ws n' s'/\n<=n'+b.length/\LQ ws s s' q (C.map (my s.nodes.length))
theorem QD{ws f q:List ByteArray}{s:PS}(hf:lG f)(hq:gW aQ q=false)(h:Rd ws s (f++q))(hl:f.length<=ws.length+1):Rd ws (pF ws s) q:=by
 have h1:=(AR (ws:=ws)).ok s _ h;rw[zT hf hl hq]at h1;exact h1
theorem Az(r:List ByteArray):gW aQ (dR::r)=false:=bB (am (by simp[dR,aQ]))
theorem oq{f b:List ByteArray}{C:List qj}(hf:lG f)(hB:Brn b C){ws:List ByteArray}(e:ws=cV::(f++dR::(b++[fE]))):
  ∃N,(fn ws aX).nodes=N++[{ iN with nx:=N.length+1 }]/\D6 (fn ws aX).vars 0 N (C.map (my 0))/\(fn ws aX).failed=false:=by
 have hl:ws.length=f.length+b.length+3:=by rw[e];simp only[length_cons,length_append,length_nil];omega
 have r0:Rd ws aX (eH::(f++dR::(b++[fE]))):=⟨rfl,e,zq5 _⟩;have a1:=dY FT r0;have r2:=QD hf (Az _) a1.rd (by omega);have a3:=dY (k:=mw) yR r2;have n3:(aG ws mw (pF ws (aG ws eH aX))).nodes=[]:=by rw[a3.nd,yG,a1.nd];rfl
 obtain⟨n',s',e1,l1,r4,Ip,N,hN,hNI⟩:=hB ws ws.length (ws.length+2) [fE] _ (by omega) (by omega) DB a3.rd;obtain⟨n2,rfl⟩:∃n2,n'=n2+1:=⟨n'-1,by omega⟩;rw[uU r4]at e1;have a5:=dY (k:=kU) qL r4;rw[n3]at hN hNI;rw[nil_append]at hN;have hT:Eu ws aX=ch iN (aG ws kU s'):=by
  show ch iN (aG ws kU (ji (kQ (cJ ws ws.length) ws) ws (ws.length+2) (aG ws mw (pF ws (aG ws eH aX)))))=_;rw[e1]
 have hp:(Eu ws aX).pos=ws.length:=by
  rw[hT];have h5:=a5.rd;have h6:=congrArg List.length h5.2.1;rw[length_drop,length_nil]at h6;have h7:=h5.2.2;show(aG ws kU _).pos=ws.length;omega
 have hS:fn ws aX=Eu ws aX:=if_pos hp;rw[hS,hT];refine⟨N,?_,hNI _ a5.vs,a5.rd.1⟩;show(aG ws kU s').nodes++[{ iN with nx:=(aG ws kU s').nodes.length+1 }]=_;rw[a5.nd,hN]
theorem abK{l:List UInt8}(h:lA l=0):∃f b k,lG f/\iV b k/\b9 l=cV::(f++dR::(b++[fE])):=by
 obtain⟨-,-,hf,-,-⟩:=jR h;apply Classical.byContradiction;intro hc;have:(fn (b9 l) aX).failed=true:=Vq (λk hk=>by
  obtain⟨j,⟨f,b,h1,h2,h3⟩,-⟩:=Qt hk;exact hc ⟨f,b,j,h1,h2,h3⟩)
 have hf:(fn (b9 l) aX).failed=false:=hf;rw[hf]at this;cases this
def qU(z:List ByteArray)(d:Bool):List ByteArray->List ByteArray × Bool
 |[]=>(z,d)
 |x::r=>qU (dl (aF x&&!d) z x) (aW x a8) r
def U8(z:List ByteArray):List ByteArray->List ByteArray
 |[]=>z
 |x::r=>U8 (dl (kW x) z x) r
theorem og:∀(a b:List ByteArray) (z:List ByteArray) (d:Bool),qU z d (a++b)=qU (qU z d a).1 (qU z d a).2 b
 |[],_,_,_=>rfl
 |x::a,b,z,d=>og a b _ _
theorem oe:∀(a b:List ByteArray) (z:List ByteArray),U8 z (a++b)=U8 (U8 z a) b
 |[],_,_=>rfl
 |x::a,b,z=>oe a b _
theorem P6(l:List ByteArray):∀k,k<=l.length->qU [] false (l.take k)=(R3 l k,aeC l k)/\U8 [] (l.take k)=RZ l k
 |0,_=>⟨rfl,rfl⟩
 |k+1,hk=>by
  obtain⟨h1,h2⟩:=P6 l k (by omega);have hg:l[k]?.getD em=l[k]:=by rw[getElem?_eq_getElem (by omega)];rfl
  rw[take_succ_eq_append_getElem (by omega),og,oe,h1,h2];refine⟨?_,?_⟩
  .show(dl (aF l[k]&&!aeC l k) (R3 l k) l[k],aW l[k] a8)=(dl (aF (l[k]?.getD em)&&!aeC l k) (R3 l k) (l[k]?.getD em),aW (l[k]?.getD em) a8);rw[hg]
  .show dl (kW l[k]) (RZ l k) l[k]=dl (kW (l[k]?.getD em)) (RZ l k) (l[k]?.getD em);rw[hg]
theorem Dz{ws:List ByteArray}(hf:(fn ws aX).failed=false):(fn ws aX).vars.map bh=(qU [] false ws).1/\(fn ws aX).hid.map bh=U8 [] ws:=by
 have hp:(fn ws aX).pos=ws.length:=by
  unfold fn at hf ⊢;by_cases hp:(Eu ws aX).pos=ws.length
  .rw[if_pos hp];exact hp
  .rw[if_neg hp]at hf;cases hf
 have hi:=UF (ws:=ws) aX (Iu _) hf;rw[hp]at hi;obtain⟨-,hv,hh⟩:=hi;obtain⟨h1,h2⟩:=P6 ws ws.length (zq4 _);rw[take_length]at h1 h2;rw[h1,h2];exact⟨hv.symm,hh.symm⟩
theorem uN(c:Bool)(z:List ByteArray)(x:ByteArray):dl c z x=z\/dl c z x=z++[x]:=by
 unfold dl;split
 .exact zq1 rfl
 .exact zq0 rfl
theorem yp{z:List ByteArray}{x:ByteArray}(h:x∈z)(c:Bool):dl c z x=z:=by
 unfold dl;have:amI z x=tj z x:=by
  unfold amI;rw[if_pos];have hm:∀(z:List ByteArray),x∈z->tj z x<z.length:=λz=>by
   induction z with
   |nil=>intro h;simp at h
   |cons y z ih =>
    intro h;unfold tj;by_cases e:aW y x=true
    .rw[if_pos e];simp
    .rw[if_neg e];rcases mem_cons.1 h with rfl|h
     .exact absurd (aR _) e
     .have:=ih h;simp only[length_cons];omega
  exact hm z h
 rw[if_neg];rw[this];simp
theorem EJ{z:List ByteArray}{x:ByteArray}:x∈dl true z x:=by
 rcases uN true z x with h|h
 .by_cases hm:x∈z
  .rw[h];exact hm
  .exfalso;have hn:∀(z:List ByteArray),x ∉ z->tj z x=z.length:=λz=>by
    induction z with
    |nil=>intro _;rfl
    |cons y z ih =>
     intro hm;unfold tj;rw[if_neg (λe=>hm (by rw[a6.1 e];simp)),ih (λh=>hm (by simp[h]))];simp
   have e:dl true z x=z++[x]:=by
    unfold dl amI;rw[hn z hm,if_neg (Nat.lt_irrefl _)];rfl
   rw[e]at h;have:=congrArg List.length h;simp at this
 .rw[h];simp
theorem qV{a b:List UInt8}(h:a.map bh=b.map bh):a=b:=(map_inj_right (λc d h=>by
 have:(bh c).data.toList=(bh d).data.toList:=by rw[h]
 injection this)).1 h
theorem Jb{f:List ByteArray}(hf:lG f)(q:List ByteArray):∃al,DD [] f=some al/\al=Lb (pF (cV::(f++dR::q)) (aG (cV::(f++dR::q)) eH aX)).vars (pF (cV::(f++dR::q)) (aG (cV::(f++dR::q)) eH aX)).hid (eW (cV::(f++dR::q)) aX) /\
   (∀a∈eW (cV::(f++dR::q)) aX,uw (pF (cV::(f++dR::q)) (aG (cV::(f++dR::q)) eH aX)).vars (pF (cV::(f++dR::q)) (aG (cV::(f++dR::q)) eH aX)).hid a) /\
   tf (pF (cV::(f++dR::q)) (aG (cV::(f++dR::q)) eH aX))/\(pF (cV::(f++dR::q)) (aG (cV::(f++dR::q)) eH aX)).vars.map bh=(qU [] false (cV::f)).1/\(pF (cV::(f++dR::q)) (aG (cV::(f++dR::q)) eH aX)).hid.map bh=U8 [] (cV::f):=by
 obtain⟨ws,Is⟩:∃ws,ws=cV::(f++dR::q):=⟨_,rfl⟩;have hl:f.length<=ws.length+1:=by rw[Is];simp;omega
 have r0:Rd ws aX (eH::(f++dR::q)):=⟨rfl,Is,zq5 _⟩;rw[<-Is];have a1:=dY FT r0;have r2:=QD hf (Az q) a1.rd hl;obtain⟨al,g1,g2,g3⟩:=aeI hf (n:=ws.length+1) a1.rd hl (Az q);have hi:=Iz _ (ahx aX (Iu ws)) r2.1;have hp:(pF ws (aG ws eH aX)).pos=f.length+1:=by
  have h1:=congrArg List.length r2.2.1;have h2:=r2.2.2;rw[Is]at h1 h2;simp only[length_drop,length_append,length_cons]at h1 h2;rw[<-Is]at h1 h2;omega
 rw[hp]at hi;obtain⟨-,hv,hh⟩:=hi;obtain⟨k1,k2⟩:=P6 ws (f.length+1) (by rw[Is];simp);have ht:ws.take (f.length+1)=cV::f:=by rw[Is];simp
 rw[ht]at k1 k2;refine⟨al,g1,g2,g3,PU (pP IN),?_,?_⟩
 .rw[k1];exact hv.symm
 .rw[k2];exact hh.symm
section
variable {vs:List UInt8}
theorem dne{x y z:ByteArray}(h:z=x)(h':z=y)(hd:x.data.toList≠y.data.toList):False:=hd (by rw[<-h,<-h'])
theorem DN{a:Nd}{i:qj}(h:SI vs a i)(e:i.op=sZ\/i.op=Kh):False:=by
 rcases h with⟨a1,-⟩|⟨a1,-⟩|⟨a1,-⟩|⟨a1,-⟩|⟨a1,-⟩|⟨a1,-⟩|⟨a1,-⟩ <;> rcases e with e|e <;> exact dne a1 e (by simp[bZ,Cm,mb,Df,wI,fW,gh,sZ,Kh])
end
section
variable {f b:List ByteArray} {k:Nat}
theorem D6.at{vs:List UInt8}{n:Nat}{N:List Nd}{C:List qj}(h:D6 vs n N C){j:Nat}(hj:j<C.length):NI vs (n+j) (N.getD j aI) C[j]:=by
 have hl:=h.len;refine h.get j _ _ ?_ (getElem?_eq_getElem hj);rw[getD_eq_getElem?_getD,getElem?_eq_getElem (by omega)];rfl
theorem yI{A:List Nd}{e:Nd}{j:Nat}(h:j<A.length):(A++[e]).getD j aI=A.getD j aI:=by
 rw[getD_eq_getElem?_getD,getElem?_append_left h,<-getD_eq_getElem?_getD]
theorem yJ{A:List Nd}{e:Nd}:(A++[e]).getD A.length aI=e:=by
 rw[getD_eq_getElem?_getD,getElem?_append_right (zq4 _)];simp
theorem XJ{vs:List UInt8}{j:Nat}{nd:Nd}{i:qj}(h:NI vs j nd i):(nd.op=10↔i.op=Kh)/\(i.op=Kh->nd.nx=i.to)/\(i.op≠Kh->nd.nx=j+1)/\(nd.op=7\/nd.op=8\/nd.op=9->nd.ot=i.to)/\nd.op≠0:=by
 rcases h with⟨h1,h2⟩|⟨h1,h2,h3⟩|⟨h1,h2,h3⟩
 .have hg:i.op≠Kh:=λe=>DN h1 (zq1 e);have ho:nd.op=1\/nd.op=4\/nd.op=2\/nd.op=3\/nd.op=5\/nd.op=6:=by
   rcases h1 with⟨-,a,-⟩|⟨-,a,-⟩|⟨-,a,-⟩|⟨-,a,-⟩|⟨-,a,-⟩|⟨-,a,-⟩|⟨-,a⟩ <;> omega
  exact⟨⟨λe=>by omega,λe=>absurd e hg⟩,λe=>absurd e hg,λ_=>h2,λe=>by omega,by omega⟩
 .have hg:i.op≠Kh:=λe=>dne h1.1 e (by simp[sZ,Kh]);have ho:nd.op=7\/nd.op=8\/nd.op=9:=by
   rcases h1.2 with⟨-,a⟩|⟨-,a,-⟩|⟨-,a,-⟩ <;> omega
  exact⟨⟨λe=>by omega,λe=>absurd e hg⟩,λe=>absurd e hg,λ_=>h2,λ_=>h3,by omega⟩
 .exact⟨⟨λ_=>h1,λ_=>h2⟩,λ_=>h3,λe=>absurd h1 e,λe=>by omega,by omega⟩
def rq(f b:List ByteArray):List ByteArray:=cV::(f++dR::(b++[fE]))
end
def B1(z:UInt8):List ByteArray:=[bh z,B4,bZ]
section
variable {f b:List ByteArray} {z:UInt8} {k:Nat}
theorem zQ{p:List ByteArray}(hf:lG f)(hp:ss p=true):lG (f++aQ::p):=by
 induction hf using lG.ind with
 |one h=>exact lG.more h (lG.one hp)
 |more h _ ih=>rw[append_assoc];exact lG.more h ih
theorem Ji{p:List ByteArray}(hp:ss p=true):DD [] p=some (XL p):=by
 have:=uk (nP hp) [] [];rw[append_nil]at this;rw[this];simp only[DD,nil_append,if_pos hp]
theorem Bf{p r:List ByteArray}(hp:ss p=true):DD [] (p++aQ::r)=(DD [] r).map (XL p++·):=by
 rw[uk (nP hp)];simp only[DD,nil_append,aR,if_true,if_pos hp]
theorem QG{p:List ByteArray}(hf:lG f)(hp:ss p=true):∀{a:List xL},DD [] f=some a->DD [] (f++aQ::p)=some (a++XL p):=by
 induction hf using lG.ind with
 |one h =>
  intro a ha;rw[Ji h]at ha;injection ha with ha;rw[Bf h,Ji hp,<-ha];rfl
 |more h _ ih =>
  intro a ha;rw[Bf h]at ha;obtain⟨a',h1,h2⟩:=Option.map_eq_some_iff.1 ha;rw[append_assoc,cons_append,Bf h,ih h1,<-h2,append_assoc];rfl
theorem I7(hz:aF (bh z)=true):ss (B1 z)=true:=by
 simp[B1,ss,gf,hz,aR]
theorem rG{y:List ByteArray}{x:ByteArray}(h:x ∉ y):dl true y x=y++[x]:=by
 rcases uN true y x with e|e
 .have:=EJ (z:=y) (x:=x);rw[e]at this;exact absurd this h
 .exact e
theorem gw{y:List ByteArray}{x:ByteArray}:dl false y x=y:=rfl
theorem ue:∀(R:List ByteArray) (A B:List ByteArray) (d:Bool) (x:ByteArray),x ∉ R->∃C,(qU (A++B) d R).1=A++(B++C)/\(qU (A++x::B) d R).1=A++x::(B++C)
 |[],A,B,d,x,_=>⟨[],by simp[qU],by simp[qU]⟩
 |y::R,A,B,d,x,h=>by
  have hy:y≠x:=λe=>h (by rw[e];simp);have hR:x ∉ R:=λe=>h (by simp[e]);unfold qU;cases hc:aF y&&!d with
  |false=>rw[gw,gw];exact ue R A B _ x hR
  |true =>
   by_cases hm:y∈A++B
   .rw[yp hm,yp (by rcases mem_append.1 hm with h|h;exact mem_append_left _ h;exact mem_append_right _ (mem_cons_of_mem _ h))];exact ue R A B _ x hR
   .have rz:y ∉ A++x::B:=λh=>by
     rcases mem_append.1 h with h|h
     .exact hm (mem_append_left _ h)
     .rcases mem_cons.1 h with h|h
      .exact hy h
      .exact hm (mem_append_right _ h)
    rw[rG hm,rG rz];obtain⟨C,h1,h2⟩:=ue R A (B++[y]) (aW y a8) x hR;refine⟨[y]++C,?_,?_⟩
    .rw[append_assoc,h1,append_assoc]
    .rw[append_assoc,cons_append,h2,append_assoc]
theorem Gc:∀(R:List ByteArray) {y:List ByteArray} {d:Bool} {x:ByteArray},x∈(qU y d R).1->x∈y\/x∈R
 |[],_,_,_,h=>zq0 h
 |w::R,y,d,x,h=>by
  unfold qU at h;rcases Gc R h with h|h
  .rcases uN (aF w&&!d) y w with e|e
   .rw[e]at h;exact zq0 h
   .rw[e]at h;rcases mem_append.1 h with h|h
    .exact zq0 h
    .right;rw[mem_singleton.1 h];simp
  .right;simp[h]
theorem FY:aF aQ=false/\aF B4=false/\aF dR=false:=by
 refine⟨?_,?_,?_⟩ <;> rfl
theorem P7{y:List ByteArray}{d:Bool}(hz:aF (bh z)=true)(hn:bh z ∉ y):qU y d (aQ::B1 z)=(y++[bh z],false):=by
 unfold B1;simp only[qU];rw[FY.1,FY.2.1,jp,Bool.false_and,Bool.false_and,Bool.false_and,gw,gw,gw,hz,show aW aQ a8=false from bB (am (by simp[aQ,a8]))];rw[show(true&&!false)=true from rfl,rG hn,show aW bZ a8=false from bB (am (by simp[bZ,a8]))]
theorem Va{y:List ByteArray}{d d':Bool}{r:List ByteArray}:qU y d (dR::r)=qU y d' (dR::r):=by
 simp only[qU];rw[FY.2.2,Bool.false_and,Bool.false_and]
theorem ahs(hz:aF (bh z)=true):kW aQ=false/\kW B4=false/\kW bZ=false/\kW (bh z)=false:=⟨rfl,rfl,rfl,vO _ hz⟩
theorem P4{y:List ByteArray}(hz:aF (bh z)=true):U8 y (aQ::B1 z)=y:=by
 obtain⟨h1,h2,h3,h4⟩:=ahs hz;unfold B1;simp only[U8];rw[h1,h2,h3,h4,gw,gw,gw,gw]
theorem yx{ws ws':List ByteArray}(hz:aF (bh z)=true)(e:ws=rq f b)(e':ws'=rq (f++aQ::B1 z) b)(hx:bh z ∉ ws)(hf:(fn ws aX).failed=false)(ry:(fn ws' aX).failed=false){V:List UInt8}(hV:V.map bh=(qU [] false (cV::f)).1):
  ∃C,(fn ws aX).vars=V++C/\(fn ws' aX).vars=V++z::C/\(fn ws' aX).hid=(fn ws aX).hid:=by
 obtain⟨v1,v2⟩:=Dz hf;obtain⟨w1,w2⟩:=Dz ry;have e1:ws=(cV::f)++dR::(b++[fE]):=by rw[e];rfl
 have e2:ws'=(cV::f)++(aQ::B1 z++dR::(b++[fE])):=by rw[e'];unfold rq;simp
 have hxf:bh z ∉ V.map bh:=λh=>by
  rw[hV]at h;have:=Gc _ h;rcases this with h1|h1
  .simp at h1
  .exact hx (by rw[e1];exact mem_append_left _ h1)
 have hxr:bh z ∉ dR::(b++[fE]):=λh=>hx (by rw[e1];exact mem_append_right _ h);have v1:=v1.trans (show(qU [] false ws).1=(qU (V.map bh) (qU [] false (cV::f)).2 (dR::(b++[fE]))).1 by rw[e1,og,<-hV]);have w1:=w1.trans (show(qU [] false ws').1=(qU (V.map bh++[bh z]) (qU [] false (cV::f)).2 (dR::(b++[fE]))).1 by rw[e2,og,og,<-hV,P7 hz hxf];exact congrArg Prod.fst Va);obtain⟨C,c1,c2⟩:=ue (dR::(b++[fE])) (V.map bh) [] (qU [] false (cV::f)).2 (bh z) hxr;rw[append_nil]at c1;rw[c1,nil_append]at v1;rw[c2,nil_append]at w1;obtain⟨l1,l2,hl,xB,vt⟩:=map_eq_append_iff.1 v1;have:=qV xB;subst this;refine⟨l2,hl,qV ?_,qV ?_⟩
 .rw[w1,<-vt,map_append,map_cons]
 .rw[v2,w2,e1,e2,oe,oe,oe,P4 hz]
end
section
variable {vs vs' V C:List UInt8} {z:UInt8}
theorem aht(e:vs=V++C)(e':vs'=V++z::C)(hn:vs'.Nodup)(h4:vs'.length<=4){x:ByteArray}{i j:Nat}(h:rl vs x i)(h':rl vs' x j):JS (Ew V.length vs.length) V.length i j:=by
 have hi:i<vs.length:=(List.getElem?_eq_some_iff.1 h.2).1;have hj:j<vs'.length:=(List.getElem?_eq_some_iff.1 h'.2).1;have hl:vs.length=V.length+C.length:=by rw[e];simp
 have RR:vs'.length=V.length+C.length+1:=by rw[e'];simp;omega
 have Z8:j=if i<V.length then i else i+1:=by
  have hh:vs'[if i<V.length then i else i+1]?=vs[i]?:=by
   rw[e,e'];by_cases hc:i<V.length
   .rw[if_pos hc,getElem?_append_left hc,getElem?_append_left hc]
   .rw[if_neg hc,getElem?_append_right (by omega),getElem?_append_right (by omega),show i+1-V.length=(i-V.length)+1 by omega,getElem?_cons_succ]
  refine((getElem?_inj (by split <;> omega) hn).1 (hh.trans (h.2.trans h'.2.symm))).symm
 have xZ:Ew V.length vs.length (1+i)=1+j:=by
  unfold Ew;rw[Z8];by_cases hc:i<V.length
  .rw[if_pos (by omega),if_pos hc]
  .rw[if_neg (by omega),if_pos (by omega),if_neg hc];omega
 refine⟨xZ.symm,λk hk he=>?_,by omega,by omega,by rw[Z8];split <;> omega⟩;rw[xZ,Z8]at he;unfold Ew at he;by_cases c1:k<=V.length
 .rw[if_pos c1]at he;by_cases hc:i<V.length
  .rw[if_pos hc]at he;omega
  .rw[if_neg hc]at he;omega
 .rw[if_neg c1]at he;by_cases c2:k<=vs.length
  .rw[if_pos c2]at he;by_cases hc:i<V.length
   .rw[if_pos hc]at he;omega
   .rw[if_neg hc]at he;omega
  .rw[if_neg c2]at he;by_cases hc:i<V.length
   .rw[if_pos hc]at he;omega
   .rw[if_neg hc]at he;omega
variable {r:Nat->Nat} {w:Nat}
theorem Ju(hV:∀{x:ByteArray} {i j:Nat},rl vs x i->rl vs' x j->JS r w i j){y:ByteArray}{k i k' i':Nat}(h:VM vs y k i)(h':VM vs' y k' i'):k'=k/\(k=1->JS r w i i'):=by
 rcases h with⟨rfl,rfl⟩|⟨rfl,h⟩ <;> rcases h' with⟨h1,rfl⟩|⟨rfl,h'⟩
 .exact⟨rfl,λe=>by omega⟩
 .have:=h'.1;rw[jp]at this;cases this
 .have:=h.1;rw[h1,jp]at this;cases this
 .exact⟨rfl,λ_=>hV h h'⟩
theorem amO(hV:∀{x:ByteArray} {i j:Nat},rl vs x i->rl vs' x j->JS r w i j){a b:Nd}{i:qj}(h:SI vs a i)(h':SI vs' b i):Wu r w a b:=by
 rcases h with⟨a1,a2,a3,a4⟩|⟨a1,a2,a3,a4,a5⟩|⟨a1,a2,a3⟩|⟨a1,a2,a3,a4,a5⟩|⟨a1,a2,a3,a4⟩|⟨a1,a2,a3⟩|⟨a1,a2⟩ <;>
 rcases h' with⟨b1,b2,b3,b4⟩|⟨b1,b2,b3,b4,b5⟩|⟨b1,b2,b3⟩|⟨b1,b2,b3,b4,b5⟩|⟨b1,b2,b3,b4⟩|⟨b1,b2,b3⟩|⟨b1,b2⟩ <;>
 first
 |(refine(dne a1 b1 ?_).elim;simp[bZ,Cm,mb,Df,wI,fW,gh];done)
 |(refine⟨by rw[a2,b2],λho=>?_,λho=>?_,λho=>?_⟩ <;>
   first
   |exact hV a3 b3
   |(exfalso;omega)
   |exact hV a5 b5
   |exact(Ju hV a4 b4).1
   |exact(Ju hV a4 b4).2 (by omega)
   |(rw[a4,b4]))
theorem amP(hV:∀{x:ByteArray} {i j:Nat},rl vs x i->rl vs' x j->JS r w i j){a b:Nd}{i:qj}(h:TI vs a i)(h':TI vs' b i):Wu r w a b:=by
 obtain⟨-,h⟩:=h;obtain⟨-,h'⟩:=h';rcases h with⟨a1,a2⟩|⟨a1,a2,a3,a4⟩|⟨a1,a2,a3,a4⟩ <;> rcases h' with⟨b1,b2⟩|⟨b1,b2,b3,b4⟩|⟨b1,b2,b3,b4⟩ <;>
 first
 |(refine(dne a1 b1 ?_).elim;simp[aQ,bW,kJ];done)
 |(refine⟨by rw[a2,b2],λho=>?_,λho=>?_,λho=>?_⟩ <;>
   first
   |exact hV a3 b3
   |(exfalso;omega)
   |exact(Ju hV a4 b4).1
   |exact(Ju hV a4 b4).2 (by omega))
theorem amD(hV:∀{x:ByteArray} {i j:Nat},rl vs x i->rl vs' x j->JS r w i j){n:Nat}{a b:Nd}{i:qj}(h:NI vs n a i)(h':NI vs' n b i):Wu r w a b/\b.nx=a.nx/\(b.op=7\/b.op=8\/b.op=9->b.ot=a.ot):=by
 obtain⟨g1,g2,g3,g4,-⟩:=XJ h;obtain⟨k1,k2,k3,k4,-⟩:=XJ h';have hR:Wu r w a b:=by
  rcases h with⟨h1,-⟩|⟨h1,-,-⟩|⟨h1,h2,-⟩ <;> rcases h' with⟨h3,-⟩|⟨h3,-,-⟩|⟨h3,h4,-⟩
  .exact amO hV h1 h3
  .exact(DN h1 (zq0 h3.1)).elim
  .exact(DN h1 (zq1 h3)).elim
  .exact(DN h3 (zq0 h1.1)).elim
  .exact amP hV h1 h3
  .exact(dne h1.1 h3 (by simp[sZ,Kh])).elim
  .exact(DN h3 (zq1 h1)).elim
  .exact(dne h1 h3.1 (by simp[sZ,Kh])).elim
  .exact⟨by rw[h2,h4],λho=>by omega,λho=>by omega,λho=>by omega⟩
 refine⟨hR,?_,λho=>?_⟩
 .by_cases hg:i.op=Kh
  .rw[g2 hg,k2 hg]
  .rw[g3 hg,k3 hg]
 .rw[k4 ho,g4 (by rw[<-hR.op];exact ho)]
end
theorem KD{nds nds':List Nd}(hl:nds'.length=nds.length)(h:∀n,(nds'.getD n aI).op=(nds.getD n aI).op/\(nds'.getD n aI).nx=(nds.getD n aI).nx):OJ nds'=OJ nds:=by
 have e:(fun(h:List Bool) i=>if lS nds' i=true then h.set (nds'.getD i aI).nx true else h)=λh i=>if lS nds i=true then h.set (nds.getD i aI).nx true else h:=by
  funext g i;unfold lS;rw[(h i).1,(h i).2]
 unfold OJ;rw[hl,e]
section
variable {f b:List ByteArray} {z:UInt8} {k:Nat}
def R5(ws:List ByteArray):List UInt8:=(pF ws (aG ws eH aX)).vars
theorem Ha{ws ws':List ByteArray}(hf:lG f)(hz:aF (bh z)=true)(e:ws=rq f b)(e':ws'=rq (f++aQ::B1 z) b)(hx:bh z ∉ ws):
  (R5 ws).map bh=(qU [] false (cV::f)).1/\(∀a∈eW ws aX,Tn (R5 ws).length (tm a).l/\Tn (R5 ws).length (tm a).r)/\bf (eW ws' aX)=bf (eW ws aX++[oM (R5 ws).length]):=by
 obtain⟨al,g1,g2,g3,g4,g5,g6⟩:=Jb hf (b++[fE]);obtain⟨al',h1,h2,h3,h4,h5,h6⟩:=Jb (zQ hf (I7 hz)) (b++[fE]);have e0:ws=cV::(f++dR::(b++[fE])):=e;have e0':ws'=cV::((f++aQ::B1 z)++dR::(b++[fE])):=e';rw[<-e0]at g2 g3 g4 g5 g6;rw[<-e0']at h2 h3 h4 h5 h6;rw[QG hf (I7 hz) g1]at h1;injection h1 with h1;obtain⟨s,hs⟩:∃s,s=pF ws (aG ws eH aX):=⟨_,rfl⟩;obtain⟨s',hs'⟩:∃s',s'=pF ws' (aG ws' eH aX):=⟨_,rfl⟩;have hp:R5 ws=s.vars:=by rw[hs];rfl
 rw[hp];rw[<-hs]at g2 g3 g4 g5 g6;rw[<-hs']at h2 h3 h4 h5 h6;have hxf:bh z ∉ s.vars.map bh:=λh=>by
  rw[g5]at h;rcases Gc _ h with h|h
  .simp at h
  .exact hx (by rw[e0];rcases mem_cons.1 h with h|h;rw[h];simp;exact mem_cons_of_mem _ (mem_append_left _ h))
 have ev:s'.vars=s.vars++[z]:=qV (by
  rw[h5,show cV::(f++aQ::B1 z)=(cV::f)++(aQ::B1 z) from rfl,og,<-g5,P7 hz hxf,map_append];rfl)
 have eh:s'.hid=s.hid:=qV (by
  rw[h6,show cV::(f++aQ::B1 z)=(cV::f)++(aQ::B1 z) from rfl,oe,P4 hz,<-g6])
 have hg:oH s s':=⟨by rw[ev];exact prefix_append _ _,by rw[eh];exact prefix_refl _⟩;have hc:uw s'.vars s'.hid (oM s.vars.length):=⟨by show 3<=4;omega,⟨by show 1<=2;omega,λ_=>by show s.vars.length<s'.vars.length;rw[ev];simp,λh=>absurd (show(1:Nat)=2 from h) (by decide)⟩,⟨by show 0<=2;omega,λh=>absurd (show(0:Nat)=1 from h) (by decide),λh=>absurd (show(0:Nat)=2 from h) (by decide)⟩⟩;have hn:Lb s'.vars s'.hid (eW ws' aX)=Lb s'.vars s'.hid (eW ws aX++[oM s.vars.length]):=by
  rw[<-h2,<-h1,IY,IZ hg g3,<-g2];congr 1;show [(⟨B4,bh z,bZ⟩:xL)]=[⟨RV 3,bh (s'.vars.getD s.vars.length 0),bZ⟩];rw[ev,getD_eq_getElem?_getD,getElem?_append_right (zq4 _)];simp[RV]
 refine⟨g5,λa ha=>?_,?_⟩
 .obtain⟨-,b1,b2⟩:=g3 a ha;have key:∀{k i:Nat},Ru s.vars s.hid k i->Tn s.vars.length (nK k i):=fun {k i} hb=>by
   unfold nK Tn;obtain⟨c1,c2,c3⟩:=hb;by_cases k1:k=1
   .rw[if_pos k1];have:=c2 k1;omega
   .rw[if_neg k1];by_cases k2:k=2
    .rw[if_pos k2];omega
    .rw[if_neg k2];omega
  exact⟨key b1,key b2⟩
 .rw[WE,WE];refine congrArg cfT (vS (g:=nmA s'.vars s'.hid) (P:=λa=>uw s'.vars s'.hid a/\a.k≠0) (λa b ha hb qw=>U9 h4 ha.1 hb.1 ha.2 hb.2 qw) _ _ (λa ha=>?_) (λa ha=>?_) hn)
  .obtain⟨k1,k2⟩:=mem_filter.1 ha;exact⟨h3 a k1,by simpa using k2⟩
  .obtain⟨k1,k2⟩:=mem_filter.1 ha;refine⟨?_,by simpa using k2⟩;rcases mem_append.1 k1 with k1|k1
   .exact(g3 a k1).gro hg
   .rw[mem_singleton.1 k1];exact hc
theorem ET{l l':List UInt8}(h:lA l=0)(h':lA l'=0)(hv:(GY (b9 l)).vd=0)(hf:lG f)(hb:iV b k)(hz:aF (bh z)=true)(e:b9 l=rq f b)(e':b9 l'=rq (f++aQ::B1 z) b)(hx:bh z ∉ b9 l):
  (GY (b9 l')).vd=0\/(GY (b9 l')).vd=2:=by
 obtain⟨T,-,hB⟩:=G9 hb;have hB:Brn b T:=hB;obtain⟨N,n1,n2,n3⟩:=oq hf hB (ws:=b9 l) e;obtain⟨N',n1',n2',n3'⟩:=oq (zQ hf (I7 hz)) hB (ws:=b9 l') e';obtain⟨p1,p2,p3⟩:=Ha hf hz e e' hx;obtain⟨C,c1,c2,-⟩:=yx hz e e' hx n3 n3' p1;have hA':=lP h';have ar:tf (fn (b9 l') aX):=aa1;have hV:∀{x:ByteArray} {i j:Nat},rl (fn (b9 l) aX).vars x i->rl (fn (b9 l') aX).vars x j->JS (Ew (R5 (b9 l)).length (fn (b9 l) aX).vars.length) (R5 (b9 l)).length i j:=λh1 h2=>aht c1 c2 ar.nv hA'.v h1 h2;have hN:N.length=T.length:=by have:=n2.len;rwa [length_map]at this
 have hN':N'.length=T.length:=by have:=n2'.len;rwa [length_map]at this
 have c9:∀n,Wu (Ew (R5 (b9 l)).length (fn (b9 l) aX).vars.length) (R5 (b9 l)).length ((fn (b9 l) aX).nodes.getD n aI) ((fn (b9 l') aX).nodes.getD n aI)/\((fn (b9 l') aX).nodes.getD n aI).nx=((fn (b9 l) aX).nodes.getD n aI).nx/\(((fn (b9 l') aX).nodes.getD n aI).op=7\/((fn (b9 l') aX).nodes.getD n aI).op=8\/((fn (b9 l') aX).nodes.getD n aI).op=9->((fn (b9 l') aX).nodes.getD n aI).ot=((fn (b9 l) aX).nodes.getD n aI).ot):=by
  intro n;rw[n1,n1'];rcases Nat.lt_trichotomy n T.length with hn|hn|hn
  .rw[yI (by omega),yI (by omega)];have a1:=n2.at (j:=n) (by rw[length_map];exact hn);have a2:=n2'.at (j:=n) (by rw[length_map];exact hn);exact amD hV a1 a2
  .rw[show n=N.length by omega,yJ];have:N.length=N'.length:=(by omega);rw[this,yJ];refine⟨⟨rfl,λho=>?_,λho=>?_,λho=>?_⟩,rfl,λ_=>rfl⟩ <;> (have ho:_:=ho;simp[iN]at ho)
  .rw[getD_eq_getElem?_getD,getD_eq_getElem?_getD,getElem?_eq_none (by simp;omega),getElem?_eq_none (by simp;omega)];refine⟨⟨rfl,λho=>?_,λho=>?_,λho=>?_⟩,rfl,λ_=>rfl⟩ <;> (have ho:_:=ho;simp[aI]at ho)
 have Xn:(fn (b9 l') aX).nodes.length=(fn (b9 l) aX).nodes.length:=by rw[n1,n1'];simp;omega
 refine JZ (m:=(R5 (b9 l)).length) h h' hv ?_ ?_ p3 p2 Xn (KD Xn (λn=>⟨(c9 n).1.op,(c9 n).2.1⟩)) c9
 .show _<=(fn (b9 l) aX).vars.length;rw[c1];simp
 .show(fn (b9 l') aX).vars.length=(fn (b9 l) aX).vars.length+1;rw[c1,c2];simp;omega
end
theorem XR{c:UInt8}(hc:dS c=false):∀(x r:List UInt8),(x++c::r).takeWhile dS=x.takeWhile dS
 |[],r=>by rw[nil_append,takeWhile_cons,hc];rfl
 |d::x,r=>by
  rw[cons_append,takeWhile_cons,takeWhile_cons];split
  .rw[XR hc x r]
  .rfl
structure Brc(c:UInt8):Prop where
 l:dS c=false
 a:c≠62
 b:c≠61
 s:sX c.toNat=true
 w:¬ (c=32\/c=10)
 p:c≠45
 q:c≠33
theorem WD:Brc 123:=⟨by decide,by decide,by decide,by decide,by decide,by decide,by decide⟩
theorem aez:Brc 125:=⟨by decide,by decide,by decide,by decide,by decide,by decide,by decide⟩
theorem XS{c:UInt8}(hl0:dS c=false)(ha0:c≠62)(tq:c≠61)(d:UInt8)(x r:List UInt8):az (d::x++c::r)=az (d::x):=by
 have h1:aK (d::x++c::r)=aK (d::x):=by unfold aK;rw[XR hl0]
 have h2:((d::x++c::r).take 2=[45,62]\/(d::x++c::r).take 2=[33,61])↔((d::x).take 2=[45,62]\/(d::x).take 2=[33,61]):=by
  cases x with
  |nil =>
   simp only[cons_append,nil_append,take_succ_cons,take_zero,take_nil];constructor
   .rintro(h|h) <;> injection h with _ h <;> injection h with h _
    .exact absurd h ha0
    .exact absurd h tq
   .rintro(h|h) <;> injection h with _ h <;> cases h
  |cons y x=>simp
 unfold az;rw[h1];by_cases hl:0<aK (d::x)
 .rw[if_pos hl,if_pos hl]
 .rw[if_neg hl,if_neg hl];by_cases h3:(d::x).take 2=[45,62]\/(d::x).take 2=[33,61]
  .rw[if_pos h3,if_pos (h2.2 h3)]
  .rw[if_neg h3,if_neg (λh=>h3 (h2.1 h))];rfl
theorem wE{c:UInt8}(hc:Brc c):∀(n:Nat) (x r:List UInt8),x.length<=n->gp (x++c::r)=(gp x).bind (λL=>(gp r).map (L++[c]::·))
 |_,[],r,_=>by
  have:=wu hc.l hc.p hc.q hc.s hc.w r;rw[nil_append,show c::r=[c]++r from rfl,this];rfl
 |0,_::_,_,h=>by simp at h
 |n+1,d::x,r,h=>by
  simp only[length_cons]at h;by_cases hb:d=32\/d=10
  .rw[cons_append,eZ _ _ hb,eZ _ _ hb];exact wE hc n x r (by omega)
  .have hw:=XS hc.l hc.a hc.b d x r;by_cases h0:az (d::x)=0
   .rw[cons_append]at hw ⊢;rw[jU d x hb h0,jU d (x++c::r) hb (by rw[hw];exact h0)];rfl
   .rw[cons_append]at hw ⊢;have l6:=iq (d::x);rw[fF d x hb h0,fF d (x++c::r) hb (by rw[hw];exact h0),hw];have e1:(d::(x++c::r)).drop (az (d::x))=(d::x).drop (az (d::x))++c::r:=by
     rw[<-cons_append,drop_append_of_le_length l6]
    have e2:(d::(x++c::r)).take (az (d::x))=(d::x).take (az (d::x)):=by
     rw[<-cons_append,take_append_of_le_length l6]
    rw[e1,e2,wE hc n _ r (by simp only[length_drop,length_cons];omega)];cases gp ((d::x).drop (az (d::x))) with
    |none=>rfl
    |some L=>cases gp r <;> rfl
theorem mg:∀(n:Nat) (x:List UInt8) (L:List (List UInt8)),x.length<=n->gp x=some L->∀w∈L,∀c∈w,c∈x
 |_,[],L,_,h,w,hw=>by
  rw[uo]at h;injection h with h;rw[<-h]at hw;simp at hw
 |0,_::_,_,h,_,_,_=>by simp at h
 |n+1,d::x,L,hl,h,w,hw=>by
  simp only[length_cons]at hl;by_cases hb:d=32\/d=10
  .rw[eZ _ _ hb]at h;intro c hc;exact mem_cons_of_mem _ (mg n x L (by omega) h w hw c hc)
  .by_cases h0:az (d::x)=0
   .rw[jU d x hb h0]at h;cases h
   .rw[fF d x hb h0]at h;obtain⟨L',h1,rfl⟩:=Option.map_eq_some_iff.1 h;intro c hc;rcases mem_cons.1 hw with rfl|hw
    .exact mem_of_mem_take hc
    .exact mem_of_mem_drop (mg n _ L' (by simp only[length_drop,length_cons];omega) h1 w hw c hc)
theorem rP{α:Type}{z:α}:∀{a b a' b':List α},z ∉ a->z ∉ a'->a++z::b=a'++z::b'->a=a'/\b=b'
 |[],_,[],_,_,_,h=>by injection h with _ h;exact⟨rfl,h⟩
 |[],_,y::a',_,_,h2,h=>by injection h with h _;exact absurd (by rw[h];simp) h2
 |x::a,_,[],_,h1,_,h=>by injection h with h _;exact absurd (by rw[h];simp) h1
 |x::a,_,y::a',_,h1,h2,h=>by
  rw[cons_append,cons_append]at h;injection h with e h;obtain⟨g1,g2⟩:=rP (λhm=>h1 (by simp[hm])) (λhm=>h2 (by simp[hm])) h;exact⟨by rw[e,g1],g2⟩
theorem ou{l:List UInt8}{L:List (List UInt8)}(h:gp l=some L):b9 l=L.map bA:=by unfold b9;rw[h];rfl
theorem uQ{L:List (List UInt8)}{x:List UInt8}:bA x∈L.map bA↔x∈L:=by
 constructor
 .intro h;obtain⟨y,hy,e⟩:=mem_map.1 h;rw[<-MY e];exact hy
 .exact λh=>mem_map.2 ⟨x,h,rfl⟩
structure ai8(l A B W:List UInt8)(f b:List ByteArray):Prop where
 e:l=A++123::(B++125::W)
 a:123 ∉ A
 w:125 ∉ W
 sA:(gp A).map (·.map bA)=some (cV::f)
 sB:(gp B).map (·.map bA)=some b
theorem Da{α:Type}(p:α->Bool):∀(l:List α),(∃x∈l,p x=true)->∃a z b,l=a++z::b/\p z=true/\∀x∈b,p x=false
 |[],h=>by obtain⟨x,hx,-⟩:=h;simp at hx
 |y::l,h=>by
  by_cases hl:∃x∈l,p x=true
  .obtain⟨a,z,b,h1,h2,h3⟩:=Da p l hl;exact⟨y::a,z,b,by rw[h1];rfl,h2,h3⟩
  .obtain⟨x,hx,hp⟩:=h;rcases mem_cons.1 hx with rfl|hx
   .exact⟨[],x,l,rfl,hp,λz hz=>by
     cases hc:p z with
     |false=>rfl
     |true=>exact absurd ⟨z,hz,hc⟩ hl⟩
   .exact absurd ⟨x,hx,hp⟩ hl
theorem abJ{l:List UInt8}(h:lA l=0):∃A B W f b k,ai8 l A B W f b/\lG f/\iV b k/\b9 l=rq f b:=by
 obtain⟨f,b,k,hf,hb,hw⟩:=abK h;obtain⟨-,hs,-⟩:=jR h;obtain⟨L,hL⟩:=Option.ne_none_iff_exists'.1 hs;have hLw:L.map bA=rq f b:=by rw[<-ou hL];exact hw
 have hm:([123]:List UInt8)∈L:=by
  rw[<-uQ,hLw];unfold rq;simp[show bA [123]=dR from rfl]
 have hc:(123:UInt8)∈l:=mg _ l L (zq4 _) hL _ hm 123 (by simp);obtain⟨A,R,hA,hl⟩:∃A R,123 ∉ A/\l=A++123::R:=by
  obtain⟨A,R,h1,h2⟩:=mem_iff_append.1 hc |> λ⟨s,t,e⟩=>(⟨s,t,e,trivial⟩:∃A R,l=A++123::R/\True);clear h2;have key:∀l:List UInt8,123∈l->∃A R,123 ∉ A/\l=A++123::R:=by
   intro l;induction l with
   |nil=>intro h;simp at h
   |cons x l ih =>
    intro h;by_cases e:x=123
    .exact⟨[],l,by simp,by rw[e];rfl⟩
    .rcases mem_cons.1 h with h|h
     .exact absurd h.symm e
     .obtain⟨A,R,h1,h2⟩:=ih h;exact⟨x::A,R,by simp[h1,Ne.symm e],by rw[h2];rfl⟩
  exact key l hc
 have xD:=wE WD A.length A R (zq4 _);rw[<-hl,hL]at xD;cases hsA:gp A with
 |none=>rw[hsA]at xD;cases xD
 |some LA =>
  rw[hsA]at xD;cases hsR:gp R with
  |none=>rw[hsR]at xD;cases xD
  |some LR =>
   rw[hsR]at xD;have hLe:L=LA++[123]::LR:=(by injection xD);have hLA:dR ∉ LA.map bA:=λhh=>by
    have:([123]:List UInt8)∈LA:=uQ.1 hh;exact hA (mg _ A LA (zq4 _) hsA _ this 123 (by simp))
   have kT:dR ∉ cV::f:=λhh=>by
    rcases mem_cons.1 hh with hh|hh
    .exact absurd hh (am (by simp[cV,dR]))
    .exact WK hf _ hh rfl
   have hcut:LA.map bA++dR::LR.map bA=(cV::f)++dR::(b++[fE]):=by
    have:=hLw;rw[hLe,map_append,map_cons]at this;exact this
   obtain⟨c1,c2⟩:=rP hLA kT hcut;have rz:([125]:List UInt8)∈LR:=(by rw[<-uQ,c2];simp[show bA [125]=fE from rfl]);have tr:(125:UInt8)∈R:=mg _ R LR (zq4 _) hsR _ rz 125 (by simp);obtain⟨B,z,W,hR,hz,hW⟩:=Da (λc:UInt8=>c==125) R ⟨125,tr,by simp⟩;have hz:z=125:=(by simpa using hz);subst hz;have hW:125 ∉ W:=λhh=>by have:=hW _ hh;simp at this
   have C7:=wE aez B.length B W (zq4 _);rw[<-hR,hsR]at C7;cases hsB:gp B with
   |none=>rw[hsB]at C7;cases C7
   |some LB =>
    rw[hsB]at C7;cases hsW:gp W with
    |none=>rw[hsW]at C7;cases C7
    |some LW =>
     rw[hsW]at C7;have hLR:LR=LB++[125]::LW:=(by injection C7);have hLW:LW=[]:=by
      rcases eq_nil_or_concat LW with h0|⟨L1,y,h0⟩
      .exact h0
      .exfalso;rw[concat_eq_append]at h0;have e:(LB.map bA++fE::L1.map bA)++[bA y]=b++[fE]:=(by rw[<-c2,hLR,h0];simp[show bA [125]=fE from rfl]);have:=(append_inj' e rfl).2;injection this with this;have hy:y=[125]:=MY this;exact hW (mg _ W LW (zq4 _) hsW y (by rw[h0];simp) 125 (by rw[hy];simp))
     have xp:LB.map bA=b:=by
      have e:LB.map bA++[fE]=b++[fE]:=(by rw[<-c2,hLR,hLW];simp[show bA [125]=fE from rfl]);exact(append_inj' e rfl).1
     refine⟨A,B,W,f,b,k,⟨by rw[hl,hR],hA,hW,?_,?_⟩,hf,hb,hw⟩
     .rw[hsA,Option.map_some,c1]
     .rw[hsB,Option.map_some,xp]
def Bh(c:UInt8):Bool:=gP c.toNat
def shU(k:Nat)(c:UInt8):UInt8:=UInt8.ofNat (97+(c.toNat-97+k)%26)
theorem VF{c:UInt8}:Bh c=true↔97<=c.toNat/\c.toNat<=122:=by
 unfold Bh gP;rw[Bool.and_eq_true,decide_eq_true_eq,decide_eq_true_eq];omega
theorem VB(k:Nat)(c:UInt8):(shU k c).toNat=97+(c.toNat-97+k)%26:=by
 unfold shU;have:(c.toNat-97+k)%26<26:=Nat.mod_lt _ (by omega);rw[UInt8.toNat_ofNat'];exact Nat.mod_eq_of_lt (by omega)
theorem abV(k:Nat)(c:UInt8):Bh (shU k c)=true:=by
 rw[VF,VB];have:(c.toNat-97+k)%26<26:=Nat.mod_lt _ (by omega);omega
theorem QU{c:UInt8}(h:Bh c=true):dS c=true:=by unfold dS;rw[show gP c.toNat=true from h];rfl
def rnL(k:Nat)(f:Bool)(x:List UInt8):List UInt8 :=
 match x with
 |[c]=>if Bh c&&!f then [shU k c] else [c]
 |x=>x
def rnW(k:Nat):Bool->List (List UInt8)->List (List UInt8)
 |_,[]=>[]
 |f,x::r=>rnL k f x::rnW k (decide (x=[46])) r
def lfL(l:List UInt8)(i:Nat):Bool:=decide (0<i)&&dS (l.getD (i-1) 0)
def rtL(l:List UInt8)(i:Nat):Bool:=decide (i+1<l.length)&&dS (l.getD (i+1) 0)
def wy(l:List UInt8)(i:Nat):Bool:=Bh (l.getD i 0)&&!lfL l i&&!rtL l i
theorem Gy:∀(n:Nat) (x r:List UInt8),x.length<=n->gp (x++32::r)=(gp x).bind (λL=>(gp r).map (L++·))
 |_,[],r,_=>by
  rw[nil_append,eZ 32 r (zq0 rfl),uo];show _=(gp r).map (λL=>[]++L);cases gp r <;> rfl
 |0,_::_,_,h=>by simp at h
 |n+1,d::x,r,h=>by
  simp only[length_cons]at h;by_cases hb:d=32\/d=10
  .rw[cons_append,eZ _ _ hb,eZ _ _ hb];exact Gy n x r (by omega)
  .have hw:=XS (c:=32) (by decide) (by decide) (by decide) d x r;by_cases h0:az (d::x)=0
   .rw[cons_append]at hw ⊢;rw[jU d x hb h0,jU d (x++32::r) hb (by rw[hw];exact h0)];rfl
   .rw[cons_append]at hw ⊢;have l6:=iq (d::x);rw[fF d x hb h0,fF d (x++32::r) hb (by rw[hw];exact h0),hw];have e1:(d::(x++32::r)).drop (az (d::x))=(d::x).drop (az (d::x))++32::r:=by
     rw[<-cons_append,drop_append_of_le_length l6]
    have e2:(d::(x++32::r)).take (az (d::x))=(d::x).take (az (d::x)):=by
     rw[<-cons_append,take_append_of_le_length l6]
    rw[e1,e2,Gy n _ r (by simp only[length_drop,length_cons];omega)];cases gp ((d::x).drop (az (d::x))) with
    |none=>rfl
    |some L=>cases gp r <;> rfl
theorem P5:∀(l:List UInt8),Wv (l.drop (aK l))
 |[]=>λc t e=>by simp at e
 |d::l=>by
  cases h:dS d with
  |false =>
   have e:aK (d::l)=0:=(by unfold aK;rw[takeWhile_cons,h];rfl);rw[e,drop_zero];exact vY h l
  |true =>
   have e:aK (d::l)=aK l+1:=(by unfold aK;rw[takeWhile_cons,h];simp);rw[e,drop_succ_cons];exact P5 l
theorem JF{d:UInt8}{x:List UInt8}{a:List UInt8}{y:UInt8}(e:(d::x).take (az (d::x))=a++[y])(hy:dS y=true):Wv ((d::x).drop (az (d::x))):=by
 by_cases h0:0<aK (d::x)
 .have hw:az (d::x)=aK (d::x):=by unfold az;rw[if_pos h0]
  rw[hw];exact P5 _
 .have hd:dS d=false:=by
   cases h:dS d with
   |false=>rfl
   |true=>exact absurd (by unfold aK;rw[takeWhile_cons,h];simp) h0
  exfalso;by_cases h2:(d::x).take 2=[45,62]\/(d::x).take 2=[33,61]
  .have hw:az (d::x)=2:=(by unfold az;rw[if_neg h0,if_pos h2]);rw[hw]at e;rcases h2 with h2|h2
   .rw[h2]at e;have:=(append_inj' (show [45]++[62]=a++[y] from e) rfl).2;injection this with this;rw[<-this]at hy;exact absurd hy (by decide)
   .rw[h2]at e;have:=(append_inj' (show [33]++[61]=a++[y] from e) rfl).2;injection this with this;rw[<-this]at hy;exact absurd hy (by decide)
  .have hw:az (d::x)=if sX d.toNat then 1 else 0:=by unfold az;rw[if_neg h0,if_neg h2]
   rw[hw]at e;split at e
   .have:=(append_inj' (show []++[d]=a++[y] from e) rfl).2;injection this with this;rw[<-this,hd]at hy;cases hy
   .simp at e
theorem wF{z:UInt8}(hz:dS z=true):∀(n:Nat) (x:List UInt8) (L:List (List UInt8)) (pl:List UInt8),x.length<=n->gp x=some L->(∀a y,pl=a++[y]->dS y=true->Wv x)->[z]∈L->∃a b,pl++x=a++z::b/\(∀a' y,a=a'++[y]->dS y=false)/\Wv b
 |_,[],L,pl,_,h,_,hm=>by
  rw[uo]at h;injection h with h;rw[<-h]at hm;simp at hm
 |0,_::_,_,_,h,_,_,_=>by simp at h
 |n+1,d::x,L,pl,hn,h,hp,hm=>by
  simp only[length_cons]at hn;by_cases hb:d=32\/d=10
  .rw[eZ _ _ hb]at h;obtain⟨a,b,h1,h2,h3⟩:=wF hz n x L (pl++[d]) (by omega) h (λa y e hy=>by
    have:=(append_inj' e rfl).2;injection this with this;rw[<-this]at hy;rcases hb with rfl|rfl <;> exact absurd hy (by decide)) hm
   exact⟨a,b,by rw[<-h1];simp,h2,h3⟩
  .by_cases h0:az (d::x)=0
   .rw[jU d x hb h0]at h;cases h
   .rw[fF d x hb h0]at h;obtain⟨L',hL',rfl⟩:=Option.map_eq_some_iff.1 h;rcases mem_cons.1 hm with hm|hm
    .have l6:=iq (d::x);have xB:az (d::x)=1:=by
      have:=congrArg List.length hm;rw[length_take,length_singleton]at this;omega
     rw[xB]at hm;have hdz:z=d:=(by injection hm);have hN:Wv x:=by
      have:=JF (d:=d) (x:=x) (a:=[]) (y:=d) (by rw[xB];rfl) (by rw[<-hdz];exact hz);rw[xB]at this;exact this
     refine⟨pl,x,by rw[hdz],λa' y e=>?_,hN⟩;cases hy:dS y with
     |false=>rfl
     |true =>
      have:=hp a' y e hy d x rfl;rw[<-hdz,hz]at this;cases this
    .obtain⟨a,b,h1,h2,h3⟩:=wF hz n _ L' (pl++(d::x).take (az (d::x))) (by simp only[length_drop,length_cons];omega) hL' (λa y e hy=>by
      rcases eq_nil_or_concat ((d::x).take (az (d::x))) with e0|⟨u,v,e0⟩
      .exfalso;have:=congrArg List.length e0;rw[length_take,length_nil]at this;have l6:=iq (d::x);omega
      .rw[concat_eq_append]at e0;rw[e0,<-append_assoc]at e;have:=(append_inj' e rfl).2;injection this with this;exact JF e0 (by rw[this];exact hy)) hm
     exact⟨a,b,by rw[<-h1,append_assoc,take_append_drop],h2,h3⟩
theorem UU{l:List UInt8}{z:UInt8}(hs:gp l≠none)(hz:Bh z=true)(h:∀i,i<l.length->wy l i=true->l.getD i 0≠z):bh z ∉ b9 l:=by
 intro hm;obtain⟨L,hL⟩:=Option.ne_none_iff_exists'.1 hs;rw[ou hL,show bh z=bA [z] from rfl,uQ]at hm;obtain⟨a,b,h1,h2,h3⟩:=wF (QU hz) l.length l L [] (zq4 _) hL (λa y e=>by simp at e) hm;rw[nil_append]at h1;have hg:l.getD a.length 0=z:=by rw[h1,getD_eq_getElem?_getD,getElem?_append_right (zq4 _)];simp
 refine h a.length (by rw[h1];simp) ?_ hg;unfold wy;rw[hg,hz];have Mc:lfL l a.length=false:=by
  unfold lfL;rcases eq_nil_or_concat a with e|⟨u,v,e⟩
  .rw[e];rfl
  .rw[concat_eq_append]at e;have hv:=h2 u v e;have:l.getD (a.length-1) 0=v:=by
    rw[h1,e,getD_eq_getElem?_getD,getElem?_append_left (by simp),getElem?_append_right (by simp)];simp
   rw[this,hv,Bool.and_false]
 have hrt:rtL l a.length=false:=by
  unfold rtL;cases b with
  |nil=>rw[decide_eq_false (by rw[h1];simp)];rfl
  |cons y b =>
   have hy:=h3 y b rfl;have:l.getD (a.length+1) 0=y:=by
    rw[h1,getD_eq_getElem?_getD,getElem?_append_right (by omega)];simp
   rw[this,hy,Bool.and_false]
 rw[Mc,hrt];rfl
def kA(A:List UInt8)(z:UInt8)(R:List UInt8):List UInt8:=A++([32,42,32]++([z]++([45,62,110,105,108,32]++123::R)))
theorem Bi{z:UInt8}(hz:Bh z=true):aF (bh z)=true:=hz
theorem S5{l A R:List UInt8}{f b:List ByteArray}{k:Nat}{z:UInt8}(e:l=A++123::R)(hnA:123 ∉ A)(hf:lG f)(hb:iV b k)(h0:lA l=0)(hl:b9 l=rq f b)(hz:Bh z=true)(hx:bh z ∉ b9 l)(h4:(bO l).vars.length<4):
  b9 (kA A z R)=rq (f++aQ::B1 z) b/\((kA A z R).length<=240->lA (kA A z R)=0):=by
 obtain⟨-,hs,-⟩:=jR h0;obtain⟨L,hL⟩:=Option.ne_none_iff_exists'.1 hs;have xD:=wE WD A.length A R (zq4 _);rw[<-e,hL]at xD;cases hsA:gp A with
 |none=>rw[hsA]at xD;cases xD
 |some LA =>
  rw[hsA]at xD;cases hsR:gp R with
  |none=>rw[hsR]at xD;cases xD
  |some LR =>
   rw[hsR]at xD;have hLe:L=LA++[123]::LR:=(by injection xD);have hLA:dR ∉ LA.map bA:=λhh=>by
    have:([123]:List UInt8)∈LA:=uQ.1 hh;exact hnA (mg _ A LA (zq4 _) hsA _ this 123 (by simp))
   have kT:dR ∉ cV::f:=λhh=>by
    rcases mem_cons.1 hh with hh|hh
    .exact absurd hh (am (by simp[cV,dR]))
    .exact WK hf _ hh rfl
   have hcut:LA.map bA++dR::LR.map bA=(cV::f)++dR::(b++[fE]):=by
    have h1:=ou hL;rw[hl,hLe,map_append,map_cons]at h1;exact h1.symm
   obtain⟨c1,c2⟩:=rP hLA kT hcut;have s1:JP ([42]++[32]) ([[42]]++[]):=(wu (c:=42) (by decide) (by decide) (by decide) (by decide) (by decide)).appN zi;have s2:JP ([z]++[45,62]) ([[z]]++[[45,62]]):=(Jo (x:=[z]) (by simp) (λc hc=>by rw[mem_singleton.1 hc];exact QU hz)).app (VA (c:=45) (d:=62) (by decide) (zq0 rfl) (by decide)) (λr=>vY (by decide) _);have s3:JP ([110,105,108]++[32]) ([[110,105,108]]++[]):=(Jo (x:=[110,105,108]) (by simp) (by decide)).app zi (λr=>vY (by decide) _);have s4:JP [123] [[123]]:=wu (c:=123) (by decide) (by decide) (by decide) (by decide) (by decide);have hT:gp (kA A z R)=some (LA++([42]::[z]::[45,62]::[110,105,108]::[123]::LR)):=by
    have e1:kA A z R=A++32::(([42]++[32])++(([z]++[45,62])++(([110,105,108]++[32])++([123]++R)))):=(by unfold kA;simp);rw[e1,Gy A.length A _ (zq4 _),hsA,s1,s2,s3,s4,hsR];rfl
   have hw:b9 (kA A z R)=rq (f++aQ::B1 z) b:=by
    rw[ou hT,map_append,c1];show(cV::f)++(aQ::bh z::B4::bZ::dR::LR.map bA)=_;rw[c2];unfold rq B1;simp
   refine⟨hw,λl6=>?_⟩;obtain⟨T,-,nQ⟩:=G9 hb;have nQ:Brn b T:=nQ;obtain⟨-,-,-,n3⟩:=oq hf nQ (ws:=b9 l) hl;obtain⟨-,-,-,m3⟩:=oq (zQ hf (I7 (Bi hz))) nQ (ws:=b9 (kA A z R)) hw;obtain⟨p1,-,-⟩:=Ha hf (Bi hz) hl hw hx;obtain⟨C,v1,v2,v3⟩:=yx (Bi hz) hl hw hx n3 m3 p1;obtain⟨-,-,-,-,k5⟩:=jR h0;have hS:bO (kA A z R)=fn (b9 (kA A z R)) aX:=rfl;have Fp:bO l=fn (b9 l) aX:=rfl;rw[Fp]at h4 k5;refine QC (by omega) (by rw[hT];simp) (by rw[hS];exact m3) ?_;rw[hS,v2,v3];rw[v1]at h4;simp only[length_append,length_cons]at h4 ⊢;omega
structure XY(w0 w:World)(Y X1 X2:Nat)(s:ByteArray)(ws1 ws2:List ByteArray)(G1 G2:List Nat):Prop where
 dk:Dsk w Y X1 s
 p1:xi w X1 ws1 G1
 p2:xi w X2 ws2 G2
 y1:Y ∉ G1
 y2:Y ∉ G2
 dj:∀k∈G1,k ∉ G2
 b1:∀k∈G1,w0.heap.size<=k
 b2:∀k∈G2,w0.heap.size<=k
 bw:Below w0.heap.size w0 w
section
variable {w0 w w':World} {Y X1 X2:Nat} {s:ByteArray} {ws1 ws2:List ByteArray} {G1 G2 G':List Nat}
theorem XY.ask1(h:XY w0 w Y X1 X2 s ws1 ws2 G1 G2)(a:Ask w X1 ws1 G1 G' w'):XY w0 w' Y X1 X2 s ws1 ws2 G' G2:=by
 have TZ:Y<w.heap.size:=Bk.lt h.dk;have hX:=h.p1.mem;refine⟨Bk.stp h.dk a.st (by simp only[mem_singleton];intro e;exact h.y1 (by rw[e];exact hX)),a.pg,h.p2.of_eq (λk hk=>a.st.block k (h.p2.lt k hk) (by simp only[mem_singleton];intro e;exact h.dj X1 hX (by rw[<-e];exact hk))),λhk=>?_,h.y2,λk hk mF=>?_,λk hk=>?_,h.b2,?_⟩
 .rcases a.gr Y hk with hk|hk
  .exact h.y1 hk
  .omega
 .rcases a.gr k hk with hk|hk
  .exact h.dj k hk mF
  .have:=h.p2.lt k mF;omega
 .rcases a.gr k hk with hk|hk
  .exact h.b1 k hk
  .have:=h.bw.size;omega
 .exact h.bw.trans (a.st.below h.bw.size (λk hk=>by rw[mem_singleton.1 hk];exact h.b1 X1 hX))
theorem XY.ask2(h:XY w0 w Y X1 X2 s ws1 ws2 G1 G2)(a:Ask w X2 ws2 G2 G' w'):XY w0 w' Y X1 X2 s ws1 ws2 G1 G':=by
 have TZ:Y<w.heap.size:=Bk.lt h.dk;have hX:=h.p2.mem;refine⟨Bk.stp h.dk a.st (by simp only[mem_singleton];intro e;exact h.y2 (by rw[e];exact hX)),h.p1.of_eq (λk hk=>a.st.block k (h.p1.lt k hk) (by simp only[mem_singleton];intro e;exact h.dj k hk (by rw[e];exact hX))),a.pg,h.y1,λhk=>?_,λk hk mF=>?_,h.b1,λk hk=>?_,?_⟩
 .rcases a.gr Y hk with hk|hk
  .exact h.y2 hk
  .omega
 .rcases a.gr k mF with mF|mF
  .exact h.dj k hk mF
  .have:=h.p1.lt k hk;omega
 .rcases a.gr k hk with hk|hk
  .exact h.b2 k hk
  .have:=h.bw.size;omega
 .exact h.bw.trans (a.st.below h.bw.size (λk hk=>by rw[mem_singleton.1 hk];exact h.b2 X2 hX))
end
