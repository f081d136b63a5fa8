import Derived.Test.YtciihepbeacppaaGreatM12
import Derived.Deep.RegionHeld3
set_option maxRecDepth 100000
set_option maxHeartbeats 0
namespace Go.Proofs.YtciihepbeacppaaGreat
open Tryz Go.RowKit List World Below
set_option linter.unusedVariables false
theorem Bm{w:World}{B e sz n k cap:Nat}{a:Option Addr}{xs:List Value}(h:w.ownsRow B e sz (.slice a n cap) n xs)(hk:k<=n):w.ownsRow B e sz (.slice a k cap) k (xs.take (k*sz)):=by
 have hl:=h.1;have hks:k*sz<=n*sz:=Nat.mul_le_mul_right _ hk;rcases h.2 with⟨h',hn⟩|⟨g',cap',cur,h',hb,hg,Jj,rg,C7,Mq⟩
 .simp only[Value.slice.injEq]at h';obtain⟨rfl,h2,rfl⟩:=h';have qj:n=0:=by omega
  have Zx:k=0:=by omega
  subst qj;subst Zx;refine⟨by simp,.inl ⟨rfl,?_⟩⟩;simp
 .simp only[Value.slice.injEq]at h';obtain⟨rfl,-,rfl⟩:=h';refine⟨by rw[length_take];omega,.inr ⟨g',cap,cur,rfl,hb,hg,by omega,rg,C7,?_⟩⟩;rw[<-Mq,take_take,Nat.min_eq_left (by omega)]
theorem py:∀(l:List Pr) (k:Nat),(af l).take (k*3)=af (l.take k)
 |[],k=>by simp[af]
 |p::l,0=>by simp[af]
 |p::l,k+1=>by
  have h1:=py l k;have hx:∀(y:Pr) (m:List Pr),af (y::m)=[Value.int .i64 y.k,.int .i64 y.l,.int .i64 y.r]++af m:=λy m=>rfl;rw[take_succ_cons,hx,hx,<-h1,take_append];simp only[length_cons,length_nil];rw[take_of_length_le (by simp;omega),show(k+1)*3-(0+1+1+1)=k*3 by omega]
theorem Bt{l:List Pr}{i:Nat}(hi:i<l.length)(p:Pr):(((af l).set (i*3) (.int .i64 (p.k:Int))).set (i*3+1) (.int .i64 (p.l:Int))).set (i*3+2) (.int .i64 (p.r:Int))=af (l.set i p):=by
 have g1:(l.set i ⟨p.k,(l.getD i aE).l,(l.getD i aE).r⟩).getD i aE=⟨p.k,(l.getD i aE).l,(l.getD i aE).r⟩:=by
  rw[getD_eq_getElem?_getD,getElem?_set_self hi];rfl
 have g2:((l.set i ⟨p.k,(l.getD i aE).l,(l.getD i aE).r⟩).set i ⟨p.k,p.l,(l.getD i aE).r⟩).getD i aE=⟨p.k,p.l,(l.getD i aE).r⟩:=by
  rw[getD_eq_getElem?_getD,getElem?_set_self (by simpa using hi)];rfl
 rw[kK hi,iy (by simpa using hi),g1,ee (by simpa using hi),g2,set_set,set_set]
def uC(L:List Pr)(x:Pr)(j:Nat):List Pr:=L.take j++x::L.drop j
theorem rF{L:List Pr}{x:Pr}{j:Nat}(hj:j<=L.length):(uC L x j).length=L.length+1:=by unfold uC;simp;omega
theorem PI{L:List Pr}{x:Pr}{j i:Nat}(hj:j<=L.length)(hi:i<j):(uC L x j).getD i aE=L.getD i aE:=by
 unfold uC;rw[getD_eq_getElem?_getD,getElem?_append_left (by simp;omega),getElem?_take,if_pos hi,<-getD_eq_getElem?_getD]
theorem xG{L:List Pr}{x y:Pr}{j:Nat}(hj:j<=L.length):(uC L x j).set j y=uC L y j:=by
 unfold uC;have e:(L.take j).length=j:=by simp;omega
 rw[set_append_right _ _ (by omega),e,Nat.sub_self,set_cons_zero]
theorem JP{L:List Pr}{j:Nat}(hj:j<L.length):uC L (L.getD j aE) (j+1)=uC L (L.getD j aE) j:=by
 unfold uC;rw[gx hj,take_add_one,getElem?_eq_getElem hj,drop_eq_getElem_cons hj,append_assoc];rfl
theorem Kk:∀(l:List Pr) {a:List Pr},a≠[]->l.foldl kw a≠[]
 |[],_,h=>h
 |p::r,a,h=>by
  rw[foldl_cons];refine Kk r ?_;unfold kw;split
  .simp
  .exact h
theorem Kl{l:List Pr}(h:l≠[]):l.foldl kw []≠[]:=by
 cases l with
 |nil=>exact absurd rfl h
 |cons p r =>
  rw[foldl_cons];refine Kk r ?_;unfold kw;simp
theorem EB:∀(l:List Pr) {a:List Pr},(l.foldl kw a).length<=a.length+l.length
 |[],a=>by simp
 |p::r,a=>by
  rw[foldl_cons];have h1:=EB r (a:=kw a p);have h2:(kw a p).length<=a.length+1:=by unfold kw;split <;> simp
  simp only[length_cons];omega
theorem Gb(p q:Pr):((p.k:Int)==(q.k:Int)&&((p.l:Int)==(q.l:Int)&&(p.r:Int)==(q.r:Int)))=Bu p q:=by
 unfold Bu;rw[bh,bh,bh,Bool.and_assoc]
theorem DJ{W:World}{B g cap n i:Nat}{L:List Pr}(hr:W.ownsRow B 182 3 (.slice (some ⟨g,0,none⟩) n cap) n (af L))(hn:n=L.length)(hi:i<n)(p:Pr):
  (((W.setCell ⟨g,i*3,none⟩ (.int .i64 (p.k:Int))).setCell ⟨g,i*3+1,none⟩ (.int .i64 (p.l:Int))).setCell ⟨g,i*3+2,none⟩ (.int .i64 (p.r:Int))).ownsRow B 182 3 (.slice (some ⟨g,0,none⟩) n cap) n (af (L.set i p)) /\
  ((∃u,W.cell? ⟨g,i*3,none⟩=some u)/\(∃u,W.cell? ⟨g,i*3+1,none⟩=some u)/\∃u,W.cell? ⟨g,i*3+2,none⟩=some u) /\
  W.frozen? ⟨g,i*3,none⟩=false/\W.frozen? ⟨g,i*3+1,none⟩=false/\W.frozen? ⟨g,i*3+2,none⟩=false:=by
 subst hn;have r3:=(((hr.stored (i*3) (.int .i64 (p.k:Int))).1.stored (i*3+1) (.int .i64 (p.l:Int))).1.stored (i*3+2) (.int .i64 (p.r:Int))).1;rw[Bt hi]at r3;obtain⟨x0,x1,x2⟩:=aA (dB hr (zq5 _)) hi;exact⟨r3,⟨⟨_,x0⟩,⟨_,x1⟩,⟨_,x2⟩⟩,hr.frozenAt _,hr.frozenAt _,hr.frozenAt _⟩
section
variable {w:World} {v:Value} {l:List Pr}
theorem ue(h:w.ownsRow 0 182 3 v l.length (af l))(hl:l.length<=100000):Calls prog 226 #[v] w λe w'=>∃v',e=.returned v'/\w'.ownsRow w.heap.size 182 3 v' (mY l).length (af (mY l))/\Below w.heap.size w w':=by
 obtain⟨i0,jN,fW,fy,fJ⟩:=info_parts infoPair;obtain⟨va,vc,Io,Mv,QX⟩:=aj h;subst Io;have H:=ab h;have ss:Hid ((w.alloc (.cells #[] 182)).ownsRow w.heap.size 182 3 (.slice (some ⟨w.heap.size,0,none⟩) 0 0) ((l.take 0).foldl eP []).length (af ((l.take 0).foldl eP []))/\Below w.heap.size w (w.alloc (.cells #[] 182))):=ab ⟨ownsRow_lit (base:=w.heap.size) (e:=182) (size:=3) w #[] 0 (zq4 _) (by simp[maxLen]) rfl,ah w _⟩;clear h;go_enter func226,ntmps226;go_wp2_with fail
 go_loopg [3,12] l.length (λgn rv i wx=>∃(k:Nat),k+gn=l.length/\i=.int .i64 k/\Hid (wx.ownsRow w.heap.size 182 3 rv ((l.take k).foldl eP []).length (af ((l.take k).foldl eP []))/\Below w.heap.size w wx))
 case atStart=>exact⟨0,by omega,rfl,ss⟩
 case round =>
  clear ss;obtain⟨k,f7,rfl,hI⟩:=hrel;obtain⟨G,hG⟩:∃G,G=gk:=⟨_,rfl⟩;obtain⟨ra,rc,Jl,-,-⟩:=aj (uh hI).1;subst Jl;have rh:=oP (l.take k) (a:=[]) List.Pairwise.nil;have db:=rh.2.2;rw[length_take]at db;simp only[length_nil,Nat.zero_add]at db;by_cases ar:k<l.length
  .have hd:decide ((k:Int)<(l.length:Int))=true:=(by simp;omega);have hF:=eQ (uh H) (uh hI).2;obtain⟨g,cap,c9,-,-⟩:=aD hF ar;simp only[Value.slice.injEq,true_and]at c9;obtain⟨rfl,rfl⟩:=c9;obtain⟨x0,x1,x2⟩:=aA hF ar;have oq:=iJ (g:=eP) (a:=[]) ar;obtain⟨p,hp⟩:∃p,p=l.getD k aE:=⟨_,rfl⟩;rw[<-hp]at x0 x1 x2 oq;obtain⟨L,hL⟩:∃L,L=(l.take k).foldl eP []:=⟨_,rfl⟩;rw[<-hL]at hI oq db ⊢;have VX:L.length=k:=(by omega);have jc:=ab ((uh hI).1.alloc (.cells #[.int .i64 (p.k:Int),.int .i64 (p.l:Int),.int .i64 (p.r:Int)] 182));have eU:=ab ((uh hI).2.alloc (uh hI).2.size (.cells #[.int .i64 (p.k:Int),.int .i64 (p.l:Int),.int .i64 (p.r:Int)] 182));have YS:=ab (Bk.new wr 182 [.int .i64 (p.k:Int),.int .i64 (p.l:Int),.int .i64 (p.r:Int)]);have ni:=(uh hI).1.lt;have S0:=ab ni;have IW:=ab oq;have i1:(0:Int)<=(k:Int):=(by omega);have i2:(k:Int)<(l.length:Int):=(by omega);have hLb:L.length<=100000:=(by omega);have OF:=ab VX;have lu:=(uh hI).2.size;clear hp hF oq hL db rh hI ni VX;go_wp2_with (at_builtin;refine aQ _ rfl (.tmp 16) (.tmp 18) 177 rfl w.heap.size 182 i0 _ 3 24 underlying177 jN fW fy fJ rfl (by decide) _ L.length (af L) rfl ((uh jc).alloc _) ⟨_,0,none⟩ 1 [.int .i64 (p.k:Int),.int .i64 (p.l:Int),.int .i64 (p.r:Int)] rfl rfl (aM _ _ (by simp) [.int .i64 (p.k:Int),.int .i64 (p.l:Int),.int .i64 (p.r:Int)] _) (px p) (by omega) (by omega) (by simp;omega) ?_)
   intro g4 cap4 w4 gI dM iL;have mp:Below w.heap.size w w4:=by
    have hb:=(uh eU).alloc (uh eU).size (.cells #[.int .i64 (p.k:Int),.int .i64 (p.l:Int),.int .i64 (p.r:Int)] 182);exact hb.grown dM hb.size (λk hk=>((uh jc).lt k hk).1)
   obtain⟨X,hX⟩:∃X,X=wr.heap.size:=⟨_,rfl⟩;have Wb:Bk w4 X 182 [.int .i64 (p.k:Int),.int .i64 (p.l:Int),.int .i64 (p.r:Int)]:=by
    rw[hX];refine((uh YS).alloc _).of_eq (dM.block _ (by simp;omega) (λe=>?_));have:=(uh S0 _ e.symm).2;omega
   have hgX:g4≠X:=by
    rw[hX];rintro rfl;rcases iL with e|e
    .have:=(uh S0 _ e.symm).2;omega
    .omega
   have AQ:w4.ownsRow w.heap.size 182 3 (.slice (some ⟨g4,0,none⟩) (L.length+1) cap4) (L.length+1) (af (uC L p L.length)):=by
    have e:uC L p L.length=L++[p]:=(by unfold uC;rw[take_length,drop_length]);rw[e,dZ];exact gI
   have ep:Hid (w4.ownsRow w.heap.size 182 3 (.slice (some ⟨g4,0,none⟩) (L.length+1) cap4) (L.length+1) (af (uC L p L.length))/\Bk w4 X 182 [.int .i64 (p.k:Int),.int .i64 (p.l:Int),.int .i64 (p.r:Int)]/\Below w.heap.size w w4):=ab ⟨AQ,Wb,mp⟩;have HGX:=ab hgX;have HX:=ab hX;rw[<-hX];clear gI dM iL mp Wb AQ hX x0 x1 x2 jc YS hgX;go_wp2_with fail
   go_loopg [6] L.length (λgn i wx=>∃(x:Pr),gn<=L.length/\i=.int .i64 gn/\zm p L gn=zm p L L.length/\Hid (wx.ownsRow w.heap.size 182 3 (.slice (some ⟨g4,0,none⟩) (L.length+1) cap4) (L.length+1) (af (uC L x gn))/\Bk wx X 182 [.int .i64 (p.k:Int),.int .i64 (p.l:Int),.int .i64 (p.r:Int)]/\Below w.heap.size w wx))
   case atStart=>exact⟨p,zq4 _,by go_num,rfl,ep⟩
   case round =>
    clear ep;obtain⟨x,hj,rfl,hwh,hJ⟩:=hrel;obtain⟨b0,b1,b2⟩:wr.cell? ⟨X,0,none⟩=some (.int .i64 (p.k:Int))/\wr.cell? ⟨X,1,none⟩=some (.int .i64 (p.l:Int))/\wr.cell? ⟨X,2,none⟩=some (.int .i64 (p.r:Int)):=⟨(uh hJ).2.1.cell 0 rfl,(uh hJ).2.1.cell 1 rfl,(uh hJ).2.1.cell 2 rfl⟩;cases gk with
    |zero =>
     have HWH:=ab hwh;have HAL:=ab (rF (L:=L) (x:=x) hj);have d0:decide ((0:Int)<0)=false:=(by decide);clear hwh;obtain⟨w5,Xd⟩:∃w5,w5=wr:=⟨_,rfl⟩;have j9:Hid (Below wr.heap.size wr w5):=ab (by rw[Xd];exact Below.refl _ _);have dL:=uh j9;have yh:=eQ (uh hJ).1 dL;have Jb:=(uh hJ).2.1.below dL;obtain⟨r6,⟨⟨u0,y0⟩,⟨u1,y1⟩,⟨u2,y2⟩⟩,f0,f1,f2⟩:=DJ yh (uh HAL).symm (i:=0) (by omega) p;rw[xG hj]at r6;have cq:w.heap.size<=g4:=((uh hJ).1.lt g4 rfl).1;have jx:=((((uh hJ).2.2.trans (dL.mono (uh hJ).2.2.size)).setCell (p:=⟨g4,(0)*3,none⟩) cq (.int .i64 (p.k:Int))).setCell (p:=⟨g4,(0)*3+1,none⟩) cq (.int .i64 (p.l:Int))).setCell (p:=⟨g4,(0)*3+2,none⟩) cq (.int .i64 (p.r:Int));have z0:=Jb.cell 0 rfl;have z1:=Jb.cell 1 rfl;have z2:=Jb.cell 2 rfl;have HN:Hid (((((w5.setCell ⟨g4,(0)*3,none⟩ (.int .i64 (p.k:Int))).setCell ⟨g4,(0)*3+1,none⟩ (.int .i64 (p.l:Int))).setCell ⟨g4,(0)*3+2,none⟩ (.int .i64 (p.r:Int)))).ownsRow w.heap.size 182 3 (.slice (some ⟨g4,0,none⟩) (L.length+1) cap4) ((l.take (k+1)).foldl eP []).length (af ((l.take (k+1)).foldl eP []))/\Below w.heap.size w ((((w5.setCell ⟨g4,(0)*3,none⟩ (.int .i64 (p.k:Int))).setCell ⟨g4,(0)*3+1,none⟩ (.int .i64 (p.l:Int))).setCell ⟨g4,(0)*3+2,none⟩ (.int .i64 (p.r:Int))))):=ab ⟨by
      have e:(l.take (k+1)).foldl eP []=uC L p (0):=(by rw[uh IW];unfold eP uC;rw[<-uh HWH];rfl);rw[e,rF hj];exact r6,jx⟩
     have i5:(0:Int)<(L.length:Int)+1:=(by omega);clear dL yh Jb r6 jx cq j9;subst Xd;go_wp2_with fail
     go_quiet (fail)
     go_wp2_with fail
     go_roundg (G-1)
     case rel=>exact⟨k+1,by omega,by go_num,ab ⟨(uh HN).1,⟨(uh HN).2.os,(uh HN).2.tape,(uh HN).2.output,(uh HN).2.size,(uh HN).2.block⟩⟩⟩
     case measure=>omega
    |succ m =>
     have hr:=(uh hJ).1;have nM:=rF (L:=L) (x:=x) hj;have Ij:wr.ownsRow w.heap.size 182 3 (.slice (some ⟨g4,0,none⟩) (uC L x (m+1)).length cap4) (uC L x (m+1)).length (af (uC L x (m+1))):=(by rw[nM];exact hr);obtain⟨x0,x1,x2⟩:=aA (dB Ij (zq5 _)) (i:=m) (by rw[nM];omega);rw[PI hj (by omega)]at x0 x1 x2;have hwm:zm p L (m+1)=if I5 p (L.getD m aE)=true then zm p L m else m+1:=rfl
     have hdn:=JP (L:=L) (j:=m) (by omega);have hpu:=xG (L:=L) (x:=x) (y:=L.getD m aE) hj;obtain⟨q,hq⟩:∃q,q=L.getD m aE:=⟨_,rfl⟩;rw[<-hq]at x0 x1 x2 hwm hdn hpu;have Cq:Hid (∀W:World,Calls prog 249 #[.agg #[.int .i64 (p.k:Int),.int .i64 (p.l:Int),.int .i64 (p.r:Int)],.agg #[.int .i64 (q.k:Int),.int .i64 (q.l:Int),.int .i64 (q.r:Int)]] W λe w'=>e=.returned (.bool (I5 p q))/\Below W.heap.size W w'):=ab (λW=>CE p q);have d0:decide ((0:Int)<(m:Int)+1)=true:=(by simp);have i3:(0:Int)<=(m:Int):=(by omega);have i4:(m:Int)<(L.length:Int)+1:=(by omega);have hq0:IntKind.i64.wrap (m:Int)=(m:Int):=(by rw[IntKind.wrap_i64];omega);have B5:=(uh hJ).2.1.lt;have mq:=((uh hJ).1.lt g4 rfl).2;have HWM:=ab hwm;have HDN:=ab hdn;have HPU:=ab hpu;have HAL:=ab nM;have HWH:=ab hwh;clear hr Ij nM hwm hdn hpu hq hwh;cases Wk:I5 p q with
     |true =>
      rw[Wk]at Cq HWM;clear Wk;go_wp2_with fail
      go_region_held3 (λW=>W.cell? ⟨X,0,none⟩=some (.int .i64 (p.k:Int))/\W.cell? ⟨X,1,none⟩=some (.int .i64 (p.l:Int))/\W.cell? ⟨X,2,none⟩=some (.int .i64 (p.r:Int))/\W.cell? ⟨g4,m*3,none⟩=some (.int .i64 (q.k:Int))/\W.cell? ⟨g4,m*3+1,none⟩=some (.int .i64 (q.l:Int))/\W.cell? ⟨g4,m*3+2,none⟩=some (.int .i64 (q.r:Int))) (first|(simp only[cell?_drew,b0,b1,b2,x0,x1,x2,and_self];done)|(simp only[q0,q1,q2,q3,q4,q5,and_self];done))
       (first
        |(go_at_call 249;refine(uh Cq _).mono ?_;rintro e w5 ⟨rfl,dL⟩;have j9:Hid (Below wr.heap.size wr w5):=ab ⟨dL.os,dL.tape,dL.output,dL.size,dL.block⟩;have q0:=((uh j9).cell B5).trans b0;have q1:=((uh j9).cell B5).trans b1;have q2:=((uh j9).cell B5).trans b2;have q3:=((uh j9).cell mq).trans x0;have q4:=((uh j9).cell mq).trans x1;have q5:=((uh j9).cell mq).trans x2;clear dL))
      have dL:=uh j9;have yh:=eQ (uh hJ).1 dL;have Jb:=(uh hJ).2.1.below dL;obtain⟨r6,⟨⟨u0,y0⟩,⟨u1,y1⟩,⟨u2,y2⟩⟩,f0,f1,f2⟩:=DJ yh (uh HAL).symm (i:=m+1) (by omega) q;rw[uh HPU,uh HDN]at r6;have cq:w.heap.size<=g4:=((uh hJ).1.lt g4 rfl).1;have jx:=((((uh hJ).2.2.trans (dL.mono (uh hJ).2.2.size)).setCell (p:=⟨g4,(m+1)*3,none⟩) cq (.int .i64 (q.k:Int))).setCell (p:=⟨g4,(m+1)*3+1,none⟩) cq (.int .i64 (q.l:Int))).setCell (p:=⟨g4,(m+1)*3+2,none⟩) cq (.int .i64 (q.r:Int));have hX6:=((Jb.setO (p:=⟨g4,(m+1)*3,none⟩) (uh HGX) (.int .i64 (q.k:Int))).setO (p:=⟨g4,(m+1)*3+1,none⟩) (uh HGX) (.int .i64 (q.l:Int))).setO (p:=⟨g4,(m+1)*3+2,none⟩) (uh HGX) (.int .i64 (q.r:Int));have HN:=ab (zq2 r6 (zq2 hX6 jx));have i5:(m:Int)+1<(L.length:Int)+1:=(by omega);have i6:(0:Int)<=(m:Int)+1:=(by omega);have HW2:Hid (zm p L m=zm p L L.length):=ab (by rw[<-uh HWH,uh HWM];rfl);clear dL yh Jb r6 jx hX6 cq;go_wp2_with fail
      go_roundg m
      case rel=>exact⟨q,by omega,by go_num,uh HW2,HN⟩
      case measure=>omega
     |false =>
      rw[Wk]at Cq HWM;clear Wk;go_wp2_with fail
      go_region_held3 (λW=>W.cell? ⟨X,0,none⟩=some (.int .i64 (p.k:Int))/\W.cell? ⟨X,1,none⟩=some (.int .i64 (p.l:Int))/\W.cell? ⟨X,2,none⟩=some (.int .i64 (p.r:Int))/\W.cell? ⟨g4,m*3,none⟩=some (.int .i64 (q.k:Int))/\W.cell? ⟨g4,m*3+1,none⟩=some (.int .i64 (q.l:Int))/\W.cell? ⟨g4,m*3+2,none⟩=some (.int .i64 (q.r:Int))) (first|(simp only[cell?_drew,b0,b1,b2,x0,x1,x2,and_self];done)|(simp only[q0,q1,q2,q3,q4,q5,and_self];done))
       (first
        |(go_at_call 249;refine(uh Cq _).mono ?_;rintro e w5 ⟨rfl,dL⟩;have j9:Hid (Below wr.heap.size wr w5):=ab ⟨dL.os,dL.tape,dL.output,dL.size,dL.block⟩;have q0:=((uh j9).cell B5).trans b0;have q1:=((uh j9).cell B5).trans b1;have q2:=((uh j9).cell B5).trans b2;have q3:=((uh j9).cell mq).trans x0;have q4:=((uh j9).cell mq).trans x1;have q5:=((uh j9).cell mq).trans x2;clear dL))
      have dL:=uh j9;have yh:=eQ (uh hJ).1 dL;have Jb:=(uh hJ).2.1.below dL;obtain⟨r6,⟨⟨u0,y0⟩,⟨u1,y1⟩,⟨u2,y2⟩⟩,f0,f1,f2⟩:=DJ yh (uh HAL).symm (i:=m+1) (by omega) p;rw[xG hj]at r6;have cq:w.heap.size<=g4:=((uh hJ).1.lt g4 rfl).1;have jx:=((((uh hJ).2.2.trans (dL.mono (uh hJ).2.2.size)).setCell (p:=⟨g4,(m+1)*3,none⟩) cq (.int .i64 (p.k:Int))).setCell (p:=⟨g4,(m+1)*3+1,none⟩) cq (.int .i64 (p.l:Int))).setCell (p:=⟨g4,(m+1)*3+2,none⟩) cq (.int .i64 (p.r:Int));have z0:=Jb.cell 0 rfl;have z1:=Jb.cell 1 rfl;have z2:=Jb.cell 2 rfl;have HN:Hid (((((w5.setCell ⟨g4,(m+1)*3,none⟩ (.int .i64 (p.k:Int))).setCell ⟨g4,(m+1)*3+1,none⟩ (.int .i64 (p.l:Int))).setCell ⟨g4,(m+1)*3+2,none⟩ (.int .i64 (p.r:Int)))).ownsRow w.heap.size 182 3 (.slice (some ⟨g4,0,none⟩) (L.length+1) cap4) ((l.take (k+1)).foldl eP []).length (af ((l.take (k+1)).foldl eP []))/\Below w.heap.size w ((((w5.setCell ⟨g4,(m+1)*3,none⟩ (.int .i64 (p.k:Int))).setCell ⟨g4,(m+1)*3+1,none⟩ (.int .i64 (p.l:Int))).setCell ⟨g4,(m+1)*3+2,none⟩ (.int .i64 (p.r:Int))))):=ab ⟨by
       have e:(l.take (k+1)).foldl eP []=uC L p (m+1):=(by rw[uh IW];unfold eP uC;rw[<-uh HWH,uh HWM];rfl);rw[e,rF hj];exact r6,jx⟩
      have i5:(m:Int)+1<(L.length:Int)+1:=(by omega);have i6:(0:Int)<=(m:Int)+1:=(by omega);clear dL yh Jb r6 jx cq;go_wp2_with fail
      go_roundg (G-1)
      case rel=>exact⟨k+1,by omega,by go_num,HN⟩
      case measure=>omega
  .have hd:decide ((k:Int)<(l.length:Int))=false:=(by simp;omega);have jz:k=l.length:=(by omega);have V5:(l.take k).foldl eP []=l.foldl eP []:=(by rw[jz,take_length]);rw[V5]at hI db ⊢;have hSR:mY l=(l.foldl eP []).foldl kw []:=rfl;obtain⟨S,hS⟩:∃S,S=l.foldl eP []:=⟨_,rfl⟩;rw[<-hS]at hI db hSR ⊢;have OS:S.length<=100000:=(by omega);have HSR:=ab hSR;clear hS V5 hSR jz rh db;go_wp2_with fail
   go_loopw [7,8] (λkv iv wx=>∃(i:Nat) (cur:List Pr),i<=S.length/\iv=.int .i64 i/\kv=.int .i64 (((S.take i).foldl kw []).length:Nat)/\Hid (wx.ownsRow w.heap.size 182 3 (.slice ra S.length rc) S.length (af cur)/\cur.length=S.length/\cur.take ((S.take i).foldl kw []).length=(S.take i).foldl kw []/\cur.drop i=S.drop i/\Below w.heap.size w wx)) (λ_ iv _=>S.length-(intOf iv).toNat)
   case atStart=>exact⟨0,S,zq5 _,rfl,rfl,ab ⟨(uh hI).1,rfl,by simp,rfl,(uh hI).2⟩⟩
   case round =>
    clear hI;obtain⟨i,cur,hi,rfl,rfl,hJ⟩:=hrel;have vj:=EB (S.take i) (a:=[]);rw[length_take]at vj;simp only[length_nil,Nat.zero_add]at vj;by_cases ar:i<S.length
    .have jk:decide ((i:Int)<(S.length:Int))=true:=(by simp;omega);obtain⟨g,cap,c9,-,-⟩:=bT (uh hJ).1 (by omega);simp only[Value.slice.injEq,true_and]at c9;obtain⟨rfl,rfl,-⟩:=c9;have fY:=(uh hJ).2.1;have Ij:wr.ownsRow 0 182 3 (.slice (some ⟨g,0,none⟩) cur.length rc) cur.length (af cur):=(by rw[fY];exact dB (uh hJ).1 (zq5 _));obtain⟨x0,x1,x2⟩:=aA Ij (i:=i) (by omega);have Zo:cur.getD i aE=S.getD i aE:=by
      have h1:=congrArg (λm=>m.getD 0 aE) (uh hJ).2.2.2.1;simpa[getD_eq_getElem?_getD,getElem?_drop] using h1
     have hds:=iJ (g:=kw) (a:=[]) ar;obtain⟨K,hK⟩:∃K,K=(S.take i).foldl kw []:=⟨_,rfl⟩;obtain⟨p,hp⟩:∃p,p=S.getD i aE:=⟨_,rfl⟩;rw[Zo,<-hp]at x0 x1 x2;rw[<-hK]at hJ vj hds ⊢;rw[<-hp]at hds;have hKi:K.length<=i:=(by omega);obtain⟨r6,⟨⟨u0,y0⟩,⟨u1,y1⟩,⟨u2,y2⟩⟩,f0,f1,f2⟩:=DJ (uh hJ).1 fY.symm (i:=K.length) (by omega) p;have cq:w.heap.size<=g:=((uh hJ).1.lt g rfl).1;have jx:=(((uh hJ).2.2.2.2.setCell (p:=⟨g,K.length*3,none⟩) cq (.int .i64 (p.k:Int))).setCell (p:=⟨g,K.length*3+1,none⟩) cq (.int .i64 (p.l:Int))).setCell (p:=⟨g,K.length*3+2,none⟩) cq (.int .i64 (p.r:Int));have qn:∀K':List Pr,K'=K++[p]->(cur.set K.length p).length=S.length/\(cur.set K.length p).take K'.length=K'/\(cur.set K.length p).drop (i+1)=S.drop (i+1):=by
      rintro K' rfl;refine⟨by simpa using fY,?_,?_⟩
      .have h1:=(uh hJ).2.2.1;rw[length_append,length_singleton,take_add_one,getElem?_set_self (by omega),take_set_of_le (zq4 _),h1];rfl
      .rw[drop_set_of_lt (by omega)];have h1:=congrArg (λm=>m.drop 1) (uh hJ).2.2.2.1;simpa[drop_drop,Nat.add_comm] using h1
     have Py:=ab r6;have uY:=ab jx;have HPT:=ab qn;have fZ:kw K p=K->cur.take (kw K p).length=kw K p/\cur.drop (i+1)=S.drop (i+1):=λe=>by
      rw[e];refine⟨(uh hJ).2.2.1,?_⟩;have h1:=congrArg (λm=>m.drop 1) (uh hJ).2.2.2.1;simpa[drop_drop,Nat.add_comm] using h1
     have HKP:=ab fZ;have YT:=ab hds;have i1:(0:Int)<=(i:Int):=(by omega);have i2:(i:Int)<(S.length:Int):=(by omega);have i3:(K.length:Int)<(S.length:Int):=(by omega);by_cases jN:i=0
     .have hKe:K=[]:=(by rw[hK,jN];rfl);have BN:Hid (kw K p=K++[p]):=ab (by unfold kw;rw[if_pos (zq0 hKe)]);have d0:((i:Int)==0)=true:=(by simp[jN]);obtain⟨kl,jz⟩:∃kl,kl=K.length:=⟨_,rfl⟩;rw[<-jz]at Py uY HPT y0 y1 y2 f0 f1 f2 i3 vj ⊢;have HKL:=ab jz;clear hp hK hds r6 jx qn fZ Ij Zo hKi cq fY hKe jN jz;go_wp2_with fail
      go_quiet (fail)
      go_wp2_with fail
      go_roundw
      case rel=>exact⟨i+1,_,by omega,by go_num,by rw[uh YT,uh BN,length_append,length_singleton,<-uh HKL];go_num,ab (by
       rw[uh YT,uh BN];obtain⟨h1,h2,h3⟩:=uh HPT _ rfl;exact⟨uh Py,h1,h2,h3,⟨(uh uY).os,(uh uY).tape,(uh uY).output,(uh uY).size,(uh uY).block⟩⟩)⟩
      case measure=>simp[intOf];omega
     .have hKn:K≠[]:=by
       rw[hK];refine Kl (λe=>?_);have:=congrArg List.length e;rw[length_take,length_nil]at this;omega
      obtain⟨n,hn⟩:∃n,K.length=n+1:=⟨K.length-1,by have:=length_pos_iff.2 hKn;omega⟩;have je:cur.getD n aE=K.getD n aE:=by
       have h1:=congrArg (λm=>m.getD n aE) (uh hJ).2.2.1;simp only[getD_eq_getElem?_getD,getElem?_take]at h1 ⊢;rw[if_pos (by omega)]at h1;exact h1
      obtain⟨z0,z1,z2⟩:=aA Ij (i:=n) (by omega);obtain⟨q,hq⟩:∃q,q=K.getD n aE:=⟨_,rfl⟩;rw[je,<-hq]at z0 z1 z2;have TG:kw K p=if Bu p q=false then K++[p] else K:=by
       unfold kw;rw[hn,Nat.add_sub_cancel,<-hq];by_cases e:Bu p q=false
       .rw[if_pos (zq1 e),if_pos e]
       .rw[if_neg (by rw[not_or];exact⟨hKn,e⟩),if_neg e]
      have BN:=ab TG;have d0:((i:Int)==0)=false:=(by simp;omega);have hq0:IntKind.i64.wrap (n:Int)=(n:Int):=(by rw[IntKind.wrap_i64];omega);have i4:(n:Int)<(S.length:Int):=(by omega);have i5:(0:Int)<=(n:Int):=(by omega);have HKL:=ab hn;rw[hn]at Py uY HPT y0 y1 y2 f0 f1 f2 i3 vj ⊢;rw[show((n+1:Nat):Int)=(n:Int)+1 by omega]at i3;clear hp hK hds r6 jx qn fZ Ij Zo hKi cq fY jN hKn je hq TG hn;have hgd:=KY;have yg:∀W:World,(binOp .neq 182 (.agg #[.int .i64 (p.k:Int),.int .i64 (p.l:Int),.int .i64 (p.r:Int)]) (.agg #[.int .i64 (q.k:Int),.int .i64 (q.l:Int),.int .i64 (q.r:Int)])).run prog W=.ok (.bool (!Bu p q)) W:=λW=>by rw[adw,Gb]
      cases QU:Bu p q
      .rw[QU]at BN yg;rw[show(!false)=true from rfl]at yg;have Ux:Hid (kw K p=K++[p]):=ab (uh BN);clear BN QU;go_wp2_with fail
       go_quiet (fail)
       go_wp2_with fail
       go_roundw
       case rel=>exact⟨i+1,_,by omega,by go_num,by rw[uh YT,uh Ux,length_append,length_singleton,uh HKL];go_num,ab (by
        rw[uh YT,uh Ux];obtain⟨h1,h2,h3⟩:=uh HPT _ rfl;exact⟨uh Py,h1,h2,h3,⟨(uh uY).os,(uh uY).tape,(uh uY).output,(uh uY).size,(uh uY).block⟩⟩)⟩
       case measure=>simp[intOf];omega
      .rw[QU]at BN yg;rw[show(!true)=false from rfl]at yg;have Ux:Hid (kw K p=K):=ab (uh BN);clear BN QU;go_wp2_with fail
       go_quiet (fail)
       go_wp2_with fail
       go_roundw
       case rel=>exact⟨i+1,cur,by omega,by go_num,by rw[uh YT,uh Ux,uh HKL],ab (by
        obtain⟨h2,h3⟩:=uh HKP (uh Ux);rw[uh YT];exact⟨(uh hJ).1,(uh hJ).2.1,h2,h3,⟨(uh hJ).2.2.2.2.os,(uh hJ).2.2.2.2.tape,(uh hJ).2.2.2.2.output,(uh hJ).2.2.2.2.size,(uh hJ).2.2.2.2.block⟩⟩)⟩
       case measure=>simp[intOf];omega
    .have jk:decide ((i:Int)<(S.length:Int))=false:=(by simp;omega);have LX:(S.take i).foldl kw []=mY l:=(by rw[take_of_length_le (by omega)];exact(uh HSR).symm);rw[LX]at hJ vj ⊢;have hKS:(mY l).length<=S.length:=(by omega);have HRT:Hid (wr.ownsRow w.heap.size 182 3 (.slice ra (mY l).length rc) (mY l).length (af (mY l))):=ab (by
      have h1:=Bm (uh hJ).1 hKS;rw[py,(uh hJ).2.2.1]at h1;exact h1)
     have HBT:=ab (uh hJ).2.2.2.2;obtain⟨n,hn⟩:∃n,n=(mY l).length:=⟨_,rfl⟩;rw[<-hn]at HRT hKS ⊢;have hrc:S.length<=rc:=by
      obtain⟨a1,c1,h1,h2,h3⟩:=aj (uh hJ).1;simp only[Value.slice.injEq,true_and]at h1;omega
     have q1:(0:Int)<=(n:Int):=(by omega);have q2:(n:Int)<=(rc:Int):=(by omega);have vL:=ab hn;clear LX hJ vj hn HSR;go_wp2_with fail
     go_ret;exact⟨_,rfl,by rw[<-uh vL];exact uh HRT,uh HBT⟩
end
theorem Iy{g:Pr->Pr}{l:List Pr}{k:Nat}(hk:k<l.length)(h:g (l.getD k aE)=l.getD k aE):bF g l (k+1)=bF g l k:=by
 rw[jT hk,h];have h1:=jS (g:=g) hk;rw[<-h1];exact xg (by rw[iQ];exact hk)
section
variable {w:World} {A:Nat} {f:CF} {av ov:Value}
theorem IB(h:Fm w A f av ov)(ha:f.ap.length<=100000)(ho:f.ow.length<=100000):Calls prog 199 #[.pointer (some ⟨A,0,none⟩)] w λe w'=>e=.returned (.tuple #[])/\∃av' ov',Fm w' A (orF f) av' ov'/\aq (aG A av ov) w (aG A av' ov') w':=by
 have c6:=h.is.c6;have HSO:=ab (ue h.is.ow ho);have H:=ab h;obtain⟨oa,oc,fx,-,-⟩:=aj h.is.ow;subst fx;obtain⟨aa,ac,jK,-,-⟩:=aj h.is.ap;subst jK;clear h;go_enter func199,ntmps199;go_wp2_with fail
 refine(uh HSO).mono ?_;rintro e w1 ⟨v1,rfl,rQ,bB⟩;obtain⟨a1,k1,rfl⟩:=bu rQ;have dc:aq (Value.slice oa f.ow.length oc).ownBlock.toList w (Value.slice a1 (mY f.ow).length k1).ownBlock.toList w1:=(aq.ofBw (F:=(Value.slice oa f.ow.length oc).ownBlock.toList) bB).foots (λj hj=>zq1 (rQ.lt j (by simpa using hj)).1);obtain⟨jJ,mU⟩:=(uh H).newOv (ow':=mY f.ow) dc (v':=.slice a1 (mY f.ow).length k1) (λj hj=>by simpa using hj) (dB rQ (zq5 _));have Hi:=(uh H).below bB;have d6:=Hi.is.c6;have f6:=ownsRow.frozenAt Hi.is.ob 6;obtain⟨w2,rR⟩:∃w2,w2=w1.setCell ⟨A,6,none⟩ (.slice a1 (mY f.ow).length k1):=⟨_,rfl⟩;rw[<-rR]at jJ mU;have cd:Hid (Fm w2 A { f with ow:=mY f.ow,ap:=bF kj f.ap 0 } (.slice aa f.ap.length ac) (.slice a1 (mY f.ow).length k1)/\aq (aG A (.slice aa f.ap.length ac) (.slice oa f.ow.length oc)) w (aG A (.slice aa f.ap.length ac) (.slice a1 (mY f.ow).length k1)) w2):=ab ⟨by simpa[bF] using jJ,mU⟩;clear rQ bB dc jJ mU Hi HSO c6;obtain⟨n1,jf⟩:∃n1,n1=(mY f.ow).length:=⟨_,rfl⟩;rw[<-jf]at rR cd ⊢;have IX:=ab jf;clear jf;go_upto_region 1 with fail;rw[<-rR];clear rR d6 f6;go_wp2_with fail
 go_loopw [2] (λi wx=>∃(k:Nat),k<=f.ap.length/\i=.int .i64 k/\Hid (Fm wx A { f with ow:=mY f.ow,ap:=bF kj f.ap k } (.slice aa f.ap.length ac) (.slice a1 n1 k1)/\aq (aG A (.slice aa f.ap.length ac) (.slice oa f.ow.length oc)) w (aG A (.slice aa f.ap.length ac) (.slice a1 n1 k1)) wx)) (λi _=>f.ap.length-(intOf i).toNat)
 case atStart=>exact⟨0,zq5 _,rfl,cd⟩
 case round =>
  clear cd;obtain⟨k,hk,rfl,hI⟩:=hrel;have et:=iQ kj f.ap k;have c5:=(uh hI).1.is.c5;by_cases ar:k<f.ap.length
  .have hd:decide ((k:Int)<(f.ap.length:Int))=true:=(by simp;omega);have bp:wr.ownsRow 0 182 3 (.slice aa f.ap.length ac) f.ap.length (af (bF kj f.ap k)):=by
    have:=(uh hI).1.is.ap;rwa [show({ f with ow:=mY f.ow,ap:=bF kj f.ap k }:CF).ap.length=f.ap.length from et]at this
   obtain⟨g,cap,c9,-,-,-⟩:=bT bp (by omega);simp only[Value.slice.injEq,true_and]at c9;obtain⟨rfl,rfl⟩:=c9;have tt:wr.ownsRow 0 182 3 (.slice (some ⟨g,0,none⟩) (bF kj f.ap k).length ac) (bF kj f.ap k).length (af (bF kj f.ap k)):=(by rw[et];exact bp);obtain⟨x0,x1,x2⟩:=aA tt (i:=k) (by omega);have WC:=jS (g:=kj) ar;rw[WC]at x0 x1 x2;have hms:=jT (g:=kj) ar;have ZG:=Iy (g:=kj) ar;obtain⟨p,hp⟩:∃p,p=f.ap.getD k aE:=⟨_,rfl⟩;rw[<-hp]at x0 x1 x2 hms ZG WC;have hgA:g≠A:=λe=>(uh hI).1.nds.1 (by rw[e];rfl);obtain⟨W1,dE⟩:∃W1,W1=wr.alloc (.cells #[Value.int .i64 p.k,.int .i64 p.l,.int .i64 p.r] 182):=⟨_,rfl⟩;have bV:Below wr.heap.size wr W1:=(by rw[dE];exact ah wr _);have hX:Bk W1 wr.heap.size 182 [Value.int .i64 p.k,.int .i64 p.l,.int .i64 p.r]:=(by rw[dE];exact Bk.new wr _ _);have jJ:=(uh hI).1.below bV;have bN:=(uh hI).2.trans (aq.ofBw bV);have rQ:=eQ bp bV;obtain⟨X,fV⟩:∃X,X=wr.heap.size:=⟨_,rfl⟩;have hgX:g≠X:=(by have:=(bp.lt g rfl).2;omega);rw[<-fV]at hX;have b1:=hX.cell 1 rfl;have b2:=hX.cell 2 rfl;have e5:=jJ.is.c5;have i1:(0:Int)<=(k:Int):=(by omega);have i2:(k:Int)<(f.ap.length:Int):=(by omega);by_cases hsw:p.r<p.l
   .have d1:decide ((p.r:Int)<(p.l:Int))=true:=(by simp;omega);have s1:=(rQ.stored (k*3+1) (.int .i64 (p.r:Int))).1;rw[iy (by omega),WC]at s1;have s2:=(s1.stored (k*3+2) (.int .i64 (p.l:Int))).1;rw[ee (by simp;omega)]at s2;have ab3:((bF kj f.ap k).set k ⟨p.k,p.r,p.r⟩).set k ⟨(((bF kj f.ap k).set k ⟨p.k,p.r,p.r⟩).getD k aE).k,(((bF kj f.ap k).set k ⟨p.k,p.r,p.r⟩).getD k aE).l,p.l⟩=bF kj f.ap (k+1):=by
     rw[hms,set_set];have:((bF kj f.ap k).set k ⟨p.k,p.r,p.r⟩).getD k aE=⟨p.k,p.r,p.r⟩:=by
      rw[getD_eq_getElem?_getD,getElem?_set_self (by omega)];rfl
     rw[this];unfold kj;rw[if_pos hsw]
    rw[ab3]at s2;have dF:aq (Value.slice (some ⟨g,0,none⟩) f.ap.length ac).ownBlock.toList W1 (Value.slice (some ⟨g,0,none⟩) f.ap.length ac).ownBlock.toList ((W1.setCell ⟨g,k*3+1,none⟩ (.int .i64 (p.r:Int))).setCell ⟨g,k*3+2,none⟩ (.int .i64 (p.l:Int))):=((aq.refl _ _).setCell (p:=⟨g,k*3+1,none⟩) (zq0 (by simp[Value.ownBlock])) _).setCell (p:=⟨g,k*3+2,none⟩) (zq0 (by simp[Value.ownBlock])) _;obtain⟨oj,vz⟩:=jJ.newRowA (ap':=bF kj f.ap (k+1)) (by rw[iQ,show({ f with ow:=mY f.ow,ap:=bF kj f.ap k }:CF).ap.length=f.ap.length from et]) (by rw[show({ f with ow:=mY f.ow,ap:=bF kj f.ap k }:CF).ap.length=f.ap.length from et];exact s2) dF;obtain⟨q0,q1,q2⟩:=aA (dB (et ▸ rQ:W1.ownsRow 0 182 3 (.slice (some ⟨g,0,none⟩) (bF kj f.ap k).length ac) (bF kj f.ap k).length (af (bF kj f.ap k))) (zq5 _)) (i:=k) (by omega);have f1:=rQ.frozenAt (k*3+1);have f2:=s1.frozenAt (k*3+2);have y2:(W1.setCell ⟨g,k*3+1,none⟩ (.int .i64 (p.r:Int))).cell? ⟨g,k*3+2,none⟩=some (.int .i64 (p.r:Int)):=by
     rw[cell?_setCell_other _ _ _ _ (by simp),q2,WC]
    have y5:(W1.setCell ⟨g,k*3+1,none⟩ (.int .i64 (p.r:Int))).cell? ⟨A,5,none⟩=some (.slice (some ⟨g,0,none⟩) f.ap.length ac):=by
     rw[cell?_setCell_other _ _ _ _ (by simp only[ne_eq,Addr.mk.injEq,not_and];intro e;exact absurd e hgA)];exact e5
    have yb:(W1.setCell ⟨g,k*3+1,none⟩ (.int .i64 (p.r:Int))).cell? ⟨X,1,none⟩=some (.int .i64 (p.l:Int)):=by
     rw[cell?_setCell_other _ _ _ _ (by simp only[ne_eq,Addr.mk.injEq,not_and];intro e;exact absurd e hgX)];exact b1
    have HN:Hid (Fm ((W1.setCell ⟨g,k*3+1,none⟩ (.int .i64 (p.r:Int))).setCell ⟨g,k*3+2,none⟩ (.int .i64 (p.l:Int))) A { f with ow:=mY f.ow,ap:=bF kj f.ap (k+1) } (.slice (some ⟨g,0,none⟩) f.ap.length ac) (.slice a1 n1 k1)/\aq (aG A (.slice (some ⟨g,0,none⟩) f.ap.length ac) (.slice oa f.ow.length oc)) w (aG A (.slice (some ⟨g,0,none⟩) f.ap.length ac) (.slice a1 n1 k1)) ((W1.setCell ⟨g,k*3+1,none⟩ (.int .i64 (p.r:Int))).setCell ⟨g,k*3+2,none⟩ (.int .i64 (p.l:Int)))):=ab ⟨oj,bN.trans vz⟩;rw[WC]at q0 q1 q2;clear s1 s2 ab3 dF oj vz bp tt WC hms ZG hp bV hX jJ bN rQ et hI hgA hgX;go_upto_region 5 with fail;rw[<-dE,<-fV];clear dE fV;go_wp2_with fail
    go_region
    go_wp2_with fail
    go_region
    go_wp2_with fail
    go_roundw
    case rel=>exact⟨k+1,by omega,by go_num,ab ⟨(uh HN).1.of_eq (λ_ _=>rfl),(uh HN).2.drew.drew⟩⟩
    case measure=>simp[intOf];omega
   .have d1:decide ((p.r:Int)<(p.l:Int))=false:=(by simp;omega);have HN:Hid (Fm W1 A { f with ow:=mY f.ow,ap:=bF kj f.ap (k+1) } (.slice (some ⟨g,0,none⟩) f.ap.length ac) (.slice a1 n1 k1)/\aq (aG A (.slice (some ⟨g,0,none⟩) f.ap.length ac) (.slice oa f.ow.length oc)) w (aG A (.slice (some ⟨g,0,none⟩) f.ap.length ac) (.slice a1 n1 k1)) W1):=ab ⟨by rw[ZG (by unfold kj;rw[if_neg hsw])];exact jJ,bN⟩;clear bp tt WC hms ZG hp bV hX jJ bN rQ et hI hgA hgX;go_upto_region 5 with fail;rw[<-dE,<-fV];clear dE fV;go_wp2_with fail
    go_roundw
    case rel=>exact⟨k+1,by omega,by go_num,HN⟩
    case measure=>simp[intOf];omega
  .have hd:decide ((k:Int)<(f.ap.length:Int))=false:=(by simp;omega);have jl:bF kj f.ap k=f.ap.map kj:=tG (by omega);rw[jl]at hI;have bp:wr.ownsRow 0 182 3 (.slice aa f.ap.length ac) (f.ap.map kj).length (af (f.ap.map kj)):=(uh hI).1.is.ap;have Ee:=ab (ue bp (by simpa using ha));clear jl bp et;go_wp2_with fail
   refine(uh Ee).mono ?_;rintro e w5 ⟨v5,rfl,yh,dL⟩;obtain⟨a5,k5,rfl⟩:=bu yh;have oO:aq (Value.slice aa f.ap.length ac).ownBlock.toList wr (Value.slice a5 (mY (f.ap.map kj)).length k5).ownBlock.toList w5:=(aq.ofBw (F:=(Value.slice aa f.ap.length ac).ownBlock.toList) dL).foots (λj hj=>zq1 (yh.lt j (by simpa using hj)).1);obtain⟨At,yl⟩:=(uh hI).1.newAv (ap':=mY (f.ap.map kj)) oO (v':=.slice a5 (mY (f.ap.map kj)).length k5) (λj hj=>by simpa using hj) (dB yh (zq5 _));have Hi:=(uh hI).1.below dL;have d5:=Hi.is.c5;have f5:=ownsRow.frozenAt Hi.is.ob 5;have HN:=ab (zq2 At ((uh hI).2.trans yl));clear yh dL oO At yl Hi Ee c5;go_wp2_with fail
   go_end0
   exact⟨rfl,_,_,(uh HN).1,(uh HN).2⟩
theorem j6(h:Fm w A f av ov)(hO:au f)(ha:f.ap.length<=100000):Calls prog 171 #[.pointer (some ⟨A,0,none⟩)] w λe w'=>e=.returned (.tuple #[])/\∃av' ov',Fm w' A (bR f) av' ov'/\aq (aG A av ov) w (aG A av' ov') w':=by
 have gG:=hO.owLen;have IV:=ab (CU h ⟨hO.cl,hO.ow,hO.ap⟩ ha (by omega));have HO:=ab hO;clear h hO;go_enter func171,ntmps171;go_wp2_with fail
 refine(uh IV).mono ?_;rintro e w1 ⟨rfl,av1,h1,s1⟩;have B9:(EH f).ap.length<=100000:=zq3 (length_filter_le _ _) ha;have HRN:=ab (zc h1 (uh HO).fg (λp hp=>rK hp) B9);have cg:=ab s1;clear h1 s1 IV;go_wp2_with fail
 refine(uh HRN).mono ?_;rintro e w2 ⟨rfl,h2,s2⟩;have JA:=ab (IB h2 (by simpa[Jo] using B9) (by
  show((EH f).ow.map _).length<=100000;rw[length_map];exact zq3 gG (by omega)))
 have cj:=ab ((uh cg).trans s2);clear h2 s2 HRN;go_wp2_with fail
 refine(uh JA).mono ?_;rintro e w3 ⟨rfl,av3,ov3,h3,s3⟩;have HN:=ab (zq2 h3 ((uh cj).trans s3));clear h3 s3 JA;go_wp2_with fail
 go_end0
 exact⟨rfl,_,_,(uh HN).1,(uh HN).2⟩
end
theorem ew.me{bl:List Bool}{s:List Nat}(h:ew bl s){c:Nat}(hc:c<24):ew (bl.set c true) (ii s c):=(h.add hc).congr (λd=>by
 unfold ii;split
 .rename_i hm;rw[mem_cons];exact⟨λh=>by rcases h with rfl|h;exact hm;exact h,zq1⟩
 .rw[mem_cons,mem_append,mem_singleton];exact⟨λh=>h.elim zq1 zq0,λh=>h.elim zq1 zq0⟩)
theorem ew.eq{bl:List Bool}{s:List Nat}(h:ew bl s):bl=(range 24).map (λc=>decide (c∈s)):=by
 refine ext_getElem (by rw[h.1];simp) (λj h1 h2=>?_);have hj:j<24:=by have:=h.1;omega
 have:=h.2 j hj;rw[getD_eq_getElem?_getD,getElem?_eq_getElem h1]at this;simp only[Option.getD_some]at this;rw[getElem_map,getElem_range];cases hb:bl[j] with
 |true=>rw[hb]at this;simp[this.1 rfl]
 |false=>rw[hb]at this;simp;intro hm;exact absurd (this.2 hm) (by simp)
theorem Nz(l:List Pr):∀{s:List Nat},s.length<=(l.foldl qx s).length:=by
 induction l with
 |nil=>intro s;exact zq4 _
 |cons p r ih=>intro s;exact zq3 (Gj s p) ih
theorem Gi:∀(l:List Pr) (s:List Nat),∃t,l.foldl qx s=s++t
 |[],s=>⟨[],by simp⟩
 |p::r,s=>by
  obtain⟨t,ht⟩:=Gi r (qx s p);rw[foldl_cons,ht];unfold qx;split
  .exact⟨[p.r]++t,by rw[append_assoc]⟩
  .exact⟨t,rfl⟩
theorem OA:(cR (replicate 24 false)).toArray=(replicate 24 (Value.bool false)).toArray:=rfl
theorem infoB24:(prog.info? 240).map (·.size)=some 24:=by kernel_rfl
section
variable {w:World} {A:Nat} {f:CF} {av ov:Value}
theorem l7(h:dT w A f av ov)(hO:au f):Calls prog 227 #[.pointer (some ⟨A,0,none⟩)] w λe w'=>e=.returned (.agg (cR (Cj f)).toArray)/\Below w.heap.size w w':=by
 obtain⟨oa,oc,fx,-,-⟩:=aj h.ow;subst fx;have gG:=hO.owLen;obtain⟨w0,kW⟩:∃w0,w0=(w.alloc (.cells (replicate 24 (Value.bool false)).toArray 240)).alloc (.cells (replicate 24 (Value.bool false)).toArray 240):=⟨_,rfl⟩;have s9:Below w.heap.size w w0:=by rw[kW];exact(ah w _).alloc (ah w _).size _
 have Ho:Ob w0 240 24 w.heap.size (cR (replicate 24 false)):=by rw[kW,<-OA];exact(xQ w).alloc _
 have Qo:Ob w0 240 24 (w.heap.size+1) (cR (replicate 24 false)):=by
  rw[kW,<-OA];have:=xQ (w.alloc (.cells (cR (replicate 24 false)).toArray 240));simpa using this
 obtain⟨R,hR⟩:∃R,R=w.heap.size:=⟨_,rfl⟩;obtain⟨D,hD⟩:∃D,D=R+1:=⟨_,rfl⟩;rw[<-hR,<-hD]at Qo;rw[<-hR]at Ho;have H:=ab h;have HO:=ab hO;have HR:=ab hR;have HD:=ab hD;have cd:Hid (Ob w0 240 24 D (cR (replicate 24 false))/\ew (replicate 24 false) (([f.cl.getD 1 0,f.cl.getD 2 0,f.cl.getD 3 0,f.cl.getD 4 0].take 0).foldl ii [])/\Ob w0 240 24 R (cR (replicate 24 false))/\Below w.heap.size w w0):=ab ⟨Qo,Ah,Ho,s9⟩;clear h hO s9 Ho Qo;simp only[replicate]at kW;go_enter func227,ntmps227;go_upto_region 2 with fail;rw[<-kW,<-hR,<-hD];clear kW hR hD;go_wp2_with fail
 go_loopw [4] (λi wx=>∃(k:Nat) (bl:List Bool),k<=4/\i=.int .i64 ((k:Int)+1)/\Hid (Ob wx 240 24 D (cR bl)/\ew bl (([f.cl.getD 1 0,f.cl.getD 2 0,f.cl.getD 3 0,f.cl.getD 4 0].take k).foldl ii [])/\Ob wx 240 24 R (cR (replicate 24 false))/\Below w.heap.size w wx)) (λi _=>5-(intOf i).toNat)
 case atStart=>exact⟨0,_,zq5 _,rfl,cd⟩
 case round =>
  clear cd;obtain⟨k,bl,hk,rfl,hI⟩:=hrel;have hDR:D≠R:=by have:=uh HD;omega
  by_cases ar:k<4
  .have hd:decide ((k:Int)+1<(5:Int))=true:=(by simp;omega);have hF:=(uh H).below (uh hI).2.2.2;have x:=hF.cls (i:=k+1) (by omega);unfold fX at x;have aS:([f.cl.getD 1 0,f.cl.getD 2 0,f.cl.getD 3 0,f.cl.getD 4 0].take (k+1)).foldl ii []=ii (([f.cl.getD 1 0,f.cl.getD 2 0,f.cl.getD 3 0,f.cl.getD 4 0].take k).foldl ii []) (f.cl.getD (k+1) 0):=by
    have:k=0\/k=1\/k=2\/k=3:=(by omega);rcases this with rfl|rfl|rfl|rfl <;> rfl
   have hc:=(uh HO).get (k+1);obtain⟨c,hce⟩:∃c,c=f.cl.getD (k+1) 0:=⟨_,rfl⟩;rw[<-hce]at x aS hc;obtain⟨⟨u,hu⟩,hz⟩:=(uh hI).1.some (j:=c) hc;have o1:=(uh hI).1.stored c (.bool true);rw[kt]at o1;have cq:w.heap.size<=D:=(by have:=uh HD;have:=uh HR;omega);have HN:Hid (Ob (wr.setCell ⟨D,c,none⟩ (.bool true)) 240 24 D (cR (bl.set c true))/\ew (bl.set c true) (([f.cl.getD 1 0,f.cl.getD 2 0,f.cl.getD 3 0,f.cl.getD 4 0].take (k+1)).foldl ii [])/\Ob (wr.setCell ⟨D,c,none⟩ (.bool true)) 240 24 R (cR (replicate 24 false))/\Below w.heap.size w (wr.setCell ⟨D,c,none⟩ (.bool true))):=ab ⟨o1,by rw[aS];exact(uh hI).2.1.me hc,(uh hI).2.2.1.of_eq (heap_setCell _ _ _ _ (λe=>hDR e.symm)),(uh hI).2.2.2.setCell (p:=⟨D,c,none⟩) cq _⟩;have i1:(0:Int)<=(k:Int)+1:=(by omega);have i2:(k:Int)+1<(5:Int):=(by omega);have i3:(c:Int)<(24:Int):=(by omega);have i4:((k:Int)+1).toNat=k+1:=(by omega);clear hF aS hce o1 hI cq;go_wp2_with fail
   go_roundw
   case rel=>exact⟨k+1,_,by omega,by go_num,HN⟩
   case measure=>simp[intOf];omega
  .have hd:decide ((k:Int)+1<(5:Int))=false:=(by simp;omega);have uN:k=4:=(by omega);subst uN;have E8:([f.cl.getD 1 0,f.cl.getD 2 0,f.cl.getD 3 0,f.cl.getD 4 0].take 4).foldl ii []=Uf f:=rfl;rw[E8]at hI;have ep:Hid (Ob wr 240 24 D (cR bl)/\ew bl (Uf f)/\dW (Uf f)/\Ob wr 240 24 R (cR (replicate 24 false))/\Below w.heap.size w wr/\X4 f 25 (Uf f)=nX f):=ab ⟨(uh hI).1,(uh hI).2.1,X3 (uh HO).cl,(uh hI).2.2.1,(uh hI).2.2.2,rfl⟩;clear E8 hI;rw[show((4:Nat):Int)+1=(5:Int) from rfl];have cq:w.heap.size<=D:=(by have:=uh HD;have:=uh HR;omega);go_wp2_with fail
   go_loopg [5] (26-(Uf f).length) (λgn gv wx=>∃(s:List Nat) (bl:List Bool) (n:Nat) (gr:Bool),gv=.bool gr/\gn=(if gr=true then 26-s.length else 0)/\s.length<=24/\Hid (Ob wx 240 24 D (cR bl)/\ew bl s/\dW s/\Ob wx 240 24 R (cR (replicate 24 false))/\Below w.heap.size w wx/\(gr=true->X4 f n s=nX f/\24<n+s.length)/\(gr=false->s=nX f)))
   case atStart=>exact⟨Uf f,bl,25,true,rfl,rfl,(uh ep).2.2.1.len,ab ⟨(uh ep).1,(uh ep).2.1,(uh ep).2.2.1,(uh ep).2.2.2.1,(uh ep).2.2.2.2.1,λ_=>⟨rfl,by omega⟩,λh=>by cases h⟩⟩
   case round =>
    clear ep;obtain⟨s,bl,n,gr,rfl,hgn,Il,hI⟩:=hrel;obtain⟨G,hG⟩:∃G,G=gk:=⟨_,rfl⟩;cases gr with
    |false =>
     have ac3:=(uh hI).2.2.2.2.2.2 rfl;have cn:cR bl=cR (Cj f):=(by rw[(uh hI).2.1.eq,ac3];rfl);obtain⟨M,hM⟩:∃M,M=cR (Cj f):=⟨_,rfl⟩;have et:M.length=24:=(by rw[hM];simp[cR,Cj]);have K1:Ob wr 240 24 D M:=(by rw[hM,<-cn];exact(uh hI).1);have ww:=(uh hI).2.2.2.1;have Zm:wr.rangeAt D 0 M:=by
      intro j v hj;have fC:=(List.getElem?_eq_some_iff.1 hj).1;rw[Nat.zero_add,ownsRow.cellAt K1 j (by omega)];exact hj
     have zD:wr.there R 0 M.toArray.size:=by
      intro j hj;rw[size_toArray,et]at hj;obtain⟨⟨u,hu⟩,hz⟩:=ww.some (j:=j) hj;rw[Nat.zero_add];exact⟨by rw[hu];rfl,hz⟩
     have dy:(prog.info? 240).map (·.size)=some M.length:=(by rw[et];exact infoB24);have bX:(prog.info? 240).map (·.size)=some M.toArray.size:=(by rw[size_toArray,et];exact infoB24);have Au:M.toArray.all (·.oneCell')=true:=all_oneCell_toArray (by
      intro v hv;rw[hM]at hv;obtain⟨o,_,rfl⟩:=mem_map.1 hv;rfl)
     have s7:=Ob.setCells M 0 ww;have WU:=ma M [] (cR (replicate 24 false)) [] (by rw[et];rfl);simp only[nil_append,append_nil,length_nil]at WU;rw[WU]at s7;have V3:w.heap.size<=R:=(by have:=uh HR;omega);have KZ:∀(vs:List Value) (o:Nat) (x:World),Below w.heap.size w x->Below w.heap.size w (x.setCells R o vs):=by
      intro vs;induction vs with
      |nil=>intro o x h;exact h
      |cons v r ih=>intro o x h;exact ih (o+1) _ (h.setCell V3 v)
     have j9:=ab (KZ M 0 wr (uh hI).2.2.2.2.1);have HM:=ab hM;have HML:=ab et;have HRg:=ab Zm;have zO:=ab zD;have ep:=ab dy;have dJ:=ab bX;have OI:=ab Au;have GK:=ab s7;clear Zm zD dy bX Au s7 WU KZ hM et K1 ww cn ac3 hI hgn;go_wp2_with (first|refine wpList_load_mid rfl 240 (.tmp 3) rfl D 0 rfl M _ (uh HRg) underlying240 rfl (uh ep) ?_|refine wpList_store_mid rfl 240 (.tmp 2) (.tmp 44) rfl R 0 M.toArray rfl rfl (uh zO) (uh dJ) (uh OI) ?_)
     have WS:(wr.setCells R 0 M).rangeAt R 0 M:=by
      intro j v hj;have fC:=(List.getElem?_eq_some_iff.1 hj).1;rw[uh HML]at fC;rw[Nat.zero_add,ownsRow.cellAt (uh GK) j (by omega)];exact hj
     have hld:=run_loadVar_mid (P:=prog) (wr.setCells R 0 M) R 0 240 M _ WS underlying240 rfl (uh ep);refine bodyPost_ret (v:=.agg M.toArray) ?_ rfl ⟨by rw[uh HM],uh j9⟩;simp[results,Tryz.results227,Act.put,asAddr,hld]
    |true =>
     have anp:gk=26-s.length:=hgn;obtain⟨hrc,anL⟩:=(uh hI).2.2.2.2.2.1 rfl;have HRC:=ab hrc;have hF:=(uh H).below (uh hI).2.2.2.2.1;have c6:=hF.c6;have dJ:Hid (Ob wr 240 24 D (cR bl)/\ew bl ((f.ow.take 0).foldl qx s)/\Ob wr 240 24 R (cR (replicate 24 false))/\Below w.heap.size w wr):=ab ⟨(uh hI).1,(uh hI).2.1,(uh hI).2.2.2.1,(uh hI).2.2.2.2.1⟩;have HMS:=ab (uh hI).2.2.1;clear hgn hrc hF hI;go_wp2_with fail
     go_loopg [5,25] f.ow.length (λgn gv i wx=>∃(j:Nat) (bl:List Bool),j+gn=f.ow.length/\i=.int .i64 j/\gv=.bool (decide (((f.ow.take j).foldl qx s).length≠s.length))/\Hid (Ob wx 240 24 D (cR bl)/\ew bl ((f.ow.take j).foldl qx s)/\Ob wx 240 24 R (cR (replicate 24 false))/\Below w.heap.size w wx))
     case atStart=>exact⟨0,bl,by omega,rfl,by simp,dJ⟩
     case round =>
      clear dJ c6;obtain⟨j,bl,yc,rfl,rfl,hJ⟩:=hrel;obtain⟨G2,CZ⟩:∃G2,G2=gk:=⟨_,rfl⟩;have hF:=(uh H).below (uh hJ).2.2.2;have hDR:D≠R:=(by have:=uh HD;omega);obtain⟨m,hm⟩:∃m,m=(f.ow.take j).foldl qx s:=⟨_,rfl⟩;have lm:s.length<=m.length:=(by rw[hm];exact Nz _);by_cases ar:j<f.ow.length
      .have hd:decide ((j:Int)<(f.ow.length:Int))=true:=(by simp;omega);obtain⟨g,cap,c9,-,-⟩:=aD hF.ow ar;simp only[Value.slice.injEq,true_and]at c9;obtain⟨rfl,rfl⟩:=c9;obtain⟨x0,x1,x2⟩:=aA hF.ow ar;obtain⟨lr,uQ⟩:=(uh HO).ow _ (dl ar);have oq:=iJ (g:=qx) (a:=s) ar;obtain⟨p,hp⟩:∃p,p=f.ow.getD j aE:=⟨_,rfl⟩;rw[<-hp]at x0 x1 x2 lr uQ oq;rw[<-hm]at hJ oq ⊢;obtain⟨gr,QK⟩:∃gr,gr=decide (m.length≠s.length):=⟨_,rfl⟩;rw[<-QK];have HGR:=ab QK;obtain⟨W1,dE⟩:∃W1,W1=wr.alloc (.cells #[Value.int .i64 p.k,.int .i64 p.l,.int .i64 p.r] 182):=⟨_,rfl⟩;have bV:Below wr.heap.size wr W1:=(by rw[dE];exact ah wr _);have hX:Bk W1 wr.heap.size 182 [Value.int .i64 p.k,.int .i64 p.l,.int .i64 p.r]:=(by rw[dE];exact Bk.new wr _ _);have b1:=hX.cell 1 rfl;have b2:=hX.cell 2 rfl;have oD:Ob W1 240 24 D (cR bl):=(uh hJ).1.of_eq (bV.block D (ownsRow.lt (uh hJ).1 D rfl).2);have oR:Ob W1 240 24 R (cR (replicate 24 false)):=(uh hJ).2.2.1.of_eq (bV.block R (ownsRow.lt (uh hJ).2.2.1 R rfl).2);have bB:=(uh hJ).2.2.2.trans (bV.mono (uh hJ).2.2.2.size);have OR:=(uh hJ).2.1;have d1:=(ownsRow.cellAt oD p.l (by omega)).trans (eG (by rw[OR.1];exact lr));have d2:=(ownsRow.cellAt oD p.r (by omega)).trans (eG (by rw[OR.1];exact uQ));have fz:=ownsRow.frozenAt oD p.r;have e1:bl.getD p.l false=decide (p.l∈m):=(by have:=OR.2 p.l lr;cases hb:bl.getD p.l false <;> simp_all);have e2:bl.getD p.r false=decide (p.r∈m):=(by have:=OR.2 p.r uQ;cases hb:bl.getD p.r false <;> simp_all);rw[e1]at d1;rw[e2]at d2;have o1:=oD.stored p.r (.bool true);rw[kt]at o1;have i1:(0:Int)<=(j:Int):=(by omega);have i2:(j:Int)<(f.ow.length:Int):=(by omega);have i3:(p.l:Int)<(24:Int):=(by omega);have i4:(p.r:Int)<(24:Int):=(by omega);obtain⟨X,fV⟩:∃X,X=wr.heap.size:=⟨_,rfl⟩;rw[<-fV]at b1 b2;have IW:=ab oq;have YZ:Hid (qx m p=m->Ob W1 240 24 D (cR bl)/\ew bl ((f.ow.take (j+1)).foldl qx s)/\Ob W1 240 24 R (cR (replicate 24 false))/\Below w.heap.size w W1):=ab (λe=>⟨oD,by rw[oq,e];exact OR,oR,bB⟩);have agp:Hid (qx m p=m++[p.r]->Ob (W1.setCell ⟨D,p.r,none⟩ (.bool true)) 240 24 D (cR (bl.set p.r true))/\ew (bl.set p.r true) ((f.ow.take (j+1)).foldl qx s)/\Ob (W1.setCell ⟨D,p.r,none⟩ (.bool true)) 240 24 R (cR (replicate 24 false))/\Below w.heap.size w (W1.setCell ⟨D,p.r,none⟩ (.bool true))):=ab (λe=>⟨o1,by
        rw[oq,e];exact(OR.add uQ).congr (λd=>by simp only[mem_cons,mem_append,not_mem_nil,or_false];exact⟨λh=>h.elim zq1 zq0,λh=>h.elim zq1 zq0⟩),oR.of_eq (heap_setCell _ _ _ _ (λe=>hDR e.symm)),bB.setCell (p:=⟨D,p.r,none⟩) cq _⟩)
       clear bV hX oD oR bB OR e1 e2 o1 oq hp hm hF hJ QK;by_cases q1:p.l∈m
       .rw[show decide (p.l∈m)=true by simpa using q1]at d1;by_cases q2:p.r∈m
        .rw[show decide (p.r∈m)=true by simpa using q2]at d2;have HE:Hid (qx m p=m):=ab (by unfold qx;rw[if_neg (by rintro⟨-,h⟩;exact h q2)]);clear q1 q2;go_upto_region 12 with fail;rw[<-dE,<-fV];clear dE fV;go_wp2_with fail
         go_roundg (G2-1)
         case rel=>exact⟨j+1,bl,by omega,by go_num,by rw[uh IW,uh HE,<-uh HGR],ab (uh YZ (uh HE))⟩
         case measure=>omega
        .rw[show decide (p.r∈m)=false by simpa using q2]at d2;have HE:Hid (qx m p=m++[p.r]):=ab (by unfold qx;rw[if_pos ⟨q1,q2⟩]);clear q1 q2;go_upto_region 12 with fail;rw[<-dE,<-fV];clear dE fV;go_wp2_with fail
         go_roundg (G2-1)
         case rel=>exact⟨j+1,_,by omega,by go_num,by
          rw[uh IW,uh HE,length_append,length_singleton];rw[show decide (m.length+1≠s.length)=true by simp;omega],ab (uh agp (uh HE))⟩
         case measure=>omega
       .rw[show decide (p.l∈m)=false by simpa using q1]at d1;have HE:Hid (qx m p=m):=ab (by unfold qx;rw[if_neg (by rintro⟨h,-⟩;exact q1 h)]);clear q1;go_upto_region 12 with fail;rw[<-dE,<-fV];clear dE fV;go_wp2_with fail
        go_roundg (G2-1)
        case rel=>exact⟨j+1,bl,by omega,by go_num,by rw[uh IW,uh HE,<-uh HGR],ab (uh YZ (uh HE))⟩
        case measure=>omega
      .have hd:decide ((j:Int)<(f.ow.length:Int))=false:=(by simp;omega);have Ik:(f.ow.take j).foldl qx s=vG f s:=(by rw[take_of_length_le (by omega)];rfl);rw[Ik]at hJ ⊢;obtain⟨n',rfl⟩:∃n',n=n'+1:=⟨n-1,by omega⟩;have hrn:X4 f (n'+1) s=if (vG f s).length=s.length then s else X4 f n' (vG f s):=rfl
       have bE:=(NA f.ow (uh HMS) (λp hp=>((uh HO).ow p hp).2)).1;have QR:dW (vG f s):=bE;have uO:=QR.len;have acz:s.length<=(vG f s).length:=Nz _;have HJ:Hid (Ob wr 240 24 D (cR bl)/\ew bl (vG f s)/\dW (vG f s)/\Ob wr 240 24 R (cR (replicate 24 false))/\Below w.heap.size w wr):=ab ⟨(uh hJ).1,(uh hJ).2.1,QR,(uh hJ).2.2.1,(uh hJ).2.2.2⟩;by_cases rf:(vG f s).length=s.length
       .have qP:vG f s=s:=by
         obtain⟨t,ht⟩:=Gi f.ow s;have h1:vG f s=s++t:=ht;have h2:=congrArg List.length h1;rw[length_append]at h2;have:t=[]:=length_eq_zero_iff.1 (by omega);rw[h1,this,append_nil]
        have HE:Hid (vG f s=nX f):=ab (by
         have h1:=uh HRC;rw[hrn,if_pos rf]at h1;rw[qP];exact h1)
        rw[show decide ((vG f s).length≠s.length)=false by simp[rf]];clear qP rf Ik hrn bE QR hJ acz uO;go_wp2_with fail
        go_roundg 0
        case rel=>exact⟨vG f s,bl,0,false,rfl,rfl,(uh HJ).2.2.1.len,ab ⟨(uh HJ).1,(uh HJ).2.1,(uh HJ).2.2.1,(uh HJ).2.2.2.1,(uh HJ).2.2.2.2,(λh=>by cases h),λ_=>uh HE⟩⟩
        case measure=>omega
       .have HE:Hid (X4 f n' (vG f s)=nX f/\24<n'+(vG f s).length):=ab ⟨by
         have h1:=uh HRC;rw[hrn,if_neg rf]at h1;exact h1,by omega⟩
        rw[show decide ((vG f s).length≠s.length)=true by simp[rf]];have bS:26-(vG f s).length<G:=(by omega);clear rf Ik hrn bE QR hJ acz;go_wp2_with fail
        go_roundg (26-(vG f s).length)
        case rel=>exact⟨vG f s,bl,n',true,rfl,rfl,(uh HJ).2.2.1.len,ab ⟨(uh HJ).1,(uh HJ).2.1,(uh HJ).2.2.1,(uh HJ).2.2.2.1,(uh HJ).2.2.2.2,(λ_=>uh HE),λh=>by cases h⟩⟩
        case measure=>omega
end
