import Derived.Test.YtciihepbeacppaaGreatM13
import Derived.Deep.RegionHeld3
set_option maxRecDepth 100000
set_option maxHeartbeats 0
namespace Go.Proofs.YtciihepbeacppaaGreat
open Tryz Go.RowKit List World Below
set_option linter.unusedVariables false
theorem Dq{w:World}{B e sz n k cap:Nat}{a:Option Addr}{xs:List Value}(h:w.ownsRow B e sz (.slice a n cap) n xs)(hk:k<=n):w.ownsRow B e sz (.slice a k cap) k (xs.take (k*sz)):=by
 have hl:=h.1;have hks:k*sz<=n*sz:=Nat.mul_le_mul_right _ hk;rcases h.2 with⟨h',hn⟩|⟨g',cap',cur,h',hb,hg,Md,mC,ts,Pl⟩
 .simp only[Value.slice.injEq]at h';obtain⟨rfl,h2,rfl⟩:=h';have oS:n=0:=by omega
  have hk0:k=0:=by omega
  subst oS;subst hk0;refine⟨by simp,.inl ⟨rfl,?_⟩⟩;simp
 .simp only[Value.slice.injEq]at h';obtain⟨rfl,-,rfl⟩:=h';refine⟨by rw[length_take];omega,.inr ⟨g',cap,cur,rfl,hb,hg,by omega,mC,ts,?_⟩⟩;rw[<-Pl,take_take,Nat.min_eq_left (by omega)]
theorem qZ:∀(l:List Pr) (k:Nat),(af l).take (k*3)=af (l.take k)
 |[],k=>by simp[af]
 |p::l,0=>by simp[af]
 |p::l,k+1=>by
  have h1:=qZ l k;have hx:∀(y:Pr) (m:List Pr),af (y::m)=[Value.int .i64 y.k,.int .i64 y.l,.int .i64 y.r]++af m:=λy m=>rfl;rw[take_succ_cons,hx,hx,<-h1,take_append];simp only[length_cons,length_nil];rw[take_of_length_le (by simp;omega),show(k+1)*3-(0+1+1+1)=k*3 by omega]
theorem Dx{l:List Pr}{i:Nat}(hi:i<l.length)(p:Pr):(((af l).set (i*3) (.int .i64 (p.k:Int))).set (i*3+1) (.int .i64 (p.l:Int))).set (i*3+2) (.int .i64 (p.r:Int))=af (l.set i p):=by
 have g1:(l.set i ⟨p.k,(l.getD i ax).l,(l.getD i ax).r⟩).getD i ax=⟨p.k,(l.getD i ax).l,(l.getD i ax).r⟩:=by
  rw[getD_eq_getElem?_getD,getElem?_set_self hi];rfl
 have g2:((l.set i ⟨p.k,(l.getD i ax).l,(l.getD i ax).r⟩).set i ⟨p.k,p.l,(l.getD i ax).r⟩).getD i ax=⟨p.k,p.l,(l.getD i ax).r⟩:=by
  rw[getD_eq_getElem?_getD,getElem?_set_self (by simpa using hi)];rfl
 rw[mf hi,jq (by simpa using hi),g1,eX (by simpa using hi),g2,set_set,set_set]
def xj(L:List Pr)(x:Pr)(j:Nat):List Pr:=L.take j++x::L.drop j
theorem tN{L:List Pr}{x:Pr}{j:Nat}(hj:j<=L.length):(xj L x j).length=L.length+1:=by unfold xj;simp;omega
theorem SN{L:List Pr}{x:Pr}{j i:Nat}(hj:j<=L.length)(hi:i<j):(xj L x j).getD i ax=L.getD i ax:=by
 unfold xj;rw[getD_eq_getElem?_getD,getElem?_append_left (by simp;omega),getElem?_take,if_pos hi,<-getD_eq_getElem?_getD]
theorem zy{L:List Pr}{x y:Pr}{j:Nat}(hj:j<=L.length):(xj L x j).set j y=xj L y j:=by
 unfold xj;have e:(L.take j).length=j:=by simp;omega
 rw[set_append_right _ _ (by omega),e,Nat.sub_self,set_cons_zero]
theorem MP{L:List Pr}{j:Nat}(hj:j<L.length):xj L (L.getD j ax) (j+1)=xj L (L.getD j ax) j:=by
 unfold xj;rw[cQ hj,take_add_one,getElem?_eq_getElem hj,drop_eq_getElem_cons hj,append_assoc];rfl
theorem Nr:∀(l:List Pr) {a:List Pr},a≠[]->l.foldl lW a≠[]
 |[],_,h=>h
 |p::r,a,h=>by
  rw[foldl_cons];refine Nr r ?_;unfold lW;split
  .simp
  .exact h
theorem Ns{l:List Pr}(h:l≠[]):l.foldl lW []≠[]:=by
 cases l with
 |nil=>exact absurd rfl h
 |cons p r =>
  rw[foldl_cons];refine Nr r ?_;unfold lW;simp
theorem Hg:∀(l:List Pr) {a:List Pr},(l.foldl lW a).length<=a.length+l.length
 |[],a=>by simp
 |p::r,a=>by
  rw[foldl_cons];have h1:=Hg r (a:=lW a p);have h2:(lW a p).length<=a.length+1:=by unfold lW;split <;> simp
  simp only[length_cons];omega
theorem I9(p q:Pr):((p.k:Int)==(q.k:Int)&&((p.l:Int)==(q.l:Int)&&(p.r:Int)==(q.r:Int)))=Dy p q:=by
 unfold Dy;rw[bp,bp,bp,Bool.and_assoc]
theorem Gl{W:World}{B g cap n i:Nat}{L:List Pr}(hr:W.ownsRow B 182 3 (.slice (some ⟨g,0,none⟩) n cap) n (af L))(hn:n=L.length)(hi:i<n)(p:Pr):
  (((W.setCell ⟨g,i*3,none⟩ (.int .i64 (p.k:Int))).setCell ⟨g,i*3+1,none⟩ (.int .i64 (p.l:Int))).setCell ⟨g,i*3+2,none⟩ (.int .i64 (p.r:Int))).ownsRow B 182 3 (.slice (some ⟨g,0,none⟩) n cap) n (af (L.set i p)) /\
  ((∃u,W.cell? ⟨g,i*3,none⟩=some u)/\(∃u,W.cell? ⟨g,i*3+1,none⟩=some u)/\∃u,W.cell? ⟨g,i*3+2,none⟩=some u) /\
  W.frozen? ⟨g,i*3,none⟩=false/\W.frozen? ⟨g,i*3+1,none⟩=false/\W.frozen? ⟨g,i*3+2,none⟩=false:=by
 subst hn;have r3:=(((hr.stored (i*3) (.int .i64 (p.k:Int))).1.stored (i*3+1) (.int .i64 (p.l:Int))).1.stored (i*3+2) (.int .i64 (p.r:Int))).1;rw[Dx hi]at r3;obtain⟨x0,x1,x2⟩:=aD (ej hr (zq5 _)) hi;exact⟨r3,⟨⟨_,x0⟩,⟨_,x1⟩,⟨_,x2⟩⟩,hr.frozenAt _,hr.frozenAt _,hr.frozenAt _⟩
section
variable {w:World} {v:Value} {l:List Pr}
theorem wA(h:w.ownsRow 0 182 3 v l.length (af l))(hl:l.length<=100000):Calls prog 226 #[v] w λe w'=>∃v',e=.returned v'/\w'.ownsRow w.heap.size 182 3 v' (mh l).length (af (mh l))/\Below w.heap.size w w':=by
 obtain⟨i0,k9,gX,fK,f9⟩:=info_parts infoPair;obtain⟨va,vc,hv',Ps,Uo⟩:=aj h;subst hv';have H:=ab h;have uC:Hid ((w.alloc (.cells #[] 182)).ownsRow w.heap.size 182 3 (.slice (some ⟨w.heap.size,0,none⟩) 0 0) ((l.take 0).foldl fQ []).length (af ((l.take 0).foldl fQ []))/\Below w.heap.size w (w.alloc (.cells #[] 182))):=ab ⟨ownsRow_lit (base:=w.heap.size) (e:=182) (size:=3) w #[] 0 (zq4 _) (by simp[maxLen]) rfl,ah w _⟩;clear h;go_enter func226,ntmps226;go_wp2_with fail
 go_loopg [3,12] l.length (λgn rv i wx=>∃(k:Nat),k+gn=l.length/\i=.int .i64 k/\Hid (wx.ownsRow w.heap.size 182 3 rv ((l.take k).foldl fQ []).length (af ((l.take k).foldl fQ []))/\Below w.heap.size w wx))
 case atStart=>exact⟨0,by omega,rfl,uC⟩
 case round =>
  clear uC;obtain⟨k,fJ,rfl,hI⟩:=hrel;obtain⟨G,hG⟩:∃G,G=gk:=⟨_,rfl⟩;obtain⟨ra,rc,Mf,-,-⟩:=aj (uh hI).1;subst Mf;have tt:=qE (l.take k) (a:=[]) List.Pairwise.nil;have dL:=tt.2.2;rw[length_take]at dL;simp only[length_nil,Nat.zero_add]at dL;by_cases ar:k<l.length
  .have hd:decide ((k:Int)<(l.length:Int))=true:=(by simp;omega);have hF:=ja (uh H) (uh hI).2;obtain⟨g,cap,dQ,-,-⟩:=aE hF ar;simp only[Value.slice.injEq,true_and]at dQ;obtain⟨rfl,rfl⟩:=dQ;obtain⟨x0,x1,x2⟩:=aD hF ar;have qd:=jE (g:=fQ) (a:=[]) ar;obtain⟨p,hp⟩:∃p,p=l.getD k ax:=⟨_,rfl⟩;rw[<-hp]at x0 x1 x2 qd;obtain⟨L,hL⟩:∃L,L=(l.take k).foldl fQ []:=⟨_,rfl⟩;rw[<-hL]at hI qd dL ⊢;have ZA:L.length=k:=(by omega);have kY:=ab ((uh hI).1.alloc (.cells #[.int .i64 (p.k:Int),.int .i64 (p.l:Int),.int .i64 (p.r:Int)] 182));have fU:=ab ((uh hI).2.alloc (uh hI).2.size (.cells #[.int .i64 (p.k:Int),.int .i64 (p.l:Int),.int .i64 (p.r:Int)] 182));have HBX:=ab (Bk.new wr 182 [.int .i64 (p.k:Int),.int .i64 (p.l:Int),.int .i64 (p.r:Int)]);have pf:=(uh hI).1.lt;have Wm:=ab pf;have LK:=ab qd;have i1:(0:Int)<=(k:Int):=(by omega);have i2:(k:Int)<(l.length:Int):=(by omega);have hLb:L.length<=100000:=(by omega);have RA:=ab ZA;have nV:=(uh hI).2.size;clear hp hF qd hL dL tt hI pf ZA;go_wp2_with (at_builtin;refine aS _ rfl (.tmp 16) (.tmp 18) 177 rfl w.heap.size 182 i0 _ 3 24 underlying177 k9 gX fK f9 rfl (by decide) _ L.length (af L) rfl ((uh kY).alloc _) ⟨_,0,none⟩ 1 [.int .i64 (p.k:Int),.int .i64 (p.l:Int),.int .i64 (p.r:Int)] rfl rfl (aN _ _ (by simp) [.int .i64 (p.k:Int),.int .i64 (p.l:Int),.int .i64 (p.r:Int)] _) (qY p) (by omega) (by omega) (by simp;omega) ?_)
   intro g4 cap4 w4 iG eg jG;have nR:Below w.heap.size w w4:=by
    have hb:=(uh fU).alloc (uh fU).size (.cells #[.int .i64 (p.k:Int),.int .i64 (p.l:Int),.int .i64 (p.r:Int)] 182);exact hb.grown eg hb.size (λk hk=>((uh kY).lt k hk).1)
   obtain⟨X,hX⟩:∃X,X=wr.heap.size:=⟨_,rfl⟩;have ZN:Bk w4 X 182 [.int .i64 (p.k:Int),.int .i64 (p.l:Int),.int .i64 (p.r:Int)]:=by
    rw[hX];refine((uh HBX).alloc _).of_eq (eg.block _ (by simp;omega) (λe=>?_));have:=(uh Wm _ e.symm).2;omega
   have hgX:g4≠X:=by
    rw[hX];rintro rfl;rcases jG with e|e
    .have:=(uh Wm _ e.symm).2;omega
    .omega
   have C5:w4.ownsRow w.heap.size 182 3 (.slice (some ⟨g4,0,none⟩) (L.length+1) cap4) (L.length+1) (af (xj L p L.length)):=by
    have e:xj L p L.length=L++[p]:=(by unfold xj;rw[take_length,drop_length]);rw[e,eK];exact iG
   have fs:Hid (w4.ownsRow w.heap.size 182 3 (.slice (some ⟨g4,0,none⟩) (L.length+1) cap4) (L.length+1) (af (xj L p L.length))/\Bk w4 X 182 [.int .i64 (p.k:Int),.int .i64 (p.l:Int),.int .i64 (p.r:Int)]/\Below w.heap.size w w4):=ab ⟨C5,ZN,nR⟩;have HGX:=ab hgX;have HX:=ab hX;rw[<-hX];clear iG eg jG nR ZN C5 hX x0 x1 x2 kY HBX hgX;go_wp2_with fail
   go_loopg [6] L.length (λgn i wx=>∃(x:Pr),gn<=L.length/\i=.int .i64 gn/\Bs p L gn=Bs p L L.length/\Hid (wx.ownsRow w.heap.size 182 3 (.slice (some ⟨g4,0,none⟩) (L.length+1) cap4) (L.length+1) (af (xj L x gn))/\Bk wx X 182 [.int .i64 (p.k:Int),.int .i64 (p.l:Int),.int .i64 (p.r:Int)]/\Below w.heap.size w wx))
   case atStart=>exact⟨p,zq4 _,by go_num,rfl,fs⟩
   case round =>
    clear fs;obtain⟨x,hj,rfl,hwh,hJ⟩:=hrel;obtain⟨b0,b1,b2⟩:wr.cell? ⟨X,0,none⟩=some (.int .i64 (p.k:Int))/\wr.cell? ⟨X,1,none⟩=some (.int .i64 (p.l:Int))/\wr.cell? ⟨X,2,none⟩=some (.int .i64 (p.r:Int)):=⟨(uh hJ).2.1.cell 0 rfl,(uh hJ).2.1.cell 1 rfl,(uh hJ).2.1.cell 2 rfl⟩;cases gk with
    |zero =>
     have HWH:=ab hwh;have HAL:=ab (tN (L:=L) (x:=x) hj);have d0:decide ((0:Int)<0)=false:=(by decide);clear hwh;obtain⟨w5,hw5⟩:∃w5,w5=wr:=⟨_,rfl⟩;have lH:Hid (Below wr.heap.size wr w5):=ab (by rw[hw5];exact Below.refl _ _);have dT:=uh lH;have Ad:=ja (uh hJ).1 dT;have L4:=(uh hJ).2.1.below dT;obtain⟨r6,⟨⟨u0,y0⟩,⟨u1,y1⟩,⟨u2,y2⟩⟩,f0,f1,f2⟩:=Gl Ad (uh HAL).symm (i:=0) (by omega) p;rw[zy hj]at r6;have cN:w.heap.size<=g4:=((uh hJ).1.lt g4 rfl).1;have kG:=((((uh hJ).2.2.trans (dT.mono (uh hJ).2.2.size)).setCell (p:=⟨g4,(0)*3,none⟩) cN (.int .i64 (p.k:Int))).setCell (p:=⟨g4,(0)*3+1,none⟩) cN (.int .i64 (p.l:Int))).setCell (p:=⟨g4,(0)*3+2,none⟩) cN (.int .i64 (p.r:Int));have z0:=L4.cell 0 rfl;have z1:=L4.cell 1 rfl;have z2:=L4.cell 2 rfl;have HN:Hid (((((w5.setCell ⟨g4,(0)*3,none⟩ (.int .i64 (p.k:Int))).setCell ⟨g4,(0)*3+1,none⟩ (.int .i64 (p.l:Int))).setCell ⟨g4,(0)*3+2,none⟩ (.int .i64 (p.r:Int)))).ownsRow w.heap.size 182 3 (.slice (some ⟨g4,0,none⟩) (L.length+1) cap4) ((l.take (k+1)).foldl fQ []).length (af ((l.take (k+1)).foldl fQ []))/\Below w.heap.size w ((((w5.setCell ⟨g4,(0)*3,none⟩ (.int .i64 (p.k:Int))).setCell ⟨g4,(0)*3+1,none⟩ (.int .i64 (p.l:Int))).setCell ⟨g4,(0)*3+2,none⟩ (.int .i64 (p.r:Int))))):=ab ⟨by
      have e:(l.take (k+1)).foldl fQ []=xj L p (0):=(by rw[uh LK];unfold fQ xj;rw[<-uh HWH];rfl);rw[e,tN hj];exact r6,kG⟩
     have i5:(0:Int)<(L.length:Int)+1:=(by omega);clear dT Ad L4 r6 kG cN lH;subst hw5;go_wp2_with fail
     go_quiet (fail)
     go_wp2_with fail
     go_roundg (G-1)
     case rel=>exact⟨k+1,by omega,by go_num,ab ⟨(uh HN).1,⟨(uh HN).2.os,(uh HN).2.tape,(uh HN).2.output,(uh HN).2.size,(uh HN).2.block⟩⟩⟩
     case measure=>omega
    |succ m =>
     have hr:=(uh hJ).1;have qc:=tN (L:=L) (x:=x) hj;have FI:wr.ownsRow w.heap.size 182 3 (.slice (some ⟨g4,0,none⟩) (xj L x (m+1)).length cap4) (xj L x (m+1)).length (af (xj L x (m+1))):=(by rw[qc];exact hr);obtain⟨x0,x1,x2⟩:=aD (ej FI (zq5 _)) (i:=m) (by rw[qc];omega);rw[SN hj (by omega)]at x0 x1 x2;have hwm:Bs p L (m+1)=if LV p (L.getD m ax)=true then Bs p L m else m+1:=rfl
     have hdn:=MP (L:=L) (j:=m) (by omega);have hpu:=zy (L:=L) (x:=x) (y:=L.getD m ax) hj;obtain⟨q,hq⟩:∃q,q=L.getD m ax:=⟨_,rfl⟩;rw[<-hq]at x0 x1 x2 hwm hdn hpu;have JH:Hid (∀W:World,Calls prog 249 #[.agg #[.int .i64 (p.k:Int),.int .i64 (p.l:Int),.int .i64 (p.r:Int)],.agg #[.int .i64 (q.k:Int),.int .i64 (q.l:Int),.int .i64 (q.r:Int)]] W λe w'=>e=.returned (.bool (LV p q))/\Below W.heap.size W w'):=ab (λW=>ER p q);have d0:decide ((0:Int)<(m:Int)+1)=true:=(by simp);have i3:(0:Int)<=(m:Int):=(by omega);have i4:(m:Int)<(L.length:Int)+1:=(by omega);have hq0:IntKind.i64.wrap (m:Int)=(m:Int):=(by rw[IntKind.wrap_i64];omega);have Ef:=(uh hJ).2.1.lt;have nS:=((uh hJ).1.lt g4 rfl).2;have HWM:=ab hwm;have HDN:=ab hdn;have HPU:=ab hpu;have HAL:=ab qc;have HWH:=ab hwh;clear hr FI qc hwm hdn hpu hq hwh;cases ZT:LV p q with
     |true =>
      rw[ZT]at JH HWM;clear ZT;go_wp2_with fail
      go_region_held3 (λW=>W.cell? ⟨X,0,none⟩=some (.int .i64 (p.k:Int))/\W.cell? ⟨X,1,none⟩=some (.int .i64 (p.l:Int))/\W.cell? ⟨X,2,none⟩=some (.int .i64 (p.r:Int))/\W.cell? ⟨g4,m*3,none⟩=some (.int .i64 (q.k:Int))/\W.cell? ⟨g4,m*3+1,none⟩=some (.int .i64 (q.l:Int))/\W.cell? ⟨g4,m*3+2,none⟩=some (.int .i64 (q.r:Int))) (first|(simp only[cell?_drew,b0,b1,b2,x0,x1,x2,and_self];done)|(simp only[q0,q1,q2,q3,q4,q5,and_self];done))
       (first
        |(go_at_call 249;refine(uh JH _).mono ?_;rintro e w5 ⟨rfl,dT⟩;have lH:Hid (Below wr.heap.size wr w5):=ab ⟨dT.os,dT.tape,dT.output,dT.size,dT.block⟩;have q0:=((uh lH).cell Ef).trans b0;have q1:=((uh lH).cell Ef).trans b1;have q2:=((uh lH).cell Ef).trans b2;have q3:=((uh lH).cell nS).trans x0;have q4:=((uh lH).cell nS).trans x1;have q5:=((uh lH).cell nS).trans x2;clear dT))
      have dT:=uh lH;have Ad:=ja (uh hJ).1 dT;have L4:=(uh hJ).2.1.below dT;obtain⟨r6,⟨⟨u0,y0⟩,⟨u1,y1⟩,⟨u2,y2⟩⟩,f0,f1,f2⟩:=Gl Ad (uh HAL).symm (i:=m+1) (by omega) q;rw[uh HPU,uh HDN]at r6;have cN:w.heap.size<=g4:=((uh hJ).1.lt g4 rfl).1;have kG:=((((uh hJ).2.2.trans (dT.mono (uh hJ).2.2.size)).setCell (p:=⟨g4,(m+1)*3,none⟩) cN (.int .i64 (q.k:Int))).setCell (p:=⟨g4,(m+1)*3+1,none⟩) cN (.int .i64 (q.l:Int))).setCell (p:=⟨g4,(m+1)*3+2,none⟩) cN (.int .i64 (q.r:Int));have hX6:=((L4.setO (p:=⟨g4,(m+1)*3,none⟩) (uh HGX) (.int .i64 (q.k:Int))).setO (p:=⟨g4,(m+1)*3+1,none⟩) (uh HGX) (.int .i64 (q.l:Int))).setO (p:=⟨g4,(m+1)*3+2,none⟩) (uh HGX) (.int .i64 (q.r:Int));have HN:=ab (zq2 r6 (zq2 hX6 kG));have i5:(m:Int)+1<(L.length:Int)+1:=(by omega);have i6:(0:Int)<=(m:Int)+1:=(by omega);have HW2:Hid (Bs p L m=Bs p L L.length):=ab (by rw[<-uh HWH,uh HWM];rfl);clear dT Ad L4 r6 kG hX6 cN;go_wp2_with fail
      go_roundg m
      case rel=>exact⟨q,by omega,by go_num,uh HW2,HN⟩
      case measure=>omega
     |false =>
      rw[ZT]at JH HWM;clear ZT;go_wp2_with fail
      go_region_held3 (λW=>W.cell? ⟨X,0,none⟩=some (.int .i64 (p.k:Int))/\W.cell? ⟨X,1,none⟩=some (.int .i64 (p.l:Int))/\W.cell? ⟨X,2,none⟩=some (.int .i64 (p.r:Int))/\W.cell? ⟨g4,m*3,none⟩=some (.int .i64 (q.k:Int))/\W.cell? ⟨g4,m*3+1,none⟩=some (.int .i64 (q.l:Int))/\W.cell? ⟨g4,m*3+2,none⟩=some (.int .i64 (q.r:Int))) (first|(simp only[cell?_drew,b0,b1,b2,x0,x1,x2,and_self];done)|(simp only[q0,q1,q2,q3,q4,q5,and_self];done))
       (first
        |(go_at_call 249;refine(uh JH _).mono ?_;rintro e w5 ⟨rfl,dT⟩;have lH:Hid (Below wr.heap.size wr w5):=ab ⟨dT.os,dT.tape,dT.output,dT.size,dT.block⟩;have q0:=((uh lH).cell Ef).trans b0;have q1:=((uh lH).cell Ef).trans b1;have q2:=((uh lH).cell Ef).trans b2;have q3:=((uh lH).cell nS).trans x0;have q4:=((uh lH).cell nS).trans x1;have q5:=((uh lH).cell nS).trans x2;clear dT))
      have dT:=uh lH;have Ad:=ja (uh hJ).1 dT;have L4:=(uh hJ).2.1.below dT;obtain⟨r6,⟨⟨u0,y0⟩,⟨u1,y1⟩,⟨u2,y2⟩⟩,f0,f1,f2⟩:=Gl Ad (uh HAL).symm (i:=m+1) (by omega) p;rw[zy hj]at r6;have cN:w.heap.size<=g4:=((uh hJ).1.lt g4 rfl).1;have kG:=((((uh hJ).2.2.trans (dT.mono (uh hJ).2.2.size)).setCell (p:=⟨g4,(m+1)*3,none⟩) cN (.int .i64 (p.k:Int))).setCell (p:=⟨g4,(m+1)*3+1,none⟩) cN (.int .i64 (p.l:Int))).setCell (p:=⟨g4,(m+1)*3+2,none⟩) cN (.int .i64 (p.r:Int));have z0:=L4.cell 0 rfl;have z1:=L4.cell 1 rfl;have z2:=L4.cell 2 rfl;have HN:Hid (((((w5.setCell ⟨g4,(m+1)*3,none⟩ (.int .i64 (p.k:Int))).setCell ⟨g4,(m+1)*3+1,none⟩ (.int .i64 (p.l:Int))).setCell ⟨g4,(m+1)*3+2,none⟩ (.int .i64 (p.r:Int)))).ownsRow w.heap.size 182 3 (.slice (some ⟨g4,0,none⟩) (L.length+1) cap4) ((l.take (k+1)).foldl fQ []).length (af ((l.take (k+1)).foldl fQ []))/\Below w.heap.size w ((((w5.setCell ⟨g4,(m+1)*3,none⟩ (.int .i64 (p.k:Int))).setCell ⟨g4,(m+1)*3+1,none⟩ (.int .i64 (p.l:Int))).setCell ⟨g4,(m+1)*3+2,none⟩ (.int .i64 (p.r:Int))))):=ab ⟨by
       have e:(l.take (k+1)).foldl fQ []=xj L p (m+1):=(by rw[uh LK];unfold fQ xj;rw[<-uh HWH,uh HWM];rfl);rw[e,tN hj];exact r6,kG⟩
      have i5:(m:Int)+1<(L.length:Int)+1:=(by omega);have i6:(0:Int)<=(m:Int)+1:=(by omega);clear dT Ad L4 r6 kG cN;go_wp2_with fail
      go_roundg (G-1)
      case rel=>exact⟨k+1,by omega,by go_num,HN⟩
      case measure=>omega
  .have hd:decide ((k:Int)<(l.length:Int))=false:=(by simp;omega);have j5:k=l.length:=(by omega);have Fp:(l.take k).foldl fQ []=l.foldl fQ []:=(by rw[j5,take_length]);rw[Fp]at hI dL ⊢;have hSR:mh l=(l.foldl fQ []).foldl lW []:=rfl;obtain⟨S,hS⟩:∃S,S=l.foldl fQ []:=⟨_,rfl⟩;rw[<-hS]at hI dL hSR ⊢;have RM:S.length<=100000:=(by omega);have HSR:=ab hSR;clear hS Fp hSR j5 tt dL;go_wp2_with fail
   go_loopw [7,8] (λkv iv wx=>∃(i:Nat) (cur:List Pr),i<=S.length/\iv=.int .i64 i/\kv=.int .i64 (((S.take i).foldl lW []).length:Nat)/\Hid (wx.ownsRow w.heap.size 182 3 (.slice ra S.length rc) S.length (af cur)/\cur.length=S.length/\cur.take ((S.take i).foldl lW []).length=(S.take i).foldl lW []/\cur.drop i=S.drop i/\Below w.heap.size w wx)) (λ_ iv _=>S.length-(intOf iv).toNat)
   case atStart=>exact⟨0,S,zq5 _,rfl,rfl,ab ⟨(uh hI).1,rfl,by simp,rfl,(uh hI).2⟩⟩
   case round =>
    clear hI;obtain⟨i,cur,hi,rfl,rfl,hJ⟩:=hrel;have xS:=Hg (S.take i) (a:=[]);rw[length_take]at xS;simp only[length_nil,Nat.zero_add]at xS;by_cases ar:i<S.length
    .have kj:decide ((i:Int)<(S.length:Int))=true:=(by simp;omega);obtain⟨g,cap,dQ,-,-⟩:=cR (uh hJ).1 (by omega);simp only[Value.slice.injEq,true_and]at dQ;obtain⟨rfl,rfl,-⟩:=dQ;have dp:=(uh hJ).2.1;have FI:wr.ownsRow 0 182 3 (.slice (some ⟨g,0,none⟩) cur.length rc) cur.length (af cur):=(by rw[dp];exact ej (uh hJ).1 (zq5 _));obtain⟨x0,x1,x2⟩:=aD FI (i:=i) (by omega);have hci:cur.getD i ax=S.getD i ax:=by
      have h1:=congrArg (λm=>m.getD 0 ax) (uh hJ).2.2.2.1;simpa[getD_eq_getElem?_getD,getElem?_drop] using h1
     have hds:=jE (g:=lW) (a:=[]) ar;obtain⟨K,hK⟩:∃K,K=(S.take i).foldl lW []:=⟨_,rfl⟩;obtain⟨p,hp⟩:∃p,p=S.getD i ax:=⟨_,rfl⟩;rw[hci,<-hp]at x0 x1 x2;rw[<-hK]at hJ xS hds ⊢;rw[<-hp]at hds;have hKi:K.length<=i:=(by omega);obtain⟨r6,⟨⟨u0,y0⟩,⟨u1,y1⟩,⟨u2,y2⟩⟩,f0,f1,f2⟩:=Gl (uh hJ).1 dp.symm (i:=K.length) (by omega) p;have cN:w.heap.size<=g:=((uh hJ).1.lt g rfl).1;have kG:=(((uh hJ).2.2.2.2.setCell (p:=⟨g,K.length*3,none⟩) cN (.int .i64 (p.k:Int))).setCell (p:=⟨g,K.length*3+1,none⟩) cN (.int .i64 (p.l:Int))).setCell (p:=⟨g,K.length*3+2,none⟩) cN (.int .i64 (p.r:Int));have rZ:∀K':List Pr,K'=K++[p]->(cur.set K.length p).length=S.length/\(cur.set K.length p).take K'.length=K'/\(cur.set K.length p).drop (i+1)=S.drop (i+1):=by
      rintro K' rfl;refine⟨by simpa using dp,?_,?_⟩
      .have h1:=(uh hJ).2.2.1;rw[length_append,length_singleton,take_add_one,getElem?_set_self (by omega),take_set_of_le (zq4 _),h1];rfl
      .rw[drop_set_of_lt (by omega)];have h1:=congrArg (λm=>m.drop 1) (uh hJ).2.2.2.1;simpa[drop_drop,Nat.add_comm] using h1
     have Sv:=ab r6;have xH:=ab kG;have HPT:=ab rZ;have hU:lW K p=K->cur.take (lW K p).length=lW K p/\cur.drop (i+1)=S.drop (i+1):=λe=>by
      rw[e];refine⟨(uh hJ).2.2.1,?_⟩;have h1:=congrArg (λm=>m.drop 1) (uh hJ).2.2.2.1;simpa[drop_drop,Nat.add_comm] using h1
     have HKP:=ab hU;have HDS:=ab hds;have i1:(0:Int)<=(i:Int):=(by omega);have i2:(i:Int)<(S.length:Int):=(by omega);have i3:(K.length:Int)<(S.length:Int):=(by omega);by_cases k9:i=0
     .have hKe:K=[]:=(by rw[hK,k9];rfl);have DX:Hid (lW K p=K++[p]):=ab (by unfold lW;rw[if_pos (zq0 hKe)]);have d0:((i:Int)==0)=true:=(by simp[k9]);obtain⟨kl,j5⟩:∃kl,kl=K.length:=⟨_,rfl⟩;rw[<-j5]at Sv xH HPT y0 y1 y2 f0 f1 f2 i3 xS ⊢;have HKL:=ab j5;clear hp hK hds r6 kG rZ hU FI hci hKi cN dp hKe k9 j5;go_wp2_with fail
      go_quiet (fail)
      go_wp2_with fail
      go_roundw
      case rel=>exact⟨i+1,_,by omega,by go_num,by rw[uh HDS,uh DX,length_append,length_singleton,<-uh HKL];go_num,ab (by
       rw[uh HDS,uh DX];obtain⟨h1,h2,h3⟩:=uh HPT _ rfl;exact⟨uh Sv,h1,h2,h3,⟨(uh xH).os,(uh xH).tape,(uh xH).output,(uh xH).size,(uh xH).block⟩⟩)⟩
      case measure=>simp[intOf];omega
     .have hKn:K≠[]:=by
       rw[hK];refine Ns (λe=>?_);have:=congrArg List.length e;rw[length_take,length_nil]at this;omega
      obtain⟨n,hn⟩:∃n,K.length=n+1:=⟨K.length-1,by have:=length_pos_iff.2 hKn;omega⟩;have fZ:cur.getD n ax=K.getD n ax:=by
       have h1:=congrArg (λm=>m.getD n ax) (uh hJ).2.2.1;simp only[getD_eq_getElem?_getD,getElem?_take]at h1 ⊢;rw[if_pos (by omega)]at h1;exact h1
      obtain⟨z0,z1,z2⟩:=aD FI (i:=n) (by omega);obtain⟨q,hq⟩:∃q,q=K.getD n ax:=⟨_,rfl⟩;rw[fZ,<-hq]at z0 z1 z2;have Xe:lW K p=if Dy p q=false then K++[p] else K:=by
       unfold lW;rw[hn,Nat.add_sub_cancel,<-hq];by_cases e:Dy p q=false
       .rw[if_pos (zq1 e),if_pos e]
       .rw[if_neg (by rw[not_or];exact⟨hKn,e⟩),if_neg e]
      have DX:=ab Xe;have d0:((i:Int)==0)=false:=(by simp;omega);have hq0:IntKind.i64.wrap (n:Int)=(n:Int):=(by rw[IntKind.wrap_i64];omega);have i4:(n:Int)<(S.length:Int):=(by omega);have i5:(0:Int)<=(n:Int):=(by omega);have HKL:=ab hn;rw[hn]at Sv xH HPT y0 y1 y2 f0 f1 f2 i3 xS ⊢;rw[show((n+1:Nat):Int)=(n:Int)+1 by omega]at i3;clear hp hK hds r6 kG rZ hU FI hci hKi cN dp k9 hKn fZ hq Xe hn;have hgd:=Oa;have Ac:∀W:World,(binOp .neq 182 (.agg #[.int .i64 (p.k:Int),.int .i64 (p.l:Int),.int .i64 (p.r:Int)]) (.agg #[.int .i64 (q.k:Int),.int .i64 (q.l:Int),.int .i64 (q.r:Int)])).run prog W=.ok (.bool (!Dy p q)) W:=λW=>by rw[aha,I9]
      cases Ul:Dy p q
      .rw[Ul]at DX Ac;rw[show(!false)=true from rfl]at Ac;have X6:Hid (lW K p=K++[p]):=ab (uh DX);clear DX Ul;go_wp2_with fail
       go_quiet (fail)
       go_wp2_with fail
       go_roundw
       case rel=>exact⟨i+1,_,by omega,by go_num,by rw[uh HDS,uh X6,length_append,length_singleton,uh HKL];go_num,ab (by
        rw[uh HDS,uh X6];obtain⟨h1,h2,h3⟩:=uh HPT _ rfl;exact⟨uh Sv,h1,h2,h3,⟨(uh xH).os,(uh xH).tape,(uh xH).output,(uh xH).size,(uh xH).block⟩⟩)⟩
       case measure=>simp[intOf];omega
      .rw[Ul]at DX Ac;rw[show(!true)=false from rfl]at Ac;have X6:Hid (lW K p=K):=ab (uh DX);clear DX Ul;go_wp2_with fail
       go_quiet (fail)
       go_wp2_with fail
       go_roundw
       case rel=>exact⟨i+1,cur,by omega,by go_num,by rw[uh HDS,uh X6,uh HKL],ab (by
        obtain⟨h2,h3⟩:=uh HKP (uh X6);rw[uh HDS];exact⟨(uh hJ).1,(uh hJ).2.1,h2,h3,⟨(uh hJ).2.2.2.2.os,(uh hJ).2.2.2.2.tape,(uh hJ).2.2.2.2.output,(uh hJ).2.2.2.2.size,(uh hJ).2.2.2.2.block⟩⟩)⟩
       case measure=>simp[intOf];omega
    .have kj:decide ((i:Int)<(S.length:Int))=false:=(by simp;omega);have KG:(S.take i).foldl lW []=mh l:=(by rw[take_of_length_le (by omega)];exact(uh HSR).symm);rw[KG]at hJ xS ⊢;have hKS:(mh l).length<=S.length:=(by omega);have HRT:Hid (wr.ownsRow w.heap.size 182 3 (.slice ra (mh l).length rc) (mh l).length (af (mh l))):=ab (by
      have h1:=Dq (uh hJ).1 hKS;rw[qZ,(uh hJ).2.2.1]at h1;exact h1)
     have HBT:=ab (uh hJ).2.2.2.2;obtain⟨n,hn⟩:∃n,n=(mh l).length:=⟨_,rfl⟩;rw[<-hn]at HRT hKS ⊢;have hrc:S.length<=rc:=by
      obtain⟨a1,c1,h1,h2,h3⟩:=aj (uh hJ).1;simp only[Value.slice.injEq,true_and]at h1;omega
     have q1:(0:Int)<=(n:Int):=(by omega);have q2:(n:Int)<=(rc:Int):=(by omega);have yj:=ab hn;clear KG hJ xS hn HSR;go_wp2_with fail
     go_ret;exact⟨_,rfl,by rw[<-uh yj];exact uh HRT,uh HBT⟩
end
theorem K7{g:Pr->Pr}{l:List Pr}{k:Nat}(hk:k<l.length)(h:g (l.getD k ax)=l.getD k ax):bP g l (k+1)=bP g l k:=by
 rw[lr hk,h];have h1:=lq (g:=g) hk;rw[<-h1];exact zh (by rw[jL];exact hk)
section
variable {w:World} {A:Nat} {f:CF} {av ov:Value}
theorem Lc(h:Fm w A f av ov)(ha:f.ap.length<=100000)(ho:f.ow.length<=100000):Calls prog 199 #[.pointer (some ⟨A,0,none⟩)] w λe w'=>e=.returned (.tuple #[])/\∃av' ov',Fm w' A (orF f) av' ov'/\au (aH A av ov) w (aH A av' ov') w':=by
 have c6:=h.is.c6;have HSO:=ab (wA h.is.ow ho);have H:=ab h;obtain⟨oa,oc,gj,-,-⟩:=aj h.is.ow;subst gj;obtain⟨aa,ac,l5,-,-⟩:=aj h.is.ap;subst l5;clear h;go_enter func199,ntmps199;go_wp2_with fail
 refine(uh HSO).mono ?_;rintro e w1 ⟨v1,rfl,xZ,bH⟩;obtain⟨a1,k1,rfl⟩:=bJ xZ;have dy:au (Value.slice oa f.ow.length oc).ownBlock.toList w (Value.slice a1 (mh f.ow).length k1).ownBlock.toList w1:=(au.ofBw (F:=(Value.slice oa f.ow.length oc).ownBlock.toList) bH).foots (λj hj=>zq1 (xZ.lt j (by simpa using hj)).1);obtain⟨kE,oT⟩:=(uh H).newOv (ow':=mh f.ow) dy (v':=.slice a1 (mh f.ow).length k1) (λj hj=>by simpa using hj) (ej xZ (zq5 _));have Kl:=(uh H).below bH;have d6:=Kl.is.c6;have f6:=ownsRow.frozenAt Kl.is.ob 6;obtain⟨w2,rB⟩:∃w2,w2=w1.setCell ⟨A,6,none⟩ (.slice a1 (mh f.ow).length k1):=⟨_,rfl⟩;rw[<-rB]at kE oT;have cG:Hid (Fm w2 A { f with ow:=mh f.ow,ap:=bP iU f.ap 0 } (.slice aa f.ap.length ac) (.slice a1 (mh f.ow).length k1)/\au (aH A (.slice aa f.ap.length ac) (.slice oa f.ow.length oc)) w (aH A (.slice aa f.ap.length ac) (.slice a1 (mh f.ow).length k1)) w2):=ab ⟨by simpa[bP] using kE,oT⟩;clear xZ bH dy kE oT Kl HSO c6;obtain⟨n1,j7⟩:∃n1,n1=(mh f.ow).length:=⟨_,rfl⟩;rw[<-j7]at rB cG ⊢;have LL:=ab j7;clear j7;go_upto_region 1 with fail;rw[<-rB];clear rB d6 f6;go_wp2_with fail
 go_loopw [2] (λi wx=>∃(k:Nat),k<=f.ap.length/\i=.int .i64 k/\Hid (Fm wx A { f with ow:=mh f.ow,ap:=bP iU f.ap k } (.slice aa f.ap.length ac) (.slice a1 n1 k1)/\au (aH A (.slice aa f.ap.length ac) (.slice oa f.ow.length oc)) w (aH A (.slice aa f.ap.length ac) (.slice a1 n1 k1)) wx)) (λi _=>f.ap.length-(intOf i).toNat)
 case atStart=>exact⟨0,zq5 _,rfl,cG⟩
 case round =>
  clear cG;obtain⟨k,hk,rfl,hI⟩:=hrel;have fy:=jL iU f.ap k;have c5:=(uh hI).1.is.c5;by_cases ar:k<f.ap.length
  .have hd:decide ((k:Int)<(f.ap.length:Int))=true:=(by simp;omega);have bE:wr.ownsRow 0 182 3 (.slice aa f.ap.length ac) f.ap.length (af (bP iU f.ap k)):=by
    have:=(uh hI).1.is.ap;rwa [show({ f with ow:=mh f.ow,ap:=bP iU f.ap k }:CF).ap.length=f.ap.length from fy]at this
   obtain⟨g,cap,dQ,-,-,-⟩:=cR bE (by omega);simp only[Value.slice.injEq,true_and]at dQ;obtain⟨rfl,rfl⟩:=dQ;have vB:wr.ownsRow 0 182 3 (.slice (some ⟨g,0,none⟩) (bP iU f.ap k).length ac) (bP iU f.ap k).length (af (bP iU f.ap k)):=(by rw[fy];exact bE);obtain⟨x0,x1,x2⟩:=aD vB (i:=k) (by omega);have hmg:=lq (g:=iU) ar;rw[hmg]at x0 x1 x2;have hms:=lr (g:=iU) ar;have hse:=K7 (g:=iU) ar;obtain⟨p,hp⟩:∃p,p=f.ap.getD k ax:=⟨_,rfl⟩;rw[<-hp]at x0 x1 x2 hms hse hmg;have hgA:g≠A:=λe=>(uh hI).1.nds.1 (by rw[e];rfl);obtain⟨W1,dV⟩:∃W1,W1=wr.alloc (.cells #[Value.int .i64 p.k,.int .i64 p.l,.int .i64 p.r] 182):=⟨_,rfl⟩;have cf:Below wr.heap.size wr W1:=(by rw[dV];exact ah wr _);have hX:Bk W1 wr.heap.size 182 [Value.int .i64 p.k,.int .i64 p.l,.int .i64 p.r]:=(by rw[dV];exact Bk.new wr _ _);have kE:=(uh hI).1.below cf;have bX:=(uh hI).2.trans (au.ofBw cf);have xZ:=ja bE cf;obtain⟨X,gV⟩:∃X,X=wr.heap.size:=⟨_,rfl⟩;have hgX:g≠X:=(by have:=(bE.lt g rfl).2;omega);rw[<-gV]at hX;have b1:=hX.cell 1 rfl;have b2:=hX.cell 2 rfl;have e5:=kE.is.c5;have i1:(0:Int)<=(k:Int):=(by omega);have i2:(k:Int)<(f.ap.length:Int):=(by omega);by_cases hsw:p.r<p.l
   .have d1:decide ((p.r:Int)<(p.l:Int))=true:=(by simp;omega);have s1:=(xZ.stored (k*3+1) (.int .i64 (p.r:Int))).1;rw[jq (by omega),hmg]at s1;have s2:=(s1.stored (k*3+2) (.int .i64 (p.l:Int))).1;rw[eX (by simp;omega)]at s2;have afH:((bP iU f.ap k).set k ⟨p.k,p.r,p.r⟩).set k ⟨(((bP iU f.ap k).set k ⟨p.k,p.r,p.r⟩).getD k ax).k,(((bP iU f.ap k).set k ⟨p.k,p.r,p.r⟩).getD k ax).l,p.l⟩=bP iU f.ap (k+1):=by
     rw[hms,set_set];have:((bP iU f.ap k).set k ⟨p.k,p.r,p.r⟩).getD k ax=⟨p.k,p.r,p.r⟩:=by
      rw[getD_eq_getElem?_getD,getElem?_set_self (by omega)];rfl
     rw[this];unfold iU;rw[if_pos hsw]
    rw[afH]at s2;have gQ:au (Value.slice (some ⟨g,0,none⟩) f.ap.length ac).ownBlock.toList W1 (Value.slice (some ⟨g,0,none⟩) f.ap.length ac).ownBlock.toList ((W1.setCell ⟨g,k*3+1,none⟩ (.int .i64 (p.r:Int))).setCell ⟨g,k*3+2,none⟩ (.int .i64 (p.l:Int))):=((au.refl _ _).setCell (p:=⟨g,k*3+1,none⟩) (zq0 (by simp[Value.ownBlock])) _).setCell (p:=⟨g,k*3+2,none⟩) (zq0 (by simp[Value.ownBlock])) _;obtain⟨qb,x8⟩:=kE.newRowA (ap':=bP iU f.ap (k+1)) (by rw[jL,show({ f with ow:=mh f.ow,ap:=bP iU f.ap k }:CF).ap.length=f.ap.length from fy]) (by rw[show({ f with ow:=mh f.ow,ap:=bP iU f.ap k }:CF).ap.length=f.ap.length from fy];exact s2) gQ;obtain⟨q0,q1,q2⟩:=aD (ej (fy ▸ xZ:W1.ownsRow 0 182 3 (.slice (some ⟨g,0,none⟩) (bP iU f.ap k).length ac) (bP iU f.ap k).length (af (bP iU f.ap k))) (zq5 _)) (i:=k) (by omega);have f1:=xZ.frozenAt (k*3+1);have f2:=s1.frozenAt (k*3+2);have y2:(W1.setCell ⟨g,k*3+1,none⟩ (.int .i64 (p.r:Int))).cell? ⟨g,k*3+2,none⟩=some (.int .i64 (p.r:Int)):=by
     rw[cell?_setCell_other _ _ _ _ (by simp),q2,hmg]
    have y5:(W1.setCell ⟨g,k*3+1,none⟩ (.int .i64 (p.r:Int))).cell? ⟨A,5,none⟩=some (.slice (some ⟨g,0,none⟩) f.ap.length ac):=by
     rw[cell?_setCell_other _ _ _ _ (by simp only[ne_eq,Addr.mk.injEq,not_and];intro e;exact absurd e hgA)];exact e5
    have yb:(W1.setCell ⟨g,k*3+1,none⟩ (.int .i64 (p.r:Int))).cell? ⟨X,1,none⟩=some (.int .i64 (p.l:Int)):=by
     rw[cell?_setCell_other _ _ _ _ (by simp only[ne_eq,Addr.mk.injEq,not_and];intro e;exact absurd e hgX)];exact b1
    have HN:Hid (Fm ((W1.setCell ⟨g,k*3+1,none⟩ (.int .i64 (p.r:Int))).setCell ⟨g,k*3+2,none⟩ (.int .i64 (p.l:Int))) A { f with ow:=mh f.ow,ap:=bP iU f.ap (k+1) } (.slice (some ⟨g,0,none⟩) f.ap.length ac) (.slice a1 n1 k1)/\au (aH A (.slice (some ⟨g,0,none⟩) f.ap.length ac) (.slice oa f.ow.length oc)) w (aH A (.slice (some ⟨g,0,none⟩) f.ap.length ac) (.slice a1 n1 k1)) ((W1.setCell ⟨g,k*3+1,none⟩ (.int .i64 (p.r:Int))).setCell ⟨g,k*3+2,none⟩ (.int .i64 (p.l:Int)))):=ab ⟨qb,bX.trans x8⟩;rw[hmg]at q0 q1 q2;clear s1 s2 afH gQ qb x8 bE vB hmg hms hse hp cf hX kE bX xZ fy hI hgA hgX;go_upto_region 5 with fail;rw[<-dV,<-gV];clear dV gV;go_wp2_with fail
    go_region
    go_wp2_with fail
    go_region
    go_wp2_with fail
    go_roundw
    case rel=>exact⟨k+1,by omega,by go_num,ab ⟨(uh HN).1.of_eq (λ_ _=>rfl),(uh HN).2.drew.drew⟩⟩
    case measure=>simp[intOf];omega
   .have d1:decide ((p.r:Int)<(p.l:Int))=false:=(by simp;omega);have HN:Hid (Fm W1 A { f with ow:=mh f.ow,ap:=bP iU f.ap (k+1) } (.slice (some ⟨g,0,none⟩) f.ap.length ac) (.slice a1 n1 k1)/\au (aH A (.slice (some ⟨g,0,none⟩) f.ap.length ac) (.slice oa f.ow.length oc)) w (aH A (.slice (some ⟨g,0,none⟩) f.ap.length ac) (.slice a1 n1 k1)) W1):=ab ⟨by rw[hse (by unfold iU;rw[if_neg hsw])];exact kE,bX⟩;clear bE vB hmg hms hse hp cf hX kE bX xZ fy hI hgA hgX;go_upto_region 5 with fail;rw[<-dV,<-gV];clear dV gV;go_wp2_with fail
    go_roundw
    case rel=>exact⟨k+1,by omega,by go_num,HN⟩
    case measure=>simp[intOf];omega
  .have hd:decide ((k:Int)<(f.ap.length:Int))=false:=(by simp;omega);have kk:bP iU f.ap k=f.ap.map iU:=vQ (by omega);rw[kk]at hI;have bE:wr.ownsRow 0 182 3 (.slice aa f.ap.length ac) (f.ap.map iU).length (af (f.ap.map iU)):=(uh hI).1.is.ap;have GP:=ab (wA bE (by simpa using ha));clear kk bE fy;go_wp2_with fail
   refine(uh GP).mono ?_;rintro e w5 ⟨v5,rfl,Ad,dT⟩;obtain⟨a5,k5,rfl⟩:=bJ Ad;have qC:au (Value.slice aa f.ap.length ac).ownBlock.toList wr (Value.slice a5 (mh (f.ap.map iU)).length k5).ownBlock.toList w5:=(au.ofBw (F:=(Value.slice aa f.ap.length ac).ownBlock.toList) dT).foots (λj hj=>zq1 (Ad.lt j (by simpa using hj)).1);obtain⟨CE,Af⟩:=(uh hI).1.newAv (ap':=mh (f.ap.map iU)) qC (v':=.slice a5 (mh (f.ap.map iU)).length k5) (λj hj=>by simpa using hj) (ej Ad (zq5 _));have Kl:=(uh hI).1.below dT;have d5:=Kl.is.c5;have f5:=ownsRow.frozenAt Kl.is.ob 5;have HN:=ab (zq2 CE ((uh hI).2.trans Af));clear Ad dT qC CE Af Kl GP c5;go_wp2_with fail
   go_end0
   exact⟨rfl,_,_,(uh HN).1,(uh HN).2⟩
theorem lD(h:Fm w A f av ov)(hO:aq f)(ha:f.ap.length<=100000):Calls prog 171 #[.pointer (some ⟨A,0,none⟩)] w λe w'=>e=.returned (.tuple #[])/\∃av' ov',Fm w' A (aZ f) av' ov'/\au (aH A av ov) w (aH A av' ov') w':=by
 have iE:=hO.owLen;have LJ:=ab (Fa h ⟨hO.cl,hO.ow,hO.ap⟩ ha (by omega));have HO:=ab hO;clear h hO;go_enter func171,ntmps171;go_wp2_with fail
 refine(uh LJ).mono ?_;rintro e w1 ⟨rfl,av1,h1,s1⟩;have xB:(dm f).ap.length<=100000:=zq3 (length_filter_le _ _) ha;have HRN:=ab (Be h1 (uh HO).fg (λp hp=>gF hp) xB);have cD:=ab s1;clear h1 s1 LJ;go_wp2_with fail
 refine(uh HRN).mono ?_;rintro e w2 ⟨rfl,h2,s2⟩;have Mv:=ab (Lc h2 (by simpa[qg] using xB) (by
  show((dm f).ow.map _).length<=100000;rw[length_map];exact zq3 iE (by omega)))
 have cS:=ab ((uh cD).trans s2);clear h2 s2 HRN;go_wp2_with fail
 refine(uh Mv).mono ?_;rintro e w3 ⟨rfl,av3,ov3,h3,s3⟩;have HN:=ab (zq2 h3 ((uh cS).trans s3));clear h3 s3 Mv;go_wp2_with fail
 go_end0
 exact⟨rfl,_,_,(uh HN).1,(uh HN).2⟩
end
theorem fB.me{bl:List Bool}{s:List Nat}(h:fB bl s){c:Nat}(hc:c<24):fB (bl.set c true) (iT s c):=(h.add hc).congr (λd=>by
 unfold iT;split
 .rename_i hm;rw[mem_cons];exact⟨λh=>by rcases h with rfl|h;exact hm;exact h,zq1⟩
 .rw[mem_cons,mem_append,mem_singleton];exact⟨λh=>h.elim zq1 zq0,λh=>h.elim zq1 zq0⟩)
theorem fB.eq{bl:List Bool}{s:List Nat}(h:fB bl s):bl=(range 24).map (λc=>decide (c∈s)):=by
 refine ext_getElem (by rw[h.1];simp) (λj h1 h2=>?_);have hj:j<24:=by have:=h.1;omega
 have:=h.2 j hj;rw[getD_eq_getElem?_getD,getElem?_eq_getElem h1]at this;simp only[Option.getD_some]at this;rw[getElem_map,getElem_range];cases hb:bl[j] with
 |true=>rw[hb]at this;simp[this.1 rfl]
 |false=>rw[hb]at this;simp;intro hm;exact absurd (this.2 hm) (by simp)
theorem AZ(l:List Pr):∀{s:List Nat},s.length<=(l.foldl mH s).length:=by
 induction l with
 |nil=>intro s;exact zq4 _
 |cons p r ih=>intro s;exact zq3 (Ba s p) ih
theorem A9:∀(l:List Pr) (s:List Nat),∃t,l.foldl mH s=s++t
 |[],s=>⟨[],by simp⟩
 |p::r,s=>by
  obtain⟨t,ht⟩:=A9 r (mH s p);rw[foldl_cons,ht];unfold mH;split
  .exact⟨[p.r]++t,by rw[append_assoc]⟩
  .exact⟨t,rfl⟩
theorem Rt:(dd (replicate 24 false)).toArray=(replicate 24 (Value.bool false)).toArray:=rfl
theorem infoB24:(prog.info? 240).map (·.size)=some 24:=by kernel_rfl
section
variable {w:World} {A:Nat} {f:CF} {av ov:Value}
theorem nG(h:ew w A f av ov)(hO:aq f):Calls prog 227 #[.pointer (some ⟨A,0,none⟩)] w λe w'=>e=.returned (.agg (dd (Ev f)).toArray)/\Below w.heap.size w w':=by
 obtain⟨oa,oc,gj,-,-⟩:=aj h.ow;subst gj;have iE:=hO.owLen;obtain⟨w0,mt⟩:∃w0,w0=(w.alloc (.cells (replicate 24 (Value.bool false)).toArray 240)).alloc (.cells (replicate 24 (Value.bool false)).toArray 240):=⟨_,rfl⟩;have tq:Below w.heap.size w w0:=by rw[mt];exact(ah w _).alloc (ah w _).size _
 have RL:Ob w0 240 24 w.heap.size (dd (replicate 24 false)):=by rw[mt,<-Rt];exact(zP w).alloc _
 have TJ:Ob w0 240 24 (w.heap.size+1) (dd (replicate 24 false)):=by
  rw[mt,<-Rt];have:=zP (w.alloc (.cells (dd (replicate 24 false)).toArray 240));simpa using this
 obtain⟨R,hR⟩:∃R,R=w.heap.size:=⟨_,rfl⟩;obtain⟨D,hD⟩:∃D,D=R+1:=⟨_,rfl⟩;rw[<-hR,<-hD]at TJ;rw[<-hR]at RL;have H:=ab h;have HO:=ab hO;have HR:=ab hR;have HD:=ab hD;have cG:Hid (Ob w0 240 24 D (dd (replicate 24 false))/\fB (replicate 24 false) (([f.cl.getD 1 0,f.cl.getD 2 0,f.cl.getD 3 0,f.cl.getD 4 0].take 0).foldl iT [])/\Ob w0 240 24 R (dd (replicate 24 false))/\Below w.heap.size w w0):=ab ⟨TJ,Cu,RL,tq⟩;clear h hO tq RL TJ;simp only[replicate]at mt;go_enter func227,ntmps227;go_upto_region 2 with fail;rw[<-mt,<-hR,<-hD];clear mt hR hD;go_wp2_with fail
 go_loopw [4] (λi wx=>∃(k:Nat) (bl:List Bool),k<=4/\i=.int .i64 ((k:Int)+1)/\Hid (Ob wx 240 24 D (dd bl)/\fB bl (([f.cl.getD 1 0,f.cl.getD 2 0,f.cl.getD 3 0,f.cl.getD 4 0].take k).foldl iT [])/\Ob wx 240 24 R (dd (replicate 24 false))/\Below w.heap.size w wx)) (λi _=>5-(intOf i).toNat)
 case atStart=>exact⟨0,_,zq5 _,rfl,cG⟩
 case round =>
  clear cG;obtain⟨k,bl,hk,rfl,hI⟩:=hrel;have hDR:D≠R:=by have:=uh HD;omega
  by_cases ar:k<4
  .have hd:decide ((k:Int)+1<(5:Int))=true:=(by simp;omega);have hF:=(uh H).below (uh hI).2.2.2;have x:=hF.cls (i:=k+1) (by omega);unfold gZ at x;have aV:([f.cl.getD 1 0,f.cl.getD 2 0,f.cl.getD 3 0,f.cl.getD 4 0].take (k+1)).foldl iT []=iT (([f.cl.getD 1 0,f.cl.getD 2 0,f.cl.getD 3 0,f.cl.getD 4 0].take k).foldl iT []) (f.cl.getD (k+1) 0):=by
    have:k=0\/k=1\/k=2\/k=3:=(by omega);rcases this with rfl|rfl|rfl|rfl <;> rfl
   have hc:=(uh HO).get (k+1);obtain⟨c,hce⟩:∃c,c=f.cl.getD (k+1) 0:=⟨_,rfl⟩;rw[<-hce]at x aV hc;obtain⟨⟨u,hu⟩,hz⟩:=(uh hI).1.some (j:=c) hc;have o1:=(uh hI).1.stored c (.bool true);rw[lT]at o1;have cN:w.heap.size<=D:=(by have:=uh HD;have:=uh HR;omega);have HN:Hid (Ob (wr.setCell ⟨D,c,none⟩ (.bool true)) 240 24 D (dd (bl.set c true))/\fB (bl.set c true) (([f.cl.getD 1 0,f.cl.getD 2 0,f.cl.getD 3 0,f.cl.getD 4 0].take (k+1)).foldl iT [])/\Ob (wr.setCell ⟨D,c,none⟩ (.bool true)) 240 24 R (dd (replicate 24 false))/\Below w.heap.size w (wr.setCell ⟨D,c,none⟩ (.bool true))):=ab ⟨o1,by rw[aV];exact(uh hI).2.1.me hc,(uh hI).2.2.1.of_eq (heap_setCell _ _ _ _ (λe=>hDR e.symm)),(uh hI).2.2.2.setCell (p:=⟨D,c,none⟩) cN _⟩;have i1:(0:Int)<=(k:Int)+1:=(by omega);have i2:(k:Int)+1<(5:Int):=(by omega);have i3:(c:Int)<(24:Int):=(by omega);have i4:((k:Int)+1).toNat=k+1:=(by omega);clear hF aV hce o1 hI cN;go_wp2_with fail
   go_roundw
   case rel=>exact⟨k+1,_,by omega,by go_num,HN⟩
   case measure=>simp[intOf];omega
  .have hd:decide ((k:Int)+1<(5:Int))=false:=(by simp;omega);have xy:k=4:=(by omega);subst xy;have r8:([f.cl.getD 1 0,f.cl.getD 2 0,f.cl.getD 3 0,f.cl.getD 4 0].take 4).foldl iT []=R6 f:=rfl;rw[r8]at hI;have fs:Hid (Ob wr 240 24 D (dd bl)/\fB bl (R6 f)/\d9 (R6 f)/\Ob wr 240 24 R (dd (replicate 24 false))/\Below w.heap.size w wr/\Lm f 25 (R6 f)=pw f):=ab ⟨(uh hI).1,(uh hI).2.1,abE (uh HO).cl,(uh hI).2.2.1,(uh hI).2.2.2,rfl⟩;clear r8 hI;rw[show((4:Nat):Int)+1=(5:Int) from rfl];have cN:w.heap.size<=D:=(by have:=uh HD;have:=uh HR;omega);go_wp2_with fail
   go_loopg [5] (26-(R6 f).length) (λgn gv wx=>∃(s:List Nat) (bl:List Bool) (n:Nat) (gr:Bool),gv=.bool gr/\gn=(if gr=true then 26-s.length else 0)/\s.length<=24/\Hid (Ob wx 240 24 D (dd bl)/\fB bl s/\d9 s/\Ob wx 240 24 R (dd (replicate 24 false))/\Below w.heap.size w wx/\(gr=true->Lm f n s=pw f/\24<n+s.length)/\(gr=false->s=pw f)))
   case atStart=>exact⟨R6 f,bl,25,true,rfl,rfl,(uh fs).2.2.1.len,ab ⟨(uh fs).1,(uh fs).2.1,(uh fs).2.2.1,(uh fs).2.2.2.1,(uh fs).2.2.2.2.1,λ_=>⟨rfl,by omega⟩,λh=>by cases h⟩⟩
   case round =>
    clear fs;obtain⟨s,bl,n,gr,rfl,hgn,KR,hI⟩:=hrel;obtain⟨G,hG⟩:∃G,G=gk:=⟨_,rfl⟩;cases gr with
    |false =>
     have agJ:=(uh hI).2.2.2.2.2.2 rfl;have cH:dd bl=dd (Ev f):=(by rw[(uh hI).2.1.eq,agJ];rfl);obtain⟨M,hM⟩:∃M,M=dd (Ev f):=⟨_,rfl⟩;have fy:M.length=24:=(by rw[hM];simp[dd,Ev]);have Od:Ob wr 240 24 D M:=(by rw[hM,<-cH];exact(uh hI).1);have sL:=(uh hI).2.2.2.1;have hRg:wr.rangeAt D 0 M:=by
      intro j v hj;have f7:=(List.getElem?_eq_some_iff.1 hj).1;rw[Nat.zero_add,ownsRow.cellAt Od j (by omega)];exact hj
     have BM:wr.there R 0 M.toArray.size:=by
      intro j hj;rw[size_toArray,fy]at hj;obtain⟨⟨u,hu⟩,hz⟩:=sL.some (j:=j) hj;rw[Nat.zero_add];exact⟨by rw[hu];rfl,hz⟩
     have dN:(prog.info? 240).map (·.size)=some M.length:=(by rw[fy];exact infoB24);have cg:(prog.info? 240).map (·.size)=some M.toArray.size:=(by rw[size_toArray,fy];exact infoB24);have CG:M.toArray.all (·.oneCell')=true:=all_oneCell_toArray (by
      intro v hv;rw[hM]at hv;obtain⟨o,_,rfl⟩:=mem_map.1 hv;rfl)
     have vi:=Ob.setCells M 0 sL;have aaB:=nI M [] (dd (replicate 24 false)) [] (by rw[fy];rfl);simp only[nil_append,append_nil,length_nil]at aaB;rw[aaB]at vi;have ZH:w.heap.size<=R:=(by have:=uh HR;omega);have Oc:∀(vs:List Value) (o:Nat) (x:World),Below w.heap.size w x->Below w.heap.size w (x.setCells R o vs):=by
      intro vs;induction vs with
      |nil=>intro o x h;exact h
      |cons v r ih=>intro o x h;exact ih (o+1) _ (h.setCell ZH v)
     have lH:=ab (Oc M 0 wr (uh hI).2.2.2.2.1);have HM:=ab hM;have HML:=ab fy;have HRg:=ab hRg;have B7:=ab BM;have fs:=ab dN;have d7:=ab cg;have RE:=ab CG;have JL:=ab vi;clear hRg BM dN cg CG vi aaB Oc hM fy Od sL cH agJ hI hgn;go_wp2_with (first|refine wpList_load_mid rfl 240 (.tmp 3) rfl D 0 rfl M _ (uh HRg) underlying240 rfl (uh fs) ?_|refine wpList_store_mid rfl 240 (.tmp 2) (.tmp 44) rfl R 0 M.toArray rfl rfl (uh B7) (uh d7) (uh RE) ?_)
     have aaz:(wr.setCells R 0 M).rangeAt R 0 M:=by
      intro j v hj;have f7:=(List.getElem?_eq_some_iff.1 hj).1;rw[uh HML]at f7;rw[Nat.zero_add,ownsRow.cellAt (uh JL) j (by omega)];exact hj
     have hld:=run_loadVar_mid (P:=prog) (wr.setCells R 0 M) R 0 240 M _ aaz underlying240 rfl (uh fs);refine bodyPost_ret (v:=.agg M.toArray) ?_ rfl ⟨by rw[uh HM],uh lH⟩;simp[results,Tryz.results227,Act.put,asAddr,hld]
    |true =>
     have ary:gk=26-s.length:=hgn;obtain⟨hrc,agk⟩:=(uh hI).2.2.2.2.2.1 rfl;have HRC:=ab hrc;have hF:=(uh H).below (uh hI).2.2.2.2.1;have c6:=hF.c6;have d7:Hid (Ob wr 240 24 D (dd bl)/\fB bl ((f.ow.take 0).foldl mH s)/\Ob wr 240 24 R (dd (replicate 24 false))/\Below w.heap.size w wr):=ab ⟨(uh hI).1,(uh hI).2.1,(uh hI).2.2.2.1,(uh hI).2.2.2.2.1⟩;have HMS:=ab (uh hI).2.2.1;clear hgn hrc hF hI;go_wp2_with fail
     go_loopg [5,25] f.ow.length (λgn gv i wx=>∃(j:Nat) (bl:List Bool),j+gn=f.ow.length/\i=.int .i64 j/\gv=.bool (decide (((f.ow.take j).foldl mH s).length≠s.length))/\Hid (Ob wx 240 24 D (dd bl)/\fB bl ((f.ow.take j).foldl mH s)/\Ob wx 240 24 R (dd (replicate 24 false))/\Below w.heap.size w wx))
     case atStart=>exact⟨0,bl,by omega,rfl,by simp,d7⟩
     case round =>
      clear d7 c6;obtain⟨j,bl,BO,rfl,rfl,hJ⟩:=hrel;obtain⟨G2,Fi⟩:∃G2,G2=gk:=⟨_,rfl⟩;have hF:=(uh H).below (uh hJ).2.2.2;have hDR:D≠R:=(by have:=uh HD;omega);obtain⟨m,hm⟩:∃m,m=(f.ow.take j).foldl mH s:=⟨_,rfl⟩;have l6:s.length<=m.length:=(by rw[hm];exact AZ _);by_cases ar:j<f.ow.length
      .have hd:decide ((j:Int)<(f.ow.length:Int))=true:=(by simp;omega);obtain⟨g,cap,dQ,-,-⟩:=aE hF.ow ar;simp only[Value.slice.injEq,true_and]at dQ;obtain⟨rfl,rfl⟩:=dQ;obtain⟨x0,x1,x2⟩:=aD hF.ow ar;obtain⟨mK,xC⟩:=(uh HO).ow _ (bG ar);have qd:=jE (g:=mH) (a:=s) ar;obtain⟨p,hp⟩:∃p,p=f.ow.getD j ax:=⟨_,rfl⟩;rw[<-hp]at x0 x1 x2 mK xC qd;rw[<-hm]at hJ qd ⊢;obtain⟨gr,T8⟩:∃gr,gr=decide (m.length≠s.length):=⟨_,rfl⟩;rw[<-T8];have HGR:=ab T8;obtain⟨W1,dV⟩:∃W1,W1=wr.alloc (.cells #[Value.int .i64 p.k,.int .i64 p.l,.int .i64 p.r] 182):=⟨_,rfl⟩;have cf:Below wr.heap.size wr W1:=(by rw[dV];exact ah wr _);have hX:Bk W1 wr.heap.size 182 [Value.int .i64 p.k,.int .i64 p.l,.int .i64 p.r]:=(by rw[dV];exact Bk.new wr _ _);have b1:=hX.cell 1 rfl;have b2:=hX.cell 2 rfl;have oD:Ob W1 240 24 D (dd bl):=(uh hJ).1.of_eq (cf.block D (ownsRow.lt (uh hJ).1 D rfl).2);have oR:Ob W1 240 24 R (dd (replicate 24 false)):=(uh hJ).2.2.1.of_eq (cf.block R (ownsRow.lt (uh hJ).2.2.1 R rfl).2);have bH:=(uh hJ).2.2.2.trans (cf.mono (uh hJ).2.2.2.size);have LZ:=(uh hJ).2.1;have d1:=(ownsRow.cellAt oD p.l (by omega)).trans (fG (by rw[LZ.1];exact mK));have d2:=(ownsRow.cellAt oD p.r (by omega)).trans (fG (by rw[LZ.1];exact xC));have fz:=ownsRow.frozenAt oD p.r;have e1:bl.getD p.l false=decide (p.l∈m):=(by have:=LZ.2 p.l mK;cases hb:bl.getD p.l false <;> simp_all);have e2:bl.getD p.r false=decide (p.r∈m):=(by have:=LZ.2 p.r xC;cases hb:bl.getD p.r false <;> simp_all);rw[e1]at d1;rw[e2]at d2;have o1:=oD.stored p.r (.bool true);rw[lT]at o1;have i1:(0:Int)<=(j:Int):=(by omega);have i2:(j:Int)<(f.ow.length:Int):=(by omega);have i3:(p.l:Int)<(24:Int):=(by omega);have i4:(p.r:Int)<(24:Int):=(by omega);obtain⟨X,gV⟩:∃X,X=wr.heap.size:=⟨_,rfl⟩;rw[<-gV]at b1 b2;have LK:=ab qd;have HNo:Hid (mH m p=m->Ob W1 240 24 D (dd bl)/\fB bl ((f.ow.take (j+1)).foldl mH s)/\Ob W1 240 24 R (dd (replicate 24 false))/\Below w.heap.size w W1):=ab (λe=>⟨oD,by rw[qd,e];exact LZ,oR,bH⟩);have aj3:Hid (mH m p=m++[p.r]->Ob (W1.setCell ⟨D,p.r,none⟩ (.bool true)) 240 24 D (dd (bl.set p.r true))/\fB (bl.set p.r true) ((f.ow.take (j+1)).foldl mH s)/\Ob (W1.setCell ⟨D,p.r,none⟩ (.bool true)) 240 24 R (dd (replicate 24 false))/\Below w.heap.size w (W1.setCell ⟨D,p.r,none⟩ (.bool true))):=ab (λe=>⟨o1,by
        rw[qd,e];exact(LZ.add xC).congr (λd=>by simp only[mem_cons,mem_append,not_mem_nil,or_false];exact⟨λh=>h.elim zq1 zq0,λh=>h.elim zq1 zq0⟩),oR.of_eq (heap_setCell _ _ _ _ (λe=>hDR e.symm)),bH.setCell (p:=⟨D,p.r,none⟩) cN _⟩)
       clear cf hX oD oR bH LZ e1 e2 o1 qd hp hm hF hJ T8;by_cases q1:p.l∈m
       .rw[show decide (p.l∈m)=true by simpa using q1]at d1;by_cases q2:p.r∈m
        .rw[show decide (p.r∈m)=true by simpa using q2]at d2;have HE:Hid (mH m p=m):=ab (by unfold mH;rw[if_neg (by rintro⟨-,h⟩;exact h q2)]);clear q1 q2;go_upto_region 12 with fail;rw[<-dV,<-gV];clear dV gV;go_wp2_with fail
         go_roundg (G2-1)
         case rel=>exact⟨j+1,bl,by omega,by go_num,by rw[uh LK,uh HE,<-uh HGR],ab (uh HNo (uh HE))⟩
         case measure=>omega
        .rw[show decide (p.r∈m)=false by simpa using q2]at d2;have HE:Hid (mH m p=m++[p.r]):=ab (by unfold mH;rw[if_pos ⟨q1,q2⟩]);clear q1 q2;go_upto_region 12 with fail;rw[<-dV,<-gV];clear dV gV;go_wp2_with fail
         go_roundg (G2-1)
         case rel=>exact⟨j+1,_,by omega,by go_num,by
          rw[uh LK,uh HE,length_append,length_singleton];rw[show decide (m.length+1≠s.length)=true by simp;omega],ab (uh aj3 (uh HE))⟩
         case measure=>omega
       .rw[show decide (p.l∈m)=false by simpa using q1]at d1;have HE:Hid (mH m p=m):=ab (by unfold mH;rw[if_neg (by rintro⟨h,-⟩;exact q1 h)]);clear q1;go_upto_region 12 with fail;rw[<-dV,<-gV];clear dV gV;go_wp2_with fail
        go_roundg (G2-1)
        case rel=>exact⟨j+1,bl,by omega,by go_num,by rw[uh LK,uh HE,<-uh HGR],ab (uh HNo (uh HE))⟩
        case measure=>omega
      .have hd:decide ((j:Int)<(f.ow.length:Int))=false:=(by simp;omega);have KQ:(f.ow.take j).foldl mH s=wm f s:=(by rw[take_of_length_le (by omega)];rfl);rw[KQ]at hJ ⊢;obtain⟨n',rfl⟩:∃n',n=n'+1:=⟨n-1,by omega⟩;have hrn:Lm f (n'+1) s=if (wm f s).length=s.length then s else Lm f n' (wm f s):=rfl
       have bD:=(Gn f.ow (uh HMS) (λp hp=>((uh HO).ow p hp).2)).1;have Ui:d9 (wm f s):=bD;have tX:=Ui.len;have agd:s.length<=(wm f s).length:=AZ _;have HJ:Hid (Ob wr 240 24 D (dd bl)/\fB bl (wm f s)/\d9 (wm f s)/\Ob wr 240 24 R (dd (replicate 24 false))/\Below w.heap.size w wr):=ab ⟨(uh hJ).1,(uh hJ).2.1,Ui,(uh hJ).2.2.1,(uh hJ).2.2.2⟩;by_cases pK:(wm f s).length=s.length
       .have sS:wm f s=s:=by
         obtain⟨t,ht⟩:=A9 f.ow s;have h1:wm f s=s++t:=ht;have h2:=congrArg List.length h1;rw[length_append]at h2;have:t=[]:=length_eq_zero_iff.1 (by omega);rw[h1,this,append_nil]
        have HE:Hid (wm f s=pw f):=ab (by
         have h1:=uh HRC;rw[hrn,if_pos pK]at h1;rw[sS];exact h1)
        rw[show decide ((wm f s).length≠s.length)=false by simp[pK]];clear sS pK KQ hrn bD Ui hJ agd tX;go_wp2_with fail
        go_roundg 0
        case rel=>exact⟨wm f s,bl,0,false,rfl,rfl,(uh HJ).2.2.1.len,ab ⟨(uh HJ).1,(uh HJ).2.1,(uh HJ).2.2.1,(uh HJ).2.2.2.1,(uh HJ).2.2.2.2,(λh=>by cases h),λ_=>uh HE⟩⟩
        case measure=>omega
       .have HE:Hid (Lm f n' (wm f s)=pw f/\24<n'+(wm f s).length):=ab ⟨by
         have h1:=uh HRC;rw[hrn,if_neg pK]at h1;exact h1,by omega⟩
        rw[show decide ((wm f s).length≠s.length)=true by simp[pK]];have cd:26-(wm f s).length<G:=(by omega);clear pK KQ hrn bD Ui hJ agd;go_wp2_with fail
        go_roundg (26-(wm f s).length)
        case rel=>exact⟨wm f s,bl,n',true,rfl,rfl,(uh HJ).2.2.1.len,ab ⟨(uh HJ).1,(uh HJ).2.1,(uh HJ).2.2.1,(uh HJ).2.2.2.1,(uh HJ).2.2.2.2,(λ_=>uh HE),λh=>by cases h⟩⟩
        case measure=>omega
end
