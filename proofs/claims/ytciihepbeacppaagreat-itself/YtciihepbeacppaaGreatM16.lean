import Derived.Test.YtciihepbeacppaaGreatM15
import Derived.Deep.RegionHeld3
set_option maxRecDepth 100000
set_option maxHeartbeats 0
namespace Go.Proofs.YtciihepbeacppaaGreat
open Tryz Go.RowKit List World Below
set_option linter.unusedVariables false
theorem Cx{w:World}{B e sz n k cap:Nat}{a:Option Addr}{xs:List Value}(h:w.ownsRow B e sz (.slice a n cap) n xs)(hk:k<=n):w.ownsRow B e sz (.slice a k cap) k (xs.take (k*sz)):=by
 have hl:=h.1;have hks:k*sz<=n*sz:=Nat.mul_le_mul_right _ hk;rcases h.2 with⟨h',hn⟩|⟨g',cap',cur,h',hb,hg,KX,kj,uc,Ov⟩
 .simp only[Value.slice.injEq]at h';obtain⟨rfl,h2,rfl⟩:=h';have oq:n=0:=by omega
  have hk0:k=0:=by omega
  subst oq;subst hk0;refine⟨by simp,.inl ⟨rfl,?_⟩⟩;simp
 .simp only[Value.slice.injEq]at h';obtain⟨rfl,-,rfl⟩:=h';refine⟨by rw[length_take];omega,.inr ⟨g',cap,cur,rfl,hb,hg,by omega,kj,uc,?_⟩⟩;rw[<-Ov,take_take,Nat.min_eq_left (by omega)]
theorem pR:∀(l:List Pr) (k:Nat),(af l).take (k*3)=af (l.take k)
 |[],k=>by simp[af]
 |p::l,0=>by simp[af]
 |p::l,k+1=>by
  have h1:=pR l k;have hx:∀(y:Pr) (m:List Pr),af (y::m)=[Value.int .i64 y.k,.int .i64 y.l,.int .i64 y.r]++af m:=λy m=>rfl;rw[take_succ_cons,hx,hx,<-h1,take_append];simp only[length_cons,length_nil];rw[take_of_length_le (by simp;omega),show(k+1)*3-(0+1+1+1)=k*3 by omega]
theorem CB{l:List Pr}{i:Nat}(hi:i<l.length)(p:Pr):(((af l).set (i*3) (.int .i64 (p.k:Int))).set (i*3+1) (.int .i64 (p.l:Int))).set (i*3+2) (.int .i64 (p.r:Int))=af (l.set i p):=by
 have g1:(l.set i ⟨p.k,(l.getD i au).l,(l.getD i au).r⟩).getD i au=⟨p.k,(l.getD i au).l,(l.getD i au).r⟩:=by
  rw[getD_eq_getElem?_getD,getElem?_set_self hi];rfl
 have g2:((l.set i ⟨p.k,(l.getD i au).l,(l.getD i au).r⟩).set i ⟨p.k,p.l,(l.getD i au).r⟩).getD i au=⟨p.k,p.l,(l.getD i au).r⟩:=by
  rw[getD_eq_getElem?_getD,getElem?_set_self (by simpa using hi)];rfl
 rw[il hi,im (by simpa using hi),g1,dB (by simpa using hi),g2,set_set,set_set]
def vx(L:List Pr)(x:Pr)(j:Nat):List Pr:=L.take j++x::L.drop j
theorem sD{L:List Pr}{x:Pr}{j:Nat}(hj:j<=L.length):(vx L x j).length=L.length+1:=by unfold vx;simp;omega
theorem RX{L:List Pr}{x:Pr}{j i:Nat}(hj:j<=L.length)(hi:i<j):(vx L x j).getD i au=L.getD i au:=by
 unfold vx;rw[getD_eq_getElem?_getD,getElem?_append_left (by simp;omega),getElem?_take,if_pos hi,<-getD_eq_getElem?_getD]
theorem yo{L:List Pr}{x y:Pr}{j:Nat}(hj:j<=L.length):(vx L x j).set j y=vx L y j:=by
 unfold vx;have e:(L.take j).length=j:=by simp;omega
 rw[set_append_right _ _ (by omega),e,Nat.sub_self,set_cons_zero]
theorem LK{L:List Pr}{j:Nat}(hj:j<L.length):vx L (L.getD j au) (j+1)=vx L (L.getD j au) j:=by
 unfold vx;rw[bK hj,take_add_one,getElem?_eq_getElem hj,drop_eq_getElem_cons hj,append_assoc];rfl
theorem Mn:∀(l:List Pr) {a:List Pr},a≠[]->l.foldl kE a≠[]
 |[],_,h=>h
 |p::r,a,h=>by
  rw[foldl_cons];refine Mn r ?_;unfold kE;split
  .simp
  .exact h
theorem Mp{l:List Pr}(h:l≠[]):l.foldl kE []≠[]:=by
 cases l with
 |nil=>exact absurd rfl h
 |cons p r =>
  rw[foldl_cons];refine Mn r ?_;unfold kE;simp
theorem Gf:∀(l:List Pr) {a:List Pr},(l.foldl kE a).length<=a.length+l.length
 |[],a=>by simp
 |p::r,a=>by
  rw[foldl_cons];have h1:=Gf r (a:=kE a p);have h2:(kE a p).length<=a.length+1:=by unfold kE;split <;> simp
  simp only[length_cons];omega
theorem Ik(p q:Pr):((p.k:Int)==(q.k:Int)&&((p.l:Int)==(q.l:Int)&&(p.r:Int)==(q.r:Int)))=CC p q:=by
 unfold CC;rw[bi,bi,bi,Bool.and_assoc]
theorem E4{W:World}{B g cap n i:Nat}{L:List Pr}(hr:W.ownsRow B 182 3 (.slice (some ⟨g,0,none⟩) n cap) n (af L))(hn:n=L.length)(hi:i<n)(p:Pr):
  (((W.setCell ⟨g,i*3,none⟩ (.int .i64 (p.k:Int))).setCell ⟨g,i*3+1,none⟩ (.int .i64 (p.l:Int))).setCell ⟨g,i*3+2,none⟩ (.int .i64 (p.r:Int))).ownsRow B 182 3 (.slice (some ⟨g,0,none⟩) n cap) n (af (L.set i p)) /\
  ((∃u,W.cell? ⟨g,i*3,none⟩=some u)/\(∃u,W.cell? ⟨g,i*3+1,none⟩=some u)/\∃u,W.cell? ⟨g,i*3+2,none⟩=some u) /\
  W.frozen? ⟨g,i*3,none⟩=false/\W.frozen? ⟨g,i*3+1,none⟩=false/\W.frozen? ⟨g,i*3+2,none⟩=false:=by
 subst hn;have r3:=(((hr.stored (i*3) (.int .i64 (p.k:Int))).1.stored (i*3+1) (.int .i64 (p.l:Int))).1.stored (i*3+2) (.int .i64 (p.r:Int))).1;rw[CB hi]at r3;obtain⟨x0,x1,x2⟩:=ax (dA hr (zq5 _)) hi;exact⟨r3,⟨⟨_,x0⟩,⟨_,x1⟩,⟨_,x2⟩⟩,hr.frozenAt _,hr.frozenAt _,hr.frozenAt _⟩
section
variable {w:World} {v:Value} {l:List Pr}
theorem uU(h:w.ownsRow 0 182 3 v l.length (af l))(hl:l.length<=100000):Calls prog 226 #[v] w λe w'=>∃v',e=.returned v'/\w'.ownsRow w.heap.size 182 3 v' (lK l).length (af (lK l))/\Below w.heap.size w w':=by
 obtain⟨i0,iL,eo,ep,eK⟩:=info_parts infoPair;obtain⟨va,vc,K1,OA,TL⟩:=aj h;subst K1;have H:=ab h;have ru:Hid ((w.alloc (.cells #[] 182)).ownsRow w.heap.size 182 3 (.slice (some ⟨w.heap.size,0,none⟩) 0 0) ((l.take 0).foldl eQ []).length (af ((l.take 0).foldl eQ []))/\Below w.heap.size w (w.alloc (.cells #[] 182))):=ab ⟨ownsRow_lit (base:=w.heap.size) (e:=182) (size:=3) w #[] 0 (zq4 _) (by simp[maxLen]) rfl,ah w _⟩;clear h;go_enter func226,ntmps226;go_wp2_with fail
 go_loopg [3,12] l.length (λgn rv i wx=>∃(k:Nat),k+gn=l.length/\i=.int .i64 k/\Hid (wx.ownsRow w.heap.size 182 3 rv ((l.take k).foldl eQ []).length (af ((l.take k).foldl eQ []))/\Below w.heap.size w wx))
 case atStart=>exact⟨0,by omega,rfl,ru⟩
 case round =>
  clear ru;obtain⟨k,eV,rfl,hI⟩:=hrel;obtain⟨G,hG⟩:∃G,G=gk:=⟨_,rfl⟩;obtain⟨ra,rc,KZ,-,-⟩:=aj (uh hI).1;subst KZ;have oj:=pE (l.take k) (a:=[]) List.Pairwise.nil;have cN:=oj.2.2;rw[length_take]at cN;simp only[length_nil,Nat.zero_add]at cN;by_cases aq:k<l.length
  .have hd:decide ((k:Int)<(l.length:Int))=true:=(by simp;omega);have hF:=dy (uh H) (uh hI).2;obtain⟨g,cap,cM,-,-⟩:=az hF aq;simp only[Value.slice.injEq,true_and]at cM;obtain⟨rfl,rfl⟩:=cM;obtain⟨x0,x1,x2⟩:=ax hF aq;have oT:=iG (g:=eQ) (a:=[]) aq;obtain⟨p,hp⟩:∃p,p=l.getD k au:=⟨_,rfl⟩;rw[<-hp]at x0 x1 x2 oT;obtain⟨L,hL⟩:∃L,L=(l.take k).foldl eQ []:=⟨_,rfl⟩;rw[<-hL]at hI oT cN ⊢;have YP:L.length=k:=(by omega);have iy:=ab ((uh hI).1.alloc (.cells #[.int .i64 (p.k:Int),.int .i64 (p.l:Int),.int .i64 (p.r:Int)] 182));have dm:=ab ((uh hI).2.alloc (uh hI).2.size (.cells #[.int .i64 (p.k:Int),.int .i64 (p.l:Int),.int .i64 (p.r:Int)] 182));have HBX:=ab (Bk.new wr 182 [.int .i64 (p.k:Int),.int .i64 (p.l:Int),.int .i64 (p.r:Int)]);have nD:=(uh hI).1.lt;have VF:=ab nD;have KG:=ab oT;have i1:(0:Int)<=(k:Int):=(by omega);have i2:(k:Int)<(l.length:Int):=(by omega);have hLb:L.length<=100000:=(by omega);have QM:=ab YP;have ko:=(uh hI).2.size;clear hp hF oT hL cN oj hI nD YP;go_wp2_with (at_builtin;refine aH _ rfl (.tmp 16) (.tmp 18) 177 rfl w.heap.size 182 i0 _ 3 24 underlying177 iL eo ep eK rfl (by decide) _ L.length (af L) rfl ((uh iy).alloc _) ⟨_,0,none⟩ 1 [.int .i64 (p.k:Int),.int .i64 (p.l:Int),.int .i64 (p.r:Int)] rfl rfl (aP _ _ (by simp) [.int .i64 (p.k:Int),.int .i64 (p.l:Int),.int .i64 (p.r:Int)] _) (pQ p) (by omega) (by omega) (by simp;omega) ?_)
   intro g4 cap4 w4 gM dM iJ;have mA:Below w.heap.size w w4:=by
    have hb:=(uh dm).alloc (uh dm).size (.cells #[.int .i64 (p.k:Int),.int .i64 (p.l:Int),.int .i64 (p.r:Int)] 182);exact hb.grown dM hb.size (λk hk=>((uh iy).lt k hk).1)
   obtain⟨X,hX⟩:∃X,X=wr.heap.size:=⟨_,rfl⟩;have Y1:Bk w4 X 182 [.int .i64 (p.k:Int),.int .i64 (p.l:Int),.int .i64 (p.r:Int)]:=by
    rw[hX];refine((uh HBX).alloc _).of_eq (dM.block _ (by simp;omega) (λe=>?_));have:=(uh VF _ e.symm).2;omega
   have hgX:g4≠X:=by
    rw[hX];rintro rfl;rcases iJ with e|e
    .have:=(uh VF _ e.symm).2;omega
    .omega
   have Cb:w4.ownsRow w.heap.size 182 3 (.slice (some ⟨g4,0,none⟩) (L.length+1) cap4) (L.length+1) (af (vx L p L.length)):=by
    have e:vx L p L.length=L++[p]:=(by unfold vx;rw[take_length,drop_length]);rw[e,cU];exact gM
   have dD:Hid (w4.ownsRow w.heap.size 182 3 (.slice (some ⟨g4,0,none⟩) (L.length+1) cap4) (L.length+1) (af (vx L p L.length))/\Bk w4 X 182 [.int .i64 (p.k:Int),.int .i64 (p.l:Int),.int .i64 (p.r:Int)]/\Below w.heap.size w w4):=ab ⟨Cb,Y1,mA⟩;have HGX:=ab hgX;have HX:=ab hX;rw[<-hX];clear gM dM iJ mA Y1 Cb hX x0 x1 x2 iy HBX hgX;go_wp2_with fail
   go_loopg [6] L.length (λgn i wx=>∃(x:Pr),gn<=L.length/\i=.int .i64 gn/\zY p L gn=zY p L L.length/\Hid (wx.ownsRow w.heap.size 182 3 (.slice (some ⟨g4,0,none⟩) (L.length+1) cap4) (L.length+1) (af (vx L x gn))/\Bk wx X 182 [.int .i64 (p.k:Int),.int .i64 (p.l:Int),.int .i64 (p.r:Int)]/\Below w.heap.size w wx))
   case atStart=>exact⟨p,zq4 _,by go_num,rfl,dD⟩
   case round =>
    clear dD;obtain⟨x,hj,rfl,EI,hJ⟩:=hrel;obtain⟨b0,b1,b2⟩:wr.cell? ⟨X,0,none⟩=some (.int .i64 (p.k:Int))/\wr.cell? ⟨X,1,none⟩=some (.int .i64 (p.l:Int))/\wr.cell? ⟨X,2,none⟩=some (.int .i64 (p.r:Int)):=⟨(uh hJ).2.1.cell 0 rfl,(uh hJ).2.1.cell 1 rfl,(uh hJ).2.1.cell 2 rfl⟩;cases gk with
    |zero =>
     have HWH:=ab EI;have HAL:=ab (sD (L:=L) (x:=x) hj);have d0:decide ((0:Int)<0)=false:=(by decide);clear EI;obtain⟨w5,ZX⟩:∃w5,w5=wr:=⟨_,rfl⟩;have io:Hid (Below wr.heap.size wr w5):=ab (by rw[ZX];exact Below.refl _ _);have cD:=uh io;have yW:=dy (uh hJ).1 cD;have KQ:=(uh hJ).2.1.below cD;obtain⟨r6,⟨⟨u0,y0⟩,⟨u1,y1⟩,⟨u2,y2⟩⟩,f0,f1,f2⟩:=E4 yW (uh HAL).symm (i:=0) (by omega) p;rw[yo hj]at r6;have cq:w.heap.size<=g4:=((uh hJ).1.lt g4 rfl).1;have ib:=((((uh hJ).2.2.trans (cD.mono (uh hJ).2.2.size)).setCell (p:=⟨g4,(0)*3,none⟩) cq (.int .i64 (p.k:Int))).setCell (p:=⟨g4,(0)*3+1,none⟩) cq (.int .i64 (p.l:Int))).setCell (p:=⟨g4,(0)*3+2,none⟩) cq (.int .i64 (p.r:Int));have z0:=KQ.cell 0 rfl;have z1:=KQ.cell 1 rfl;have z2:=KQ.cell 2 rfl;have HN:Hid (((((w5.setCell ⟨g4,(0)*3,none⟩ (.int .i64 (p.k:Int))).setCell ⟨g4,(0)*3+1,none⟩ (.int .i64 (p.l:Int))).setCell ⟨g4,(0)*3+2,none⟩ (.int .i64 (p.r:Int)))).ownsRow w.heap.size 182 3 (.slice (some ⟨g4,0,none⟩) (L.length+1) cap4) ((l.take (k+1)).foldl eQ []).length (af ((l.take (k+1)).foldl eQ []))/\Below w.heap.size w ((((w5.setCell ⟨g4,(0)*3,none⟩ (.int .i64 (p.k:Int))).setCell ⟨g4,(0)*3+1,none⟩ (.int .i64 (p.l:Int))).setCell ⟨g4,(0)*3+2,none⟩ (.int .i64 (p.r:Int))))):=ab ⟨by
      have e:(l.take (k+1)).foldl eQ []=vx L p (0):=(by rw[uh KG];unfold eQ vx;rw[<-uh HWH];rfl);rw[e,sD hj];exact r6,ib⟩
     have i5:(0:Int)<(L.length:Int)+1:=(by omega);clear cD yW KQ r6 ib cq io;subst ZX;go_wp2_with fail
     go_quiet (fail)
     go_wp2_with fail
     go_roundg (G-1)
     case rel=>exact⟨k+1,by omega,by go_num,ab ⟨(uh HN).1,⟨(uh HN).2.os,(uh HN).2.tape,(uh HN).2.output,(uh HN).2.size,(uh HN).2.block⟩⟩⟩
     case measure=>omega
    |succ m =>
     have hr:=(uh hJ).1;have jC:=sD (L:=L) (x:=x) hj;have JY:wr.ownsRow w.heap.size 182 3 (.slice (some ⟨g4,0,none⟩) (vx L x (m+1)).length cap4) (vx L x (m+1)).length (af (vx L x (m+1))):=(by rw[jC];exact hr);obtain⟨x0,x1,x2⟩:=ax (dA JY (zq5 _)) (i:=m) (by rw[jC];omega);rw[RX hj (by omega)]at x0 x1 x2;have hwm:zY p L (m+1)=if KL p (L.getD m au)=true then zY p L m else m+1:=rfl
     have hdn:=LK (L:=L) (j:=m) (by omega);have hpu:=yo (L:=L) (x:=x) (y:=L.getD m au) hj;obtain⟨q,hq⟩:∃q,q=L.getD m au:=⟨_,rfl⟩;rw[<-hq]at x0 x1 x2 hwm hdn hpu;have nO:Hid (∀W:World,Calls prog 249 #[.agg #[.int .i64 (p.k:Int),.int .i64 (p.l:Int),.int .i64 (p.r:Int)],.agg #[.int .i64 (q.k:Int),.int .i64 (q.l:Int),.int .i64 (q.r:Int)]] W λe w'=>e=.returned (.bool (KL p q))/\Below W.heap.size W w'):=ab (λW=>DR p q);have d0:decide ((0:Int)<(m:Int)+1)=true:=(by simp);have i3:(0:Int)<=(m:Int):=(by omega);have i4:(m:Int)<(L.length:Int)+1:=(by omega);have Rc:IntKind.i64.wrap (m:Int)=(m:Int):=(by rw[IntKind.wrap_i64];omega);have yL:=(uh hJ).2.1.lt;have k9:=((uh hJ).1.lt g4 rfl).2;have HWM:=ab hwm;have HDN:=ab hdn;have HPU:=ab hpu;have HAL:=ab jC;have HWH:=ab EI;clear hr JY jC hwm hdn hpu hq EI;cases Za:KL p q with
     |true =>
      rw[Za]at nO HWM;clear Za;go_wp2_with fail
      go_region_held3 (λW=>W.cell? ⟨X,0,none⟩=some (.int .i64 (p.k:Int))/\W.cell? ⟨X,1,none⟩=some (.int .i64 (p.l:Int))/\W.cell? ⟨X,2,none⟩=some (.int .i64 (p.r:Int))/\W.cell? ⟨g4,m*3,none⟩=some (.int .i64 (q.k:Int))/\W.cell? ⟨g4,m*3+1,none⟩=some (.int .i64 (q.l:Int))/\W.cell? ⟨g4,m*3+2,none⟩=some (.int .i64 (q.r:Int))) (first|(simp only[cell?_drew,b0,b1,b2,x0,x1,x2,and_self];done)|(simp only[q0,q1,q2,q3,q4,q5,and_self];done))
       (first
        |(go_at_call 249;refine(uh nO _).mono ?_;rintro e w5 ⟨rfl,cD⟩;have io:Hid (Below wr.heap.size wr w5):=ab ⟨cD.os,cD.tape,cD.output,cD.size,cD.block⟩;have q0:=((uh io).cell yL).trans b0;have q1:=((uh io).cell yL).trans b1;have q2:=((uh io).cell yL).trans b2;have q3:=((uh io).cell k9).trans x0;have q4:=((uh io).cell k9).trans x1;have q5:=((uh io).cell k9).trans x2;clear cD))
      have cD:=uh io;have yW:=dy (uh hJ).1 cD;have KQ:=(uh hJ).2.1.below cD;obtain⟨r6,⟨⟨u0,y0⟩,⟨u1,y1⟩,⟨u2,y2⟩⟩,f0,f1,f2⟩:=E4 yW (uh HAL).symm (i:=m+1) (by omega) q;rw[uh HPU,uh HDN]at r6;have cq:w.heap.size<=g4:=((uh hJ).1.lt g4 rfl).1;have ib:=((((uh hJ).2.2.trans (cD.mono (uh hJ).2.2.size)).setCell (p:=⟨g4,(m+1)*3,none⟩) cq (.int .i64 (q.k:Int))).setCell (p:=⟨g4,(m+1)*3+1,none⟩) cq (.int .i64 (q.l:Int))).setCell (p:=⟨g4,(m+1)*3+2,none⟩) cq (.int .i64 (q.r:Int));have hX6:=((KQ.setO (p:=⟨g4,(m+1)*3,none⟩) (uh HGX) (.int .i64 (q.k:Int))).setO (p:=⟨g4,(m+1)*3+1,none⟩) (uh HGX) (.int .i64 (q.l:Int))).setO (p:=⟨g4,(m+1)*3+2,none⟩) (uh HGX) (.int .i64 (q.r:Int));have HN:=ab (zq2 r6 (zq2 hX6 ib));have i5:(m:Int)+1<(L.length:Int)+1:=(by omega);have i6:(0:Int)<=(m:Int)+1:=(by omega);have HW2:Hid (zY p L m=zY p L L.length):=ab (by rw[<-uh HWH,uh HWM];rfl);clear cD yW KQ r6 ib hX6 cq;go_wp2_with fail
      go_roundg m
      case rel=>exact⟨q,by omega,by go_num,uh HW2,HN⟩
      case measure=>omega
     |false =>
      rw[Za]at nO HWM;clear Za;go_wp2_with fail
      go_region_held3 (λW=>W.cell? ⟨X,0,none⟩=some (.int .i64 (p.k:Int))/\W.cell? ⟨X,1,none⟩=some (.int .i64 (p.l:Int))/\W.cell? ⟨X,2,none⟩=some (.int .i64 (p.r:Int))/\W.cell? ⟨g4,m*3,none⟩=some (.int .i64 (q.k:Int))/\W.cell? ⟨g4,m*3+1,none⟩=some (.int .i64 (q.l:Int))/\W.cell? ⟨g4,m*3+2,none⟩=some (.int .i64 (q.r:Int))) (first|(simp only[cell?_drew,b0,b1,b2,x0,x1,x2,and_self];done)|(simp only[q0,q1,q2,q3,q4,q5,and_self];done))
       (first
        |(go_at_call 249;refine(uh nO _).mono ?_;rintro e w5 ⟨rfl,cD⟩;have io:Hid (Below wr.heap.size wr w5):=ab ⟨cD.os,cD.tape,cD.output,cD.size,cD.block⟩;have q0:=((uh io).cell yL).trans b0;have q1:=((uh io).cell yL).trans b1;have q2:=((uh io).cell yL).trans b2;have q3:=((uh io).cell k9).trans x0;have q4:=((uh io).cell k9).trans x1;have q5:=((uh io).cell k9).trans x2;clear cD))
      have cD:=uh io;have yW:=dy (uh hJ).1 cD;have KQ:=(uh hJ).2.1.below cD;obtain⟨r6,⟨⟨u0,y0⟩,⟨u1,y1⟩,⟨u2,y2⟩⟩,f0,f1,f2⟩:=E4 yW (uh HAL).symm (i:=m+1) (by omega) p;rw[yo hj]at r6;have cq:w.heap.size<=g4:=((uh hJ).1.lt g4 rfl).1;have ib:=((((uh hJ).2.2.trans (cD.mono (uh hJ).2.2.size)).setCell (p:=⟨g4,(m+1)*3,none⟩) cq (.int .i64 (p.k:Int))).setCell (p:=⟨g4,(m+1)*3+1,none⟩) cq (.int .i64 (p.l:Int))).setCell (p:=⟨g4,(m+1)*3+2,none⟩) cq (.int .i64 (p.r:Int));have z0:=KQ.cell 0 rfl;have z1:=KQ.cell 1 rfl;have z2:=KQ.cell 2 rfl;have HN:Hid (((((w5.setCell ⟨g4,(m+1)*3,none⟩ (.int .i64 (p.k:Int))).setCell ⟨g4,(m+1)*3+1,none⟩ (.int .i64 (p.l:Int))).setCell ⟨g4,(m+1)*3+2,none⟩ (.int .i64 (p.r:Int)))).ownsRow w.heap.size 182 3 (.slice (some ⟨g4,0,none⟩) (L.length+1) cap4) ((l.take (k+1)).foldl eQ []).length (af ((l.take (k+1)).foldl eQ []))/\Below w.heap.size w ((((w5.setCell ⟨g4,(m+1)*3,none⟩ (.int .i64 (p.k:Int))).setCell ⟨g4,(m+1)*3+1,none⟩ (.int .i64 (p.l:Int))).setCell ⟨g4,(m+1)*3+2,none⟩ (.int .i64 (p.r:Int))))):=ab ⟨by
       have e:(l.take (k+1)).foldl eQ []=vx L p (m+1):=(by rw[uh KG];unfold eQ vx;rw[<-uh HWH,uh HWM];rfl);rw[e,sD hj];exact r6,ib⟩
      have i5:(m:Int)+1<(L.length:Int)+1:=(by omega);have i6:(0:Int)<=(m:Int)+1:=(by omega);clear cD yW KQ r6 ib cq;go_wp2_with fail
      go_roundg (G-1)
      case rel=>exact⟨k+1,by omega,by go_num,HN⟩
      case measure=>omega
  .have hd:decide ((k:Int)<(l.length:Int))=false:=(by simp;omega);have jf:k=l.length:=(by omega);have Nv:(l.take k).foldl eQ []=l.foldl eQ []:=(by rw[jf,take_length]);rw[Nv]at hI cN ⊢;have hSR:lK l=(l.foldl eQ []).foldl kE []:=rfl;obtain⟨S,hS⟩:∃S,S=l.foldl eQ []:=⟨_,rfl⟩;rw[<-hS]at hI cN hSR ⊢;have Q0:S.length<=100000:=(by omega);have HSR:=ab hSR;clear hS Nv hSR jf oj cN;go_wp2_with fail
   go_loopw [7,8] (λkv iv wx=>∃(i:Nat) (cur:List Pr),i<=S.length/\iv=.int .i64 i/\kv=.int .i64 (((S.take i).foldl kE []).length:Nat)/\Hid (wx.ownsRow w.heap.size 182 3 (.slice ra S.length rc) S.length (af cur)/\cur.length=S.length/\cur.take ((S.take i).foldl kE []).length=(S.take i).foldl kE []/\cur.drop i=S.drop i/\Below w.heap.size w wx)) (λ_ iv _=>S.length-(intOf iv).toNat)
   case atStart=>exact⟨0,S,zq5 _,rfl,rfl,ab ⟨(uh hI).1,rfl,by simp,rfl,(uh hI).2⟩⟩
   case round =>
    clear hI;obtain⟨i,cur,hi,rfl,rfl,hJ⟩:=hrel;have vX:=Gf (S.take i) (a:=[]);rw[length_take]at vX;simp only[length_nil,Nat.zero_add]at vX;by_cases aq:i<S.length
    .have jb:decide ((i:Int)<(S.length:Int))=true:=(by simp;omega);obtain⟨g,cap,cM,-,-⟩:=bM (uh hJ).1 (by omega);simp only[Value.slice.injEq,true_and]at cM;obtain⟨rfl,rfl,-⟩:=cM;have du:=(uh hJ).2.1;have JY:wr.ownsRow 0 182 3 (.slice (some ⟨g,0,none⟩) cur.length rc) cur.length (af cur):=(by rw[du];exact dA (uh hJ).1 (zq5 _));obtain⟨x0,x1,x2⟩:=ax JY (i:=i) (by omega);have hci:cur.getD i au=S.getD i au:=by
      have h1:=congrArg (λm=>m.getD 0 au) (uh hJ).2.2.2.1;simpa[getD_eq_getElem?_getD,getElem?_drop] using h1
     have hds:=iG (g:=kE) (a:=[]) aq;obtain⟨K,hK⟩:∃K,K=(S.take i).foldl kE []:=⟨_,rfl⟩;obtain⟨p,hp⟩:∃p,p=S.getD i au:=⟨_,rfl⟩;rw[hci,<-hp]at x0 x1 x2;rw[<-hK]at hJ vX hds ⊢;rw[<-hp]at hds;have hKi:K.length<=i:=(by omega);obtain⟨r6,⟨⟨u0,y0⟩,⟨u1,y1⟩,⟨u2,y2⟩⟩,f0,f1,f2⟩:=E4 (uh hJ).1 du.symm (i:=K.length) (by omega) p;have cq:w.heap.size<=g:=((uh hJ).1.lt g rfl).1;have ib:=(((uh hJ).2.2.2.2.setCell (p:=⟨g,K.length*3,none⟩) cq (.int .i64 (p.k:Int))).setCell (p:=⟨g,K.length*3+1,none⟩) cq (.int .i64 (p.l:Int))).setCell (p:=⟨g,K.length*3+2,none⟩) cq (.int .i64 (p.r:Int));have qS:∀K':List Pr,K'=K++[p]->(cur.set K.length p).length=S.length/\(cur.set K.length p).take K'.length=K'/\(cur.set K.length p).drop (i+1)=S.drop (i+1):=by
      rintro K' rfl;refine⟨by simpa using du,?_,?_⟩
      .have h1:=(uh hJ).2.2.1;rw[length_append,length_singleton,take_add_one,getElem?_set_self (by omega),take_set_of_le (zq4 _),h1];rfl
      .rw[drop_set_of_lt (by omega)];have h1:=congrArg (λm=>m.drop 1) (uh hJ).2.2.2.1;simpa[drop_drop,Nat.add_comm] using h1
     have RG:=ab r6;have tt:=ab ib;have HPT:=ab qS;have fY:kE K p=K->cur.take (kE K p).length=kE K p/\cur.drop (i+1)=S.drop (i+1):=λe=>by
      rw[e];refine⟨(uh hJ).2.2.1,?_⟩;have h1:=congrArg (λm=>m.drop 1) (uh hJ).2.2.2.1;simpa[drop_drop,Nat.add_comm] using h1
     have HKP:=ab fY;have HDS:=ab hds;have i1:(0:Int)<=(i:Int):=(by omega);have i2:(i:Int)<(S.length:Int):=(by omega);have i3:(K.length:Int)<(S.length:Int):=(by omega);by_cases iL:i=0
     .have hKe:K=[]:=(by rw[hK,iL];rfl);have CZ:Hid (kE K p=K++[p]):=ab (by unfold kE;rw[if_pos (zq0 hKe)]);have d0:((i:Int)==0)=true:=(by simp[iL]);obtain⟨kl,jf⟩:∃kl,kl=K.length:=⟨_,rfl⟩;rw[<-jf]at RG tt HPT y0 y1 y2 f0 f1 f2 i3 vX ⊢;have HKL:=ab jf;clear hp hK hds r6 ib qS fY JY hci hKi cq du hKe iL jf;go_wp2_with fail
      go_quiet (fail)
      go_wp2_with fail
      go_roundw
      case rel=>exact⟨i+1,_,by omega,by go_num,by rw[uh HDS,uh CZ,length_append,length_singleton,<-uh HKL];go_num,ab (by
       rw[uh HDS,uh CZ];obtain⟨h1,h2,h3⟩:=uh HPT _ rfl;exact⟨uh RG,h1,h2,h3,⟨(uh tt).os,(uh tt).tape,(uh tt).output,(uh tt).size,(uh tt).block⟩⟩)⟩
      case measure=>simp[intOf];omega
     .have hKn:K≠[]:=by
       rw[hK];refine Mp (λe=>?_);have:=congrArg List.length e;rw[length_take,length_nil]at this;omega
      obtain⟨n,hn⟩:∃n,K.length=n+1:=⟨K.length-1,by have:=length_pos_iff.2 hKn;omega⟩;have fQ:cur.getD n au=K.getD n au:=by
       have h1:=congrArg (λm=>m.getD n au) (uh hJ).2.2.1;simp only[getD_eq_getElem?_getD,getElem?_take]at h1 ⊢;rw[if_pos (by omega)]at h1;exact h1
      obtain⟨z0,z1,z2⟩:=ax JY (i:=n) (by omega);obtain⟨q,hq⟩:∃q,q=K.getD n au:=⟨_,rfl⟩;rw[fQ,<-hq]at z0 z1 z2;have Wp:kE K p=if CC p q=false then K++[p] else K:=by
       unfold kE;rw[hn,Nat.add_sub_cancel,<-hq];by_cases e:CC p q=false
       .rw[if_pos (zq1 e),if_pos e]
       .rw[if_neg (by rw[not_or];exact⟨hKn,e⟩),if_neg e]
      have CZ:=ab Wp;have d0:((i:Int)==0)=false:=(by simp;omega);have Rc:IntKind.i64.wrap (n:Int)=(n:Int):=(by rw[IntKind.wrap_i64];omega);have i4:(n:Int)<(S.length:Int):=(by omega);have i5:(0:Int)<=(n:Int):=(by omega);have HKL:=ab hn;rw[hn]at RG tt HPT y0 y1 y2 f0 f1 f2 i3 vX ⊢;rw[show((n+1:Nat):Int)=(n:Int)+1 by omega]at i3;clear hp hK hds r6 ib qS fY JY hci hKi cq du iL hKn fQ hq Wp hn;have hgd:=M9;have yU:∀W:World,(binOp .neq 182 (.agg #[.int .i64 (p.k:Int),.int .i64 (p.l:Int),.int .i64 (p.r:Int)]) (.agg #[.int .i64 (q.k:Int),.int .i64 (q.l:Int),.int .i64 (q.r:Int)])).run prog W=.ok (.bool (!CC p q)) W:=λW=>by rw[agP,Ik]
      cases TG:CC p q
      .rw[TG]at CZ yU;rw[show(!false)=true from rfl]at yU;have QJ:Hid (kE K p=K++[p]):=ab (uh CZ);clear CZ TG;go_wp2_with fail
       go_quiet (fail)
       go_wp2_with fail
       go_roundw
       case rel=>exact⟨i+1,_,by omega,by go_num,by rw[uh HDS,uh QJ,length_append,length_singleton,uh HKL];go_num,ab (by
        rw[uh HDS,uh QJ];obtain⟨h1,h2,h3⟩:=uh HPT _ rfl;exact⟨uh RG,h1,h2,h3,⟨(uh tt).os,(uh tt).tape,(uh tt).output,(uh tt).size,(uh tt).block⟩⟩)⟩
       case measure=>simp[intOf];omega
      .rw[TG]at CZ yU;rw[show(!true)=false from rfl]at yU;have QJ:Hid (kE K p=K):=ab (uh CZ);clear CZ TG;go_wp2_with fail
       go_quiet (fail)
       go_wp2_with fail
       go_roundw
       case rel=>exact⟨i+1,cur,by omega,by go_num,by rw[uh HDS,uh QJ,uh HKL],ab (by
        obtain⟨h2,h3⟩:=uh HKP (uh QJ);rw[uh HDS];exact⟨(uh hJ).1,(uh hJ).2.1,h2,h3,⟨(uh hJ).2.2.2.2.os,(uh hJ).2.2.2.2.tape,(uh hJ).2.2.2.2.output,(uh hJ).2.2.2.2.size,(uh hJ).2.2.2.2.block⟩⟩)⟩
       case measure=>simp[intOf];omega
    .have jb:decide ((i:Int)<(S.length:Int))=false:=(by simp;omega);have NX:(S.take i).foldl kE []=lK l:=(by rw[take_of_length_le (by omega)];exact(uh HSR).symm);rw[NX]at hJ vX ⊢;have hKS:(lK l).length<=S.length:=(by omega);have HRT:Hid (wr.ownsRow w.heap.size 182 3 (.slice ra (lK l).length rc) (lK l).length (af (lK l))):=ab (by
      have h1:=Cx (uh hJ).1 hKS;rw[pR,(uh hJ).2.2.1]at h1;exact h1)
     have HBT:=ab (uh hJ).2.2.2.2;obtain⟨n,hn⟩:∃n,n=(lK l).length:=⟨_,rfl⟩;rw[<-hn]at HRT hKS ⊢;have hrc:S.length<=rc:=by
      obtain⟨a1,c1,h1,h2,h3⟩:=aj (uh hJ).1;simp only[Value.slice.injEq,true_and]at h1;omega
     have q1:(0:Int)<=(n:Int):=(by omega);have q2:(n:Int)<=(rc:Int):=(by omega);have tC:=ab hn;clear NX hJ vX hn HSR;go_wp2_with fail
     go_ret;exact⟨_,rfl,by rw[<-uh tC];exact uh HRT,uh HBT⟩
end
theorem Kc{g:Pr->Pr}{l:List Pr}{k:Nat}(hk:k<l.length)(h:g (l.getD k au)=l.getD k au):bH g l (k+1)=bH g l k:=by
 rw[jW hk,h];have h1:=jV (g:=g) hk;rw[<-h1];exact xZ (by rw[iP];exact hk)
section
variable {w:World} {A:Nat} {f:CF} {av ov:Value}
theorem Kf(h:Fm w A f av ov)(ha:f.ap.length<=100000)(ho:f.ow.length<=100000):Calls prog 199 #[.pointer (some ⟨A,0,none⟩)] w λe w'=>e=.returned (.tuple #[])/\∃av' ov',Fm w' A (orF f) av' ov'/\ar (aD A av ov) w (aD A av' ov') w':=by
 have c6:=h.is.c6;have HSO:=ab (uU h.is.ow ho);have H:=ab h;obtain⟨oa,oc,d7,-,-⟩:=aj h.is.ow;subst d7;obtain⟨aa,ac,jO,-,-⟩:=aj h.is.ap;subst jO;clear h;go_enter func199,ntmps199;go_wp2_with fail
 refine(uh HSO).mono ?_;rintro e w1 ⟨v1,rfl,ou,a7⟩;obtain⟨a1,k1,rfl⟩:=aC ou;have cY:ar (Value.slice oa f.ow.length oc).ownBlock.toList w (Value.slice a1 (lK f.ow).length k1).ownBlock.toList w1:=(ar.ofBw (F:=(Value.slice oa f.ow.length oc).ownBlock.toList) a7).foots (λj hj=>zq1 (ou.lt j (by simpa using hj)).1);obtain⟨jk,mZ⟩:=(uh H).newOv (ow':=lK f.ow) cY (v':=.slice a1 (lK f.ow).length k1) (λj hj=>by simpa using hj) (dA ou (zq5 _));have Jz:=(uh H).below a7;have d6:=Jz.is.c6;have f6:=ownsRow.frozenAt Jz.is.ob 6;obtain⟨w2,rL⟩:∃w2,w2=w1.setCell ⟨A,6,none⟩ (.slice a1 (lK f.ow).length k1):=⟨_,rfl⟩;rw[<-rL]at jk mZ;have bX:Hid (Fm w2 A { f with ow:=lK f.ow,ap:=bH jw f.ap 0 } (.slice aa f.ap.length ac) (.slice a1 (lK f.ow).length k1)/\ar (aD A (.slice aa f.ap.length ac) (.slice oa f.ow.length oc)) w (aD A (.slice aa f.ap.length ac) (.slice a1 (lK f.ow).length k1)) w2):=ab ⟨by simpa[bH] using jk,mZ⟩;clear ou a7 cY jk mZ Jz HSO c6;obtain⟨n1,jF⟩:∃n1,n1=(lK f.ow).length:=⟨_,rfl⟩;rw[<-jF]at rL bX ⊢;have C3:=ab jF;clear jF;go_upto_region 1 with fail;rw[<-rL];clear rL d6 f6;go_wp2_with fail
 go_loopw [2] (λi wx=>∃(k:Nat),k<=f.ap.length/\i=.int .i64 k/\Hid (Fm wx A { f with ow:=lK f.ow,ap:=bH jw f.ap k } (.slice aa f.ap.length ac) (.slice a1 n1 k1)/\ar (aD A (.slice aa f.ap.length ac) (.slice oa f.ow.length oc)) w (aD A (.slice aa f.ap.length ac) (.slice a1 n1 k1)) wx)) (λi _=>f.ap.length-(intOf i).toNat)
 case atStart=>exact⟨0,zq5 _,rfl,bX⟩
 case round =>
  clear bX;obtain⟨k,hk,rfl,hI⟩:=hrel;have dJ:=iP jw f.ap k;have c5:=(uh hI).1.is.c5;by_cases aq:k<f.ap.length
  .have hd:decide ((k:Int)<(f.ap.length:Int))=true:=(by simp;omega);have aR:wr.ownsRow 0 182 3 (.slice aa f.ap.length ac) f.ap.length (af (bH jw f.ap k)):=by
    have:=(uh hI).1.is.ap;rwa [show({ f with ow:=lK f.ow,ap:=bH jw f.ap k }:CF).ap.length=f.ap.length from dJ]at this
   obtain⟨g,cap,cM,-,-,-⟩:=bM aR (by omega);simp only[Value.slice.injEq,true_and]at cM;obtain⟨rfl,rfl⟩:=cM;have ul:wr.ownsRow 0 182 3 (.slice (some ⟨g,0,none⟩) (bH jw f.ap k).length ac) (bH jw f.ap k).length (af (bH jw f.ap k)):=(by rw[dJ];exact aR);obtain⟨x0,x1,x2⟩:=ax ul (i:=k) (by omega);have Zu:=jV (g:=jw) aq;rw[Zu]at x0 x1 x2;have hms:=jW (g:=jw) aq;have hse:=Kc (g:=jw) aq;obtain⟨p,hp⟩:∃p,p=f.ap.getD k au:=⟨_,rfl⟩;rw[<-hp]at x0 x1 x2 hms hse Zu;have hgA:g≠A:=λe=>(uh hI).1.nds.1 (by rw[e];rfl);obtain⟨W1,dI⟩:∃W1,W1=wr.alloc (.cells #[Value.int .i64 p.k,.int .i64 p.l,.int .i64 p.r] 182):=⟨_,rfl⟩;have bQ:Below wr.heap.size wr W1:=(by rw[dI];exact ah wr _);have hX:Bk W1 wr.heap.size 182 [Value.int .i64 p.k,.int .i64 p.l,.int .i64 p.r]:=(by rw[dI];exact Bk.new wr _ _);have jk:=(uh hI).1.below bQ;have bq:=(uh hI).2.trans (ar.ofBw bQ);have ou:=dy aR bQ;obtain⟨X,fS⟩:∃X,X=wr.heap.size:=⟨_,rfl⟩;have hgX:g≠X:=(by have:=(aR.lt g rfl).2;omega);rw[<-fS]at hX;have b1:=hX.cell 1 rfl;have b2:=hX.cell 2 rfl;have e5:=jk.is.c5;have i1:(0:Int)<=(k:Int):=(by omega);have i2:(k:Int)<(f.ap.length:Int):=(by omega);by_cases hsw:p.r<p.l
   .have d1:decide ((p.r:Int)<(p.l:Int))=true:=(by simp;omega);have s1:=(ou.stored (k*3+1) (.int .i64 (p.r:Int))).1;rw[im (by omega),Zu]at s1;have s2:=(s1.stored (k*3+2) (.int .i64 (p.l:Int))).1;rw[dB (by simp;omega)]at s2;have afa:((bH jw f.ap k).set k ⟨p.k,p.r,p.r⟩).set k ⟨(((bH jw f.ap k).set k ⟨p.k,p.r,p.r⟩).getD k au).k,(((bH jw f.ap k).set k ⟨p.k,p.r,p.r⟩).getD k au).l,p.l⟩=bH jw f.ap (k+1):=by
     rw[hms,set_set];have:((bH jw f.ap k).set k ⟨p.k,p.r,p.r⟩).getD k au=⟨p.k,p.r,p.r⟩:=by
      rw[getD_eq_getElem?_getD,getElem?_set_self (by omega)];rfl
     rw[this];unfold jw;rw[if_pos hsw]
    rw[afa]at s2;have fR:ar (Value.slice (some ⟨g,0,none⟩) f.ap.length ac).ownBlock.toList W1 (Value.slice (some ⟨g,0,none⟩) f.ap.length ac).ownBlock.toList ((W1.setCell ⟨g,k*3+1,none⟩ (.int .i64 (p.r:Int))).setCell ⟨g,k*3+2,none⟩ (.int .i64 (p.l:Int))):=((ar.refl _ _).setCell (p:=⟨g,k*3+1,none⟩) (zq0 (by simp[Value.ownBlock])) _).setCell (p:=⟨g,k*3+2,none⟩) (zq0 (by simp[Value.ownBlock])) _;obtain⟨nA,wj⟩:=jk.newRowA (ap':=bH jw f.ap (k+1)) (by rw[iP,show({ f with ow:=lK f.ow,ap:=bH jw f.ap k }:CF).ap.length=f.ap.length from dJ]) (by rw[show({ f with ow:=lK f.ow,ap:=bH jw f.ap k }:CF).ap.length=f.ap.length from dJ];exact s2) fR;obtain⟨q0,q1,q2⟩:=ax (dA (dJ ▸ ou:W1.ownsRow 0 182 3 (.slice (some ⟨g,0,none⟩) (bH jw f.ap k).length ac) (bH jw f.ap k).length (af (bH jw f.ap k))) (zq5 _)) (i:=k) (by omega);have f1:=ou.frozenAt (k*3+1);have f2:=s1.frozenAt (k*3+2);have y2:(W1.setCell ⟨g,k*3+1,none⟩ (.int .i64 (p.r:Int))).cell? ⟨g,k*3+2,none⟩=some (.int .i64 (p.r:Int)):=by
     rw[cell?_setCell_other _ _ _ _ (by simp),q2,Zu]
    have y5:(W1.setCell ⟨g,k*3+1,none⟩ (.int .i64 (p.r:Int))).cell? ⟨A,5,none⟩=some (.slice (some ⟨g,0,none⟩) f.ap.length ac):=by
     rw[cell?_setCell_other _ _ _ _ (by simp only[ne_eq,Addr.mk.injEq,not_and];intro e;exact absurd e hgA)];exact e5
    have yb:(W1.setCell ⟨g,k*3+1,none⟩ (.int .i64 (p.r:Int))).cell? ⟨X,1,none⟩=some (.int .i64 (p.l:Int)):=by
     rw[cell?_setCell_other _ _ _ _ (by simp only[ne_eq,Addr.mk.injEq,not_and];intro e;exact absurd e hgX)];exact b1
    have HN:Hid (Fm ((W1.setCell ⟨g,k*3+1,none⟩ (.int .i64 (p.r:Int))).setCell ⟨g,k*3+2,none⟩ (.int .i64 (p.l:Int))) A { f with ow:=lK f.ow,ap:=bH jw f.ap (k+1) } (.slice (some ⟨g,0,none⟩) f.ap.length ac) (.slice a1 n1 k1)/\ar (aD A (.slice (some ⟨g,0,none⟩) f.ap.length ac) (.slice oa f.ow.length oc)) w (aD A (.slice (some ⟨g,0,none⟩) f.ap.length ac) (.slice a1 n1 k1)) ((W1.setCell ⟨g,k*3+1,none⟩ (.int .i64 (p.r:Int))).setCell ⟨g,k*3+2,none⟩ (.int .i64 (p.l:Int)))):=ab ⟨nA,bq.trans wj⟩;rw[Zu]at q0 q1 q2;clear s1 s2 afa fR nA wj aR ul Zu hms hse hp bQ hX jk bq ou dJ hI hgA hgX;go_upto_region 5 with fail;rw[<-dI,<-fS];clear dI fS;go_wp2_with fail
    go_region
    go_wp2_with fail
    go_region
    go_wp2_with fail
    go_roundw
    case rel=>exact⟨k+1,by omega,by go_num,ab ⟨(uh HN).1.of_eq (λ_ _=>rfl),(uh HN).2.drew.drew⟩⟩
    case measure=>simp[intOf];omega
   .have d1:decide ((p.r:Int)<(p.l:Int))=false:=(by simp;omega);have HN:Hid (Fm W1 A { f with ow:=lK f.ow,ap:=bH jw f.ap (k+1) } (.slice (some ⟨g,0,none⟩) f.ap.length ac) (.slice a1 n1 k1)/\ar (aD A (.slice (some ⟨g,0,none⟩) f.ap.length ac) (.slice oa f.ow.length oc)) w (aD A (.slice (some ⟨g,0,none⟩) f.ap.length ac) (.slice a1 n1 k1)) W1):=ab ⟨by rw[hse (by unfold jw;rw[if_neg hsw])];exact jk,bq⟩;clear aR ul Zu hms hse hp bQ hX jk bq ou dJ hI hgA hgX;go_upto_region 5 with fail;rw[<-dI,<-fS];clear dI fS;go_wp2_with fail
    go_roundw
    case rel=>exact⟨k+1,by omega,by go_num,HN⟩
    case measure=>simp[intOf];omega
  .have hd:decide ((k:Int)<(f.ap.length:Int))=false:=(by simp;omega);have gB:bH jw f.ap k=f.ap.map jw:=uw (by omega);rw[gB]at hI;have aR:wr.ownsRow 0 182 3 (.slice aa f.ap.length ac) (f.ap.map jw).length (af (f.ap.map jw)):=(uh hI).1.is.ap;have FI:=ab (uU aR (by simpa using ha));clear gB aR dJ;go_wp2_with fail
   refine(uh FI).mono ?_;rintro e w5 ⟨v5,rfl,yW,cD⟩;obtain⟨a5,k5,rfl⟩:=aC yW;have pD:ar (Value.slice aa f.ap.length ac).ownBlock.toList wr (Value.slice a5 (lK (f.ap.map jw)).length k5).ownBlock.toList w5:=(ar.ofBw (F:=(Value.slice aa f.ap.length ac).ownBlock.toList) cD).foots (λj hj=>zq1 (yW.lt j (by simpa using hj)).1);obtain⟨BE,m0⟩:=(uh hI).1.newAv (ap':=lK (f.ap.map jw)) pD (v':=.slice a5 (lK (f.ap.map jw)).length k5) (λj hj=>by simpa using hj) (dA yW (zq5 _));have Jz:=(uh hI).1.below cD;have d5:=Jz.is.c5;have f5:=ownsRow.frozenAt Jz.is.ob 5;have HN:=ab (zq2 BE ((uh hI).2.trans m0));clear yW cD pD BE m0 Jz FI c5;go_wp2_with fail
   go_end0
   exact⟨rfl,_,_,(uh HN).1,(uh HN).2⟩
theorem kh(h:Fm w A f av ov)(hO:am f)(ha:f.ap.length<=100000):Calls prog 171 #[.pointer (some ⟨A,0,none⟩)] w λe w'=>e=.returned (.tuple #[])/\∃av' ov',Fm w' A (bz f) av' ov'/\ar (aD A av ov) w (aD A av' ov') w':=by
 have gl:=hO.owLen;have KF:=ab (Ed h ⟨hO.cl,hO.ow,hO.ap⟩ ha (by omega));have HO:=ab hO;clear h hO;go_enter func171,ntmps171;go_wp2_with fail
 refine(uh KF).mono ?_;rintro e w1 ⟨rfl,av1,h1,s1⟩;have vD:(my f).ap.length<=100000:=zq3 (length_filter_le _ _) ha;have HRN:=ab (zN h1 (uh HO).fg (λp hp=>kG hp) vD);have bT:=ab s1;clear h1 s1 KF;go_wp2_with fail
 refine(uh HRN).mono ?_;rintro e w2 ⟨rfl,h2,s2⟩;have Lq:=ab (Kf h2 (by simpa[uQ] using vD) (by
  show((my f).ow.map _).length<=100000;rw[length_map];exact zq3 gl (by omega)))
 have cH:=ab ((uh bT).trans s2);clear h2 s2 HRN;go_wp2_with fail
 refine(uh Lq).mono ?_;rintro e w3 ⟨rfl,av3,ov3,h3,s3⟩;have HN:=ab (zq2 h3 ((uh cH).trans s3));clear h3 s3 Lq;go_wp2_with fail
 go_end0
 exact⟨rfl,_,_,(uh HN).1,(uh HN).2⟩
end
theorem ew.me{bl:List Bool}{s:List Nat}(h:ew bl s){c:Nat}(hc:c<24):ew (bl.set c true) (gV s c):=(h.add hc).congr (λd=>by
 unfold gV;split
 .rename_i hm;rw[mem_cons];exact⟨λh=>by rcases h with rfl|h;exact hm;exact h,zq1⟩
 .rw[mem_cons,mem_append,mem_singleton];exact⟨λh=>h.elim zq1 zq0,λh=>h.elim zq1 zq0⟩)
theorem ew.eq{bl:List Bool}{s:List Nat}(h:ew bl s):bl=(range 24).map (λc=>decide (c∈s)):=by
 refine ext_getElem (by rw[h.1];simp) (λj h1 h2=>?_);have hj:j<24:=by have:=h.1;omega
 have:=h.2 j hj;rw[getD_eq_getElem?_getD,getElem?_eq_getElem h1]at this;simp only[Option.getD_some]at this;rw[getElem_map,getElem_range];cases hb:bl[j] with
 |true=>rw[hb]at this;simp[this.1 rfl]
 |false=>rw[hb]at this;simp;intro hm;exact absurd (this.2 hm) (by simp)
theorem PF(l:List Pr):∀{s:List Nat},s.length<=(l.foldl oV s).length:=by
 induction l with
 |nil=>intro s;exact zq4 _
 |cons p r ih=>intro s;exact zq3 (It s p) ih
theorem Is:∀(l:List Pr) (s:List Nat),∃t,l.foldl oV s=s++t
 |[],s=>⟨[],by simp⟩
 |p::r,s=>by
  obtain⟨t,ht⟩:=Is r (oV s p);rw[foldl_cons,ht];unfold oV;split
  .exact⟨[p.r]++t,by rw[append_assoc]⟩
  .exact⟨t,rfl⟩
theorem QH:(cS (replicate 24 false)).toArray=(replicate 24 (Value.bool false)).toArray:=rfl
theorem infoB24:(prog.info? 240).map (·.size)=some 24:=by kernel_rfl
section
variable {w:World} {A:Nat} {f:CF} {av ov:Value}
theorem mj(h:dF w A f av ov)(hO:am f):Calls prog 227 #[.pointer (some ⟨A,0,none⟩)] w λe w'=>e=.returned (.agg (cS (Du f)).toArray)/\Below w.heap.size w w':=by
 obtain⟨oa,oc,d7,-,-⟩:=aj h.ow;subst d7;have gl:=hO.owLen;obtain⟨w0,lm⟩:∃w0,w0=(w.alloc (.cells (replicate 24 (Value.bool false)).toArray 240)).alloc (.cells (replicate 24 (Value.bool false)).toArray 240):=⟨_,rfl⟩;have ua:Below w.heap.size w w0:=by rw[lm];exact(ah w _).alloc (ah w _).size _
 have Az:Ob w0 240 24 w.heap.size (cS (replicate 24 false)):=by rw[lm,<-QH];exact(yC w).alloc _
 have S4:Ob w0 240 24 (w.heap.size+1) (cS (replicate 24 false)):=by
  rw[lm,<-QH];have:=yC (w.alloc (.cells (cS (replicate 24 false)).toArray 240));simpa using this
 obtain⟨R,hR⟩:∃R,R=w.heap.size:=⟨_,rfl⟩;obtain⟨D,hD⟩:∃D,D=R+1:=⟨_,rfl⟩;rw[<-hR,<-hD]at S4;rw[<-hR]at Az;have H:=ab h;have HO:=ab hO;have HR:=ab hR;have HD:=ab hD;have bX:Hid (Ob w0 240 24 D (cS (replicate 24 false))/\ew (replicate 24 false) (([f.cl.getD 1 0,f.cl.getD 2 0,f.cl.getD 3 0,f.cl.getD 4 0].take 0).foldl gV [])/\Ob w0 240 24 R (cS (replicate 24 false))/\Below w.heap.size w w0):=ab ⟨S4,Bp,Az,ua⟩;clear h hO ua Az S4;simp only[replicate]at lm;go_enter func227,ntmps227;go_upto_region 2 with fail;rw[<-lm,<-hR,<-hD];clear lm hR hD;go_wp2_with fail
 go_loopw [4] (λi wx=>∃(k:Nat) (bl:List Bool),k<=4/\i=.int .i64 ((k:Int)+1)/\Hid (Ob wx 240 24 D (cS bl)/\ew bl (([f.cl.getD 1 0,f.cl.getD 2 0,f.cl.getD 3 0,f.cl.getD 4 0].take k).foldl gV [])/\Ob wx 240 24 R (cS (replicate 24 false))/\Below w.heap.size w wx)) (λi _=>5-(intOf i).toNat)
 case atStart=>exact⟨0,_,zq5 _,rfl,bX⟩
 case round =>
  clear bX;obtain⟨k,bl,hk,rfl,hI⟩:=hrel;have hDR:D≠R:=by have:=uh HD;omega
  by_cases aq:k<4
  .have hd:decide ((k:Int)+1<(5:Int))=true:=(by simp;omega);have hF:=(uh H).below (uh hI).2.2.2;have x:=hF.cls (i:=k+1) (by omega);unfold fH at x;have aE:([f.cl.getD 1 0,f.cl.getD 2 0,f.cl.getD 3 0,f.cl.getD 4 0].take (k+1)).foldl gV []=gV (([f.cl.getD 1 0,f.cl.getD 2 0,f.cl.getD 3 0,f.cl.getD 4 0].take k).foldl gV []) (f.cl.getD (k+1) 0):=by
    have:k=0\/k=1\/k=2\/k=3:=(by omega);rcases this with rfl|rfl|rfl|rfl <;> rfl
   have hc:=(uh HO).get (k+1);obtain⟨c,hce⟩:∃c,c=f.cl.getD (k+1) 0:=⟨_,rfl⟩;rw[<-hce]at x aE hc;obtain⟨⟨u,hu⟩,hz⟩:=(uh hI).1.some (j:=c) hc;have o1:=(uh hI).1.stored c (.bool true);rw[kz]at o1;have cq:w.heap.size<=D:=(by have:=uh HD;have:=uh HR;omega);have HN:Hid (Ob (wr.setCell ⟨D,c,none⟩ (.bool true)) 240 24 D (cS (bl.set c true))/\ew (bl.set c true) (([f.cl.getD 1 0,f.cl.getD 2 0,f.cl.getD 3 0,f.cl.getD 4 0].take (k+1)).foldl gV [])/\Ob (wr.setCell ⟨D,c,none⟩ (.bool true)) 240 24 R (cS (replicate 24 false))/\Below w.heap.size w (wr.setCell ⟨D,c,none⟩ (.bool true))):=ab ⟨o1,by rw[aE];exact(uh hI).2.1.me hc,(uh hI).2.2.1.of_eq (heap_setCell _ _ _ _ (λe=>hDR e.symm)),(uh hI).2.2.2.setCell (p:=⟨D,c,none⟩) cq _⟩;have i1:(0:Int)<=(k:Int)+1:=(by omega);have i2:(k:Int)+1<(5:Int):=(by omega);have i3:(c:Int)<(24:Int):=(by omega);have i4:((k:Int)+1).toNat=k+1:=(by omega);clear hF aE hce o1 hI cq;go_wp2_with fail
   go_roundw
   case rel=>exact⟨k+1,_,by omega,by go_num,HN⟩
   case measure=>simp[intOf];omega
  .have hd:decide ((k:Int)+1<(5:Int))=false:=(by simp;omega);have ue:k=4:=(by omega);subst ue;have vG:([f.cl.getD 1 0,f.cl.getD 2 0,f.cl.getD 3 0,f.cl.getD 4 0].take 4).foldl gV []=UA f:=rfl;rw[vG]at hI;have dD:Hid (Ob wr 240 24 D (cS bl)/\ew bl (UA f)/\dY (UA f)/\Ob wr 240 24 R (cS (replicate 24 false))/\Below w.heap.size w wr/\UB f 25 (UA f)=oJ f):=ab ⟨(uh hI).1,(uh hI).2.1,aaR (uh HO).cl,(uh hI).2.2.1,(uh hI).2.2.2,rfl⟩;clear vG hI;rw[show((4:Nat):Int)+1=(5:Int) from rfl];have cq:w.heap.size<=D:=(by have:=uh HD;have:=uh HR;omega);go_wp2_with fail
   go_loopg [5] (26-(UA f).length) (λgn gv wx=>∃(s:List Nat) (bl:List Bool) (n:Nat) (gr:Bool),gv=.bool gr/\gn=(if gr=true then 26-s.length else 0)/\s.length<=24/\Hid (Ob wx 240 24 D (cS bl)/\ew bl s/\dY s/\Ob wx 240 24 R (cS (replicate 24 false))/\Below w.heap.size w wx/\(gr=true->UB f n s=oJ f/\24<n+s.length)/\(gr=false->s=oJ f)))
   case atStart=>exact⟨UA f,bl,25,true,rfl,rfl,(uh dD).2.2.1.len,ab ⟨(uh dD).1,(uh dD).2.1,(uh dD).2.2.1,(uh dD).2.2.2.1,(uh dD).2.2.2.2.1,λ_=>⟨rfl,by omega⟩,λh=>by cases h⟩⟩
   case round =>
    clear dD;obtain⟨s,bl,n,gr,rfl,hgn,Ot,hI⟩:=hrel;obtain⟨G,hG⟩:∃G,G=gk:=⟨_,rfl⟩;cases gr with
    |false =>
     have agf:=(uh hI).2.2.2.2.2.2 rfl;have bS:cS bl=cS (Du f):=(by rw[(uh hI).2.1.eq,agf];rfl);obtain⟨M,hM⟩:∃M,M=cS (Du f):=⟨_,rfl⟩;have dJ:M.length=24:=(by rw[hM];simp[cS,Du]);have Na:Ob wr 240 24 D M:=(by rw[hM,<-bS];exact(uh hI).1);have xx:=(uh hI).2.2.2.1;have Ti:wr.rangeAt D 0 M:=by
      intro j v hj;have eu:=(List.getElem?_eq_some_iff.1 hj).1;rw[Nat.zero_add,ownsRow.cellAt Na j (by omega)];exact hj
     have rZ:wr.there R 0 M.toArray.size:=by
      intro j hj;rw[size_toArray,dJ]at hj;obtain⟨⟨u,hu⟩,hz⟩:=xx.some (j:=j) hj;rw[Nat.zero_add];exact⟨by rw[hu];rfl,hz⟩
     have df:(prog.info? 240).map (·.size)=some M.length:=(by rw[dJ];exact infoB24);have bP:(prog.info? 240).map (·.size)=some M.toArray.size:=(by rw[size_toArray,dJ];exact infoB24);have t0:M.toArray.all (·.oneCell')=true:=all_oneCell_toArray (by
      intro v hv;rw[hM]at hv;obtain⟨o,_,rfl⟩:=mem_map.1 hv;rfl)
     have tZ:=Ob.setCells M 0 xx;have ZR:=mn M [] (cS (replicate 24 false)) [] (by rw[dJ];rfl);simp only[nil_append,append_nil,length_nil]at ZR;rw[ZR]at tZ;have YU:w.heap.size<=R:=(by have:=uh HR;omega);have Aw:∀(vs:List Value) (o:Nat) (x:World),Below w.heap.size w x->Below w.heap.size w (x.setCells R o vs):=by
      intro vs;induction vs with
      |nil=>intro o x h;exact h
      |cons v r ih=>intro o x h;exact ih (o+1) _ (h.setCell YU v)
     have io:=ab (Aw M 0 wr (uh hI).2.2.2.2.1);have HM:=ab hM;have HML:=ab dJ;have HRg:=ab Ti;have sy:=ab rZ;have dD:=ab df;have dc:=ab bP;have DD:=ab t0;have I5:=ab tZ;clear Ti rZ df bP t0 tZ ZR Aw hM dJ Na xx bS agf hI hgn;go_wp2_with (first|refine wpList_load_mid rfl 240 (.tmp 3) rfl D 0 rfl M _ (uh HRg) underlying240 rfl (uh dD) ?_|refine wpList_store_mid rfl 240 (.tmp 2) (.tmp 44) rfl R 0 M.toArray rfl rfl (uh sy) (uh dc) (uh DD) ?_)
     have Oq:(wr.setCells R 0 M).rangeAt R 0 M:=by
      intro j v hj;have eu:=(List.getElem?_eq_some_iff.1 hj).1;rw[uh HML]at eu;rw[Nat.zero_add,ownsRow.cellAt (uh I5) j (by omega)];exact hj
     have hld:=run_loadVar_mid (P:=prog) (wr.setCells R 0 M) R 0 240 M _ Oq underlying240 rfl (uh dD);refine bodyPost_ret (v:=.agg M.toArray) ?_ rfl ⟨by rw[uh HM],uh io⟩;simp[results,Tryz.results227,Act.put,asAddr,hld]
    |true =>
     have aq0:gk=26-s.length:=hgn;obtain⟨hrc,afU⟩:=(uh hI).2.2.2.2.2.1 rfl;have HRC:=ab hrc;have hF:=(uh H).below (uh hI).2.2.2.2.1;have c6:=hF.c6;have dc:Hid (Ob wr 240 24 D (cS bl)/\ew bl ((f.ow.take 0).foldl oV s)/\Ob wr 240 24 R (cS (replicate 24 false))/\Below w.heap.size w wr):=ab ⟨(uh hI).1,(uh hI).2.1,(uh hI).2.2.2.1,(uh hI).2.2.2.2.1⟩;have HMS:=ab (uh hI).2.2.1;clear hgn hrc hF hI;go_wp2_with fail
     go_loopg [5,25] f.ow.length (λgn gv i wx=>∃(j:Nat) (bl:List Bool),j+gn=f.ow.length/\i=.int .i64 j/\gv=.bool (decide (((f.ow.take j).foldl oV s).length≠s.length))/\Hid (Ob wx 240 24 D (cS bl)/\ew bl ((f.ow.take j).foldl oV s)/\Ob wx 240 24 R (cS (replicate 24 false))/\Below w.heap.size w wx))
     case atStart=>exact⟨0,bl,by omega,rfl,by simp,dc⟩
     case round =>
      clear dc c6;obtain⟨j,bl,xD,rfl,rfl,hJ⟩:=hrel;obtain⟨G2,BF⟩:∃G2,G2=gk:=⟨_,rfl⟩;have hF:=(uh H).below (uh hJ).2.2.2;have hDR:D≠R:=(by have:=uh HD;omega);obtain⟨m,hm⟩:∃m,m=(f.ow.take j).foldl oV s:=⟨_,rfl⟩;have lX:s.length<=m.length:=(by rw[hm];exact PF _);by_cases aq:j<f.ow.length
      .have hd:decide ((j:Int)<(f.ow.length:Int))=true:=(by simp;omega);obtain⟨g,cap,cM,-,-⟩:=az hF.ow aq;simp only[Value.slice.injEq,true_and]at cM;obtain⟨rfl,rfl⟩:=cM;obtain⟨x0,x1,x2⟩:=ax hF.ow aq;obtain⟨eE,vF⟩:=(uh HO).ow _ (aZ aq);have oT:=iG (g:=oV) (a:=s) aq;obtain⟨p,hp⟩:∃p,p=f.ow.getD j au:=⟨_,rfl⟩;rw[<-hp]at x0 x1 x2 eE vF oT;rw[<-hm]at hJ oT ⊢;obtain⟨gr,Tt⟩:∃gr,gr=decide (m.length≠s.length):=⟨_,rfl⟩;rw[<-Tt];have HGR:=ab Tt;obtain⟨W1,dI⟩:∃W1,W1=wr.alloc (.cells #[Value.int .i64 p.k,.int .i64 p.l,.int .i64 p.r] 182):=⟨_,rfl⟩;have bQ:Below wr.heap.size wr W1:=(by rw[dI];exact ah wr _);have hX:Bk W1 wr.heap.size 182 [Value.int .i64 p.k,.int .i64 p.l,.int .i64 p.r]:=(by rw[dI];exact Bk.new wr _ _);have b1:=hX.cell 1 rfl;have b2:=hX.cell 2 rfl;have oD:Ob W1 240 24 D (cS bl):=(uh hJ).1.of_eq (bQ.block D (ownsRow.lt (uh hJ).1 D rfl).2);have oR:Ob W1 240 24 R (cS (replicate 24 false)):=(uh hJ).2.2.1.of_eq (bQ.block R (ownsRow.lt (uh hJ).2.2.1 R rfl).2);have a7:=(uh hJ).2.2.2.trans (bQ.mono (uh hJ).2.2.2.size);have QZ:=(uh hJ).2.1;have d1:=(ownsRow.cellAt oD p.l (by omega)).trans (eH (by rw[QZ.1];exact eE));have d2:=(ownsRow.cellAt oD p.r (by omega)).trans (eH (by rw[QZ.1];exact vF));have fz:=ownsRow.frozenAt oD p.r;have e1:bl.getD p.l false=decide (p.l∈m):=(by have:=QZ.2 p.l eE;cases hb:bl.getD p.l false <;> simp_all);have e2:bl.getD p.r false=decide (p.r∈m):=(by have:=QZ.2 p.r vF;cases hb:bl.getD p.r false <;> simp_all);rw[e1]at d1;rw[e2]at d2;have o1:=oD.stored p.r (.bool true);rw[kz]at o1;have i1:(0:Int)<=(j:Int):=(by omega);have i2:(j:Int)<(f.ow.length:Int):=(by omega);have i3:(p.l:Int)<(24:Int):=(by omega);have i4:(p.r:Int)<(24:Int):=(by omega);obtain⟨X,fS⟩:∃X,X=wr.heap.size:=⟨_,rfl⟩;rw[<-fS]at b1 b2;have KG:=ab oT;have HNo:Hid (oV m p=m->Ob W1 240 24 D (cS bl)/\ew bl ((f.ow.take (j+1)).foldl oV s)/\Ob W1 240 24 R (cS (replicate 24 false))/\Below w.heap.size w W1):=ab (λe=>⟨oD,by rw[oT,e];exact QZ,oR,a7⟩);have ajH:Hid (oV m p=m++[p.r]->Ob (W1.setCell ⟨D,p.r,none⟩ (.bool true)) 240 24 D (cS (bl.set p.r true))/\ew (bl.set p.r true) ((f.ow.take (j+1)).foldl oV s)/\Ob (W1.setCell ⟨D,p.r,none⟩ (.bool true)) 240 24 R (cS (replicate 24 false))/\Below w.heap.size w (W1.setCell ⟨D,p.r,none⟩ (.bool true))):=ab (λe=>⟨o1,by
        rw[oT,e];exact(QZ.add vF).congr (λd=>by simp only[mem_cons,mem_append,not_mem_nil,or_false];exact⟨λh=>h.elim zq1 zq0,λh=>h.elim zq1 zq0⟩),oR.of_eq (heap_setCell _ _ _ _ (λe=>hDR e.symm)),a7.setCell (p:=⟨D,p.r,none⟩) cq _⟩)
       clear bQ hX oD oR a7 QZ e1 e2 o1 oT hp hm hF hJ Tt;by_cases q1:p.l∈m
       .rw[show decide (p.l∈m)=true by simpa using q1]at d1;by_cases q2:p.r∈m
        .rw[show decide (p.r∈m)=true by simpa using q2]at d2;have HE:Hid (oV m p=m):=ab (by unfold oV;rw[if_neg (by rintro⟨-,h⟩;exact h q2)]);clear q1 q2;go_upto_region 12 with fail;rw[<-dI,<-fS];clear dI fS;go_wp2_with fail
         go_roundg (G2-1)
         case rel=>exact⟨j+1,bl,by omega,by go_num,by rw[uh KG,uh HE,<-uh HGR],ab (uh HNo (uh HE))⟩
         case measure=>omega
        .rw[show decide (p.r∈m)=false by simpa using q2]at d2;have HE:Hid (oV m p=m++[p.r]):=ab (by unfold oV;rw[if_pos ⟨q1,q2⟩]);clear q1 q2;go_upto_region 12 with fail;rw[<-dI,<-fS];clear dI fS;go_wp2_with fail
         go_roundg (G2-1)
         case rel=>exact⟨j+1,_,by omega,by go_num,by
          rw[uh KG,uh HE,length_append,length_singleton];rw[show decide (m.length+1≠s.length)=true by simp;omega],ab (uh ajH (uh HE))⟩
         case measure=>omega
       .rw[show decide (p.l∈m)=false by simpa using q1]at d1;have HE:Hid (oV m p=m):=ab (by unfold oV;rw[if_neg (by rintro⟨h,-⟩;exact q1 h)]);clear q1;go_upto_region 12 with fail;rw[<-dI,<-fS];clear dI fS;go_wp2_with fail
        go_roundg (G2-1)
        case rel=>exact⟨j+1,bl,by omega,by go_num,by rw[uh KG,uh HE,<-uh HGR],ab (uh HNo (uh HE))⟩
        case measure=>omega
      .have hd:decide ((j:Int)<(f.ow.length:Int))=false:=(by simp;omega);have AF:(f.ow.take j).foldl oV s=wy f s:=(by rw[take_of_length_le (by omega)];rfl);rw[AF]at hJ ⊢;obtain⟨n',rfl⟩:∃n',n=n'+1:=⟨n-1,by omega⟩;have hrn:UB f (n'+1) s=if (wy f s).length=s.length then s else UB f n' (wy f s):=rfl
       have bf:=(PG f.ow (uh HMS) (λp hp=>((uh HO).ow p hp).2)).1;have TD:dY (wy f s):=bf;have sQ:=TD.len;have afL:s.length<=(wy f s).length:=PF _;have HJ:Hid (Ob wr 240 24 D (cS bl)/\ew bl (wy f s)/\dY (wy f s)/\Ob wr 240 24 R (cS (replicate 24 false))/\Below w.heap.size w wr):=ab ⟨(uh hJ).1,(uh hJ).2.1,TD,(uh hJ).2.2.1,(uh hJ).2.2.2⟩;by_cases r8:(wy f s).length=s.length
       .have lZ:wy f s=s:=by
         obtain⟨t,ht⟩:=Is f.ow s;have h1:wy f s=s++t:=ht;have h2:=congrArg List.length h1;rw[length_append]at h2;have:t=[]:=length_eq_zero_iff.1 (by omega);rw[h1,this,append_nil]
        have HE:Hid (wy f s=oJ f):=ab (by
         have h1:=uh HRC;rw[hrn,if_pos r8]at h1;rw[lZ];exact h1)
        rw[show decide ((wy f s).length≠s.length)=false by simp[r8]];clear lZ r8 AF hrn bf TD hJ afL sQ;go_wp2_with fail
        go_roundg 0
        case rel=>exact⟨wy f s,bl,0,false,rfl,rfl,(uh HJ).2.2.1.len,ab ⟨(uh HJ).1,(uh HJ).2.1,(uh HJ).2.2.1,(uh HJ).2.2.2.1,(uh HJ).2.2.2.2,(λh=>by cases h),λ_=>uh HE⟩⟩
        case measure=>omega
       .have HE:Hid (UB f n' (wy f s)=oJ f/\24<n'+(wy f s).length):=ab ⟨by
         have h1:=uh HRC;rw[hrn,if_neg r8]at h1;exact h1,by omega⟩
        rw[show decide ((wy f s).length≠s.length)=true by simp[r8]];have bI:26-(wy f s).length<G:=(by omega);clear r8 AF hrn bf TD hJ afL;go_wp2_with fail
        go_roundg (26-(wy f s).length)
        case rel=>exact⟨wy f s,bl,n',true,rfl,rfl,(uh HJ).2.2.1.len,ab ⟨(uh HJ).1,(uh HJ).2.1,(uh HJ).2.2.1,(uh HJ).2.2.2.1,(uh HJ).2.2.2.2,(λ_=>uh HE),λh=>by cases h⟩⟩
        case measure=>omega
end
