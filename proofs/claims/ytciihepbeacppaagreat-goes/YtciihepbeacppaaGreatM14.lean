import Derived.Test.YtciihepbeacppaaGreatM13
import Derived.Deep.RegionHeld3
set_option maxRecDepth 100000
set_option maxHeartbeats 0
namespace Go.Proofs.YtciihepbeacppaaGreat
open Tryz Go.RowKit List World Below
set_option linter.unusedVariables false
theorem BU{w:World}{B e sz n k cap:Nat}{a:Option Addr}{xs:List Value}(h:w.ownsRow B e sz (.slice a n cap) n xs)(hk:k<=n):w.ownsRow B e sz (.slice a k cap) k (xs.take (k*sz)):=by
 have hl:=h.1;have hks:k*sz<=n*sz:=Nat.mul_le_mul_right _ hk;rcases h.2 with⟨h',hn⟩|⟨g',cap',cur,h',hb,hg,wV,iw,ix,tD⟩
 .simp only[Value.slice.injEq]at h';obtain⟨rfl,h2,rfl⟩:=h';have qt:n=0:=by omega
  have hk0:k=0:=by omega
  subst qt;subst hk0;refine⟨by simp,.inl ⟨rfl,?_⟩⟩;simp
 .simp only[Value.slice.injEq]at h';obtain⟨rfl,-,rfl⟩:=h';refine⟨by rw[length_take];omega,.inr ⟨g',cap,cur,rfl,hb,hg,by omega,iw,ix,?_⟩⟩;rw[<-tD,take_take,Nat.min_eq_left (by omega)]
theorem oK:∀(l:List Pr) (k:Nat),(aj l).take (k*3)=aj (l.take k)
 |[],k=>by simp[aj]
 |p::l,0=>by simp[aj]
 |p::l,k+1=>by
  have h1:=oK l k;have hx:∀(y:Pr) (m:List Pr),aj (y::m)=[Value.int .i64 y.k,.int .i64 y.l,.int .i64 y.r]++aj m:=λy m=>rfl;rw[take_succ_cons,hx,hx,<-h1,take_append];simp only[length_cons,length_nil];rw[take_of_length_le (by simp;omega),show(k+1)*3-(0+1+1+1)=k*3 by omega]
theorem BW{l:List Pr}{i:Nat}(hi:i<l.length)(p:Pr):(((aj l).set (i*3) (.int .i64 (p.k:Int))).set (i*3+1) (.int .i64 (p.l:Int))).set (i*3+2) (.int .i64 (p.r:Int))=aj (l.set i p):=by
 have g1:(l.set i ⟨p.k,(l.getD i az).l,(l.getD i az).r⟩).getD i az=⟨p.k,(l.getD i az).l,(l.getD i az).r⟩:=by
  rw[getD_eq_getElem?_getD,getElem?_set_self hi];rfl
 have g2:((l.set i ⟨p.k,(l.getD i az).l,(l.getD i az).r⟩).set i ⟨p.k,p.l,(l.getD i az).r⟩).getD i az=⟨p.k,p.l,(l.getD i az).r⟩:=by
  rw[getD_eq_getElem?_getD,getElem?_set_self (by simpa using hi)];rfl
 rw[j7 hi,gS (by simpa using hi),g1,ej (by simpa using hi),g2,set_set,set_set]
def uJ(L:List Pr)(x:Pr)(j:Nat):List Pr:=L.take j++x::L.drop j
theorem rp{L:List Pr}{x:Pr}{j:Nat}(hj:j<=L.length):(uJ L x j).length=L.length+1:=by unfold uJ;simp;omega
theorem Q0{L:List Pr}{x:Pr}{j i:Nat}(hj:j<=L.length)(hi:i<j):(uJ L x j).getD i az=L.getD i az:=by
 unfold uJ;rw[getD_eq_getElem?_getD,getElem?_append_left (by simp;omega),getElem?_take,if_pos hi,<-getD_eq_getElem?_getD]
theorem xT{L:List Pr}{x y:Pr}{j:Nat}(hj:j<=L.length):(uJ L x j).set j y=uJ L y j:=by
 unfold uJ;have e:(L.take j).length=j:=by simp;omega
 rw[set_append_right _ _ (by omega),e,Nat.sub_self,set_cons_zero]
theorem K4{L:List Pr}{j:Nat}(hj:j<L.length):uJ L (L.getD j az) (j+1)=uJ L (L.getD j az) j:=by
 unfold uJ;rw[dq hj,take_add_one,getElem?_eq_getElem hj,drop_eq_getElem_cons hj,append_assoc];rfl
theorem LB:∀(l:List Pr) {a:List Pr},a≠[]->l.foldl jV a≠[]
 |[],_,h=>h
 |p::r,a,h=>by
  rw[foldl_cons];refine LB r ?_;unfold jV;split
  .simp
  .exact h
theorem LE{l:List Pr}(h:l≠[]):l.foldl jV []≠[]:=by
 cases l with
 |nil=>exact absurd rfl h
 |cons p r =>
  rw[foldl_cons];refine LB r ?_;unfold jV;simp
theorem FL:∀(l:List Pr) {a:List Pr},(l.foldl jV a).length<=a.length+l.length
 |[],a=>by simp
 |p::r,a=>by
  rw[foldl_cons];have h1:=FL r (a:=jV a p);have h2:(jV a p).length<=a.length+1:=by unfold jV;split <;> simp
  simp only[length_cons];omega
theorem G7(p q:Pr):((p.k:Int)==(q.k:Int)&&((p.l:Int)==(q.l:Int)&&(p.r:Int)==(q.r:Int)))=BX p q:=by
 unfold BX;rw[aU,aU,aU,Bool.and_assoc]
theorem EO{W:World}{B g cap n i:Nat}{L:List Pr}(hr:W.ownsRow B 182 3 (.slice (some ⟨g,0,none⟩) n cap) n (aj L))(hn:n=L.length)(hi:i<n)(p:Pr):
  (((W.setCell ⟨g,i*3,none⟩ (.int .i64 (p.k:Int))).setCell ⟨g,i*3+1,none⟩ (.int .i64 (p.l:Int))).setCell ⟨g,i*3+2,none⟩ (.int .i64 (p.r:Int))).ownsRow B 182 3 (.slice (some ⟨g,0,none⟩) n cap) n (aj (L.set i p)) /\
  ((∃u,W.cell? ⟨g,i*3,none⟩=some u)/\(∃u,W.cell? ⟨g,i*3+1,none⟩=some u)/\∃u,W.cell? ⟨g,i*3+2,none⟩=some u) /\
  W.frozen? ⟨g,i*3,none⟩=false/\W.frozen? ⟨g,i*3+1,none⟩=false/\W.frozen? ⟨g,i*3+2,none⟩=false:=by
 subst hn;have r3:=(((hr.stored (i*3) (.int .i64 (p.k:Int))).1.stored (i*3+1) (.int .i64 (p.l:Int))).1.stored (i*3+2) (.int .i64 (p.r:Int))).1;rw[BW hi]at r3;obtain⟨x0,x1,x2⟩:=aA (bW hr (zq5 _)) hi;exact⟨r3,⟨⟨_,x0⟩,⟨_,x1⟩,⟨_,x2⟩⟩,hr.frozenAt _,hr.frozenAt _,hr.frozenAt _⟩
section
variable {w:World} {v:Value} {l:List Pr}
theorem ug(h:w.ownsRow 0 182 3 v l.length (aj l))(hl:l.length<=100000):Calls prog 226 #[v] w λe w'=>∃v',e=.returned v'/\w'.ownsRow w.heap.size 182 3 v' (l6 l).length (aj (l6 l))/\Below w.heap.size w w':=by
 obtain⟨i0,iy,dG,du,ef⟩:=info_parts infoPair;obtain⟨va,vc,Em,Jr,NE⟩:=ah h;subst Em;have H:=ab h;have px:Hid ((w.alloc (.cells #[] 182)).ownsRow w.heap.size 182 3 (.slice (some ⟨w.heap.size,0,none⟩) 0 0) ((l.take 0).foldl eJ []).length (aj ((l.take 0).foldl eJ []))/\Below w.heap.size w (w.alloc (.cells #[] 182))):=ab ⟨ownsRow_lit (base:=w.heap.size) (e:=182) (size:=3) w #[] 0 (zq4 _) (by simp[maxLen]) rfl,af w _⟩;clear h;go_enter func226,ntmps226;go_wp2_with fail
 go_loopg [3,12] l.length (λgn rv i wx=>∃(k:Nat),k+gn=l.length/\i=.int .i64 k/\Hid (wx.ownsRow w.heap.size 182 3 rv ((l.take k).foldl eJ []).length (aj ((l.take k).foldl eJ []))/\Below w.heap.size w wx))
 case atStart=>exact⟨0,by omega,rfl,px⟩
 case round =>
  clear px;obtain⟨k,fC,rfl,hI⟩:=hrel;obtain⟨G,hG⟩:∃G,G=gk:=⟨_,rfl⟩;obtain⟨ra,rc,Kn,-,-⟩:=ah (uh hI).1;subst Kn;have kz:=oh (l.take k) (a:=[]) List.Pairwise.nil;have dg:=kz.2.2;rw[length_take]at dg;simp only[length_nil,Nat.zero_add]at dg;by_cases ar:k<l.length
  .have hd:decide ((k:Int)<(l.length:Int))=true:=(by simp;omega);have hF:=b8 (uh H) (uh hI).2;obtain⟨g,cap,cM,-,-⟩:=aC hF ar;simp only[Value.slice.injEq,true_and]at cM;obtain⟨rfl,rfl⟩:=cM;obtain⟨x0,x1,x2⟩:=aA hF ar;have nD:=ip (g:=eJ) (a:=[]) ar;obtain⟨p,hp⟩:∃p,p=l.getD k az:=⟨_,rfl⟩;rw[<-hp]at x0 x1 x2 nD;obtain⟨L,hL⟩:∃L,L=(l.take k).foldl eJ []:=⟨_,rfl⟩;rw[<-hL]at hI nD dg ⊢;have X9:L.length=k:=(by omega);have ii:=ab ((uh hI).1.alloc (.cells #[.int .i64 (p.k:Int),.int .i64 (p.l:Int),.int .i64 (p.r:Int)] 182));have cY:=ab ((uh hI).2.alloc (uh hI).2.size (.cells #[.int .i64 (p.k:Int),.int .i64 (p.l:Int),.int .i64 (p.r:Int)] 182));have uZ:=ab (Bk.new wr 182 [.int .i64 (p.k:Int),.int .i64 (p.l:Int),.int .i64 (p.r:Int)]);have mI:=(uh hI).1.lt;have PV:=ab mI;have J3:=ab nD;have i1:(0:Int)<=(k:Int):=(by omega);have i2:(k:Int)<(l.length:Int):=(by omega);have hLb:L.length<=100000:=(by omega);have PR:=ab X9;have jO:=(uh hI).2.size;clear hp hF nD hL dg kz hI mI X9;go_wp2_with (at_builtin;refine aK _ rfl (.tmp 16) (.tmp 18) 177 rfl w.heap.size 182 i0 _ 3 24 underlying177 iy dG du ef rfl (by decide) _ L.length (aj L) rfl ((uh ii).alloc _) ⟨_,0,none⟩ 1 [.int .i64 (p.k:Int),.int .i64 (p.l:Int),.int .i64 (p.r:Int)] rfl rfl (aJ _ _ (by simp) [.int .i64 (p.k:Int),.int .i64 (p.l:Int),.int .i64 (p.r:Int)] _) (oJ p) (by omega) (by omega) (by simp;omega) ?_)
   intro g4 cap4 w4 dO bU gi;have gX:Below w.heap.size w w4:=by
    have hb:=(uh cY).alloc (uh cY).size (.cells #[.int .i64 (p.k:Int),.int .i64 (p.l:Int),.int .i64 (p.r:Int)] 182);exact hb.grown bU hb.size (λk hk=>((uh ii).lt k hk).1)
   obtain⟨X,hX⟩:∃X,X=wr.heap.size:=⟨_,rfl⟩;have CO:Bk w4 X 182 [.int .i64 (p.k:Int),.int .i64 (p.l:Int),.int .i64 (p.r:Int)]:=by
    rw[hX];refine((uh uZ).alloc _).of_eq (bU.block _ (by simp;omega) (λe=>?_));have:=(uh PV _ e.symm).2;omega
   have hgX:g4≠X:=by
    rw[hX];rintro rfl;rcases gi with e|e
    .have:=(uh PV _ e.symm).2;omega
    .omega
   have fe:w4.ownsRow w.heap.size 182 3 (.slice (some ⟨g4,0,none⟩) (L.length+1) cap4) (L.length+1) (aj (uJ L p L.length)):=by
    have e:uJ L p L.length=L++[p]:=(by unfold uJ;rw[take_length,drop_length]);rw[e,ec];exact dO
   have dy:Hid (w4.ownsRow w.heap.size 182 3 (.slice (some ⟨g4,0,none⟩) (L.length+1) cap4) (L.length+1) (aj (uJ L p L.length))/\Bk w4 X 182 [.int .i64 (p.k:Int),.int .i64 (p.l:Int),.int .i64 (p.r:Int)]/\Below w.heap.size w w4):=ab ⟨fe,CO,gX⟩;have HGX:=ab hgX;have HX:=ab hX;rw[<-hX];clear dO bU gi gX CO fe hX x0 x1 x2 ii uZ hgX;go_wp2_with fail
   go_loopg [6] L.length (λgn i wx=>∃(x:Pr),gn<=L.length/\i=.int .i64 gn/\zC p L gn=zC p L L.length/\Hid (wx.ownsRow w.heap.size 182 3 (.slice (some ⟨g4,0,none⟩) (L.length+1) cap4) (L.length+1) (aj (uJ L x gn))/\Bk wx X 182 [.int .i64 (p.k:Int),.int .i64 (p.l:Int),.int .i64 (p.r:Int)]/\Below w.heap.size w wx))
   case atStart=>exact⟨p,zq4 _,by go_num,rfl,dy⟩
   case round =>
    clear dy;obtain⟨x,hj,rfl,Ep,hJ⟩:=hrel;obtain⟨b0,b1,b2⟩:wr.cell? ⟨X,0,none⟩=some (.int .i64 (p.k:Int))/\wr.cell? ⟨X,1,none⟩=some (.int .i64 (p.l:Int))/\wr.cell? ⟨X,2,none⟩=some (.int .i64 (p.r:Int)):=⟨(uh hJ).2.1.cell 0 rfl,(uh hJ).2.1.cell 1 rfl,(uh hJ).2.1.cell 2 rfl⟩;cases gk with
    |zero =>
     have HWH:=ab Ep;have HAL:=ab (rp (L:=L) (x:=x) hj);have d0:decide ((0:Int)<0)=false:=(by decide);clear Ep;obtain⟨w5,Bx⟩:∃w5,w5=wr:=⟨_,rfl⟩;have gH:Hid (Below wr.heap.size wr w5):=ab (by rw[Bx];exact Below.refl _ _);have b6:=uh gH;have tx:=b8 (uh hJ).1 b6;have Kg:=(uh hJ).2.1.below b6;obtain⟨r6,⟨⟨u0,y0⟩,⟨u1,y1⟩,⟨u2,y2⟩⟩,f0,f1,f2⟩:=EO tx (uh HAL).symm (i:=0) (by omega) p;rw[xT hj]at r6;have bZ:w.heap.size<=g4:=((uh hJ).1.lt g4 rfl).1;have gh:=((((uh hJ).2.2.trans (b6.mono (uh hJ).2.2.size)).setCell (p:=⟨g4,(0)*3,none⟩) bZ (.int .i64 (p.k:Int))).setCell (p:=⟨g4,(0)*3+1,none⟩) bZ (.int .i64 (p.l:Int))).setCell (p:=⟨g4,(0)*3+2,none⟩) bZ (.int .i64 (p.r:Int));have z0:=Kg.cell 0 rfl;have z1:=Kg.cell 1 rfl;have z2:=Kg.cell 2 rfl;have HN:Hid (((((w5.setCell ⟨g4,(0)*3,none⟩ (.int .i64 (p.k:Int))).setCell ⟨g4,(0)*3+1,none⟩ (.int .i64 (p.l:Int))).setCell ⟨g4,(0)*3+2,none⟩ (.int .i64 (p.r:Int)))).ownsRow w.heap.size 182 3 (.slice (some ⟨g4,0,none⟩) (L.length+1) cap4) ((l.take (k+1)).foldl eJ []).length (aj ((l.take (k+1)).foldl eJ []))/\Below w.heap.size w ((((w5.setCell ⟨g4,(0)*3,none⟩ (.int .i64 (p.k:Int))).setCell ⟨g4,(0)*3+1,none⟩ (.int .i64 (p.l:Int))).setCell ⟨g4,(0)*3+2,none⟩ (.int .i64 (p.r:Int))))):=ab ⟨by
      have e:(l.take (k+1)).foldl eJ []=uJ L p (0):=(by rw[uh J3];unfold eJ uJ;rw[<-uh HWH];rfl);rw[e,rp hj];exact r6,gh⟩
     have i5:(0:Int)<(L.length:Int)+1:=(by omega);clear b6 tx Kg r6 gh bZ gH;subst Bx;go_wp2_with fail
     go_quiet (fail)
     go_wp2_with fail
     go_roundg (G-1)
     case rel=>exact⟨k+1,by omega,by go_num,ab ⟨(uh HN).1,⟨(uh HN).2.os,(uh HN).2.tape,(uh HN).2.output,(uh HN).2.size,(uh HN).2.block⟩⟩⟩
     case measure=>omega
    |succ m =>
     have hr:=(uh hJ).1;have mG:=rp (L:=L) (x:=x) hj;have Jj:wr.ownsRow w.heap.size 182 3 (.slice (some ⟨g4,0,none⟩) (uJ L x (m+1)).length cap4) (uJ L x (m+1)).length (aj (uJ L x (m+1))):=(by rw[mG];exact hr);obtain⟨x0,x1,x2⟩:=aA (bW Jj (zq5 _)) (i:=m) (by rw[mG];omega);rw[Q0 hj (by omega)]at x0 x1 x2;have hwm:zC p L (m+1)=if Kc p (L.getD m az)=true then zC p L m else m+1:=rfl
     have hdn:=K4 (L:=L) (j:=m) (by omega);have hpu:=xT (L:=L) (x:=x) (y:=L.getD m az) hj;obtain⟨q,hq⟩:∃q,q=L.getD m az:=⟨_,rfl⟩;rw[<-hq]at x0 x1 x2 hwm hdn hpu;have nJ:Hid (∀W:World,Calls prog 249 #[.agg #[.int .i64 (p.k:Int),.int .i64 (p.l:Int),.int .i64 (p.r:Int)],.agg #[.int .i64 (q.k:Int),.int .i64 (q.l:Int),.int .i64 (q.r:Int)]] W λe w'=>e=.returned (.bool (Kc p q))/\Below W.heap.size W w'):=ab (λW=>Dm p q);have d0:decide ((0:Int)<(m:Int)+1)=true:=(by simp);have i3:(0:Int)<=(m:Int):=(by omega);have i4:(m:Int)<(L.length:Int)+1:=(by omega);have hq0:IntKind.i64.wrap (m:Int)=(m:Int):=(by rw[IntKind.wrap_i64];omega);have pm:=(uh hJ).2.1.lt;have gE:=((uh hJ).1.lt g4 rfl).2;have HWM:=ab hwm;have HDN:=ab hdn;have HPU:=ab hpu;have HAL:=ab mG;have HWH:=ab Ep;clear hr Jj mG hwm hdn hpu hq Ep;cases VC:Kc p q with
     |true =>
      rw[VC]at nJ HWM;clear VC;go_wp2_with fail
      go_region_held3 (λW=>W.cell? ⟨X,0,none⟩=some (.int .i64 (p.k:Int))/\W.cell? ⟨X,1,none⟩=some (.int .i64 (p.l:Int))/\W.cell? ⟨X,2,none⟩=some (.int .i64 (p.r:Int))/\W.cell? ⟨g4,m*3,none⟩=some (.int .i64 (q.k:Int))/\W.cell? ⟨g4,m*3+1,none⟩=some (.int .i64 (q.l:Int))/\W.cell? ⟨g4,m*3+2,none⟩=some (.int .i64 (q.r:Int))) (first|(simp only[cell?_drew,b0,b1,b2,x0,x1,x2,and_self];done)|(simp only[q0,q1,q2,q3,q4,q5,and_self];done))
       (first
        |(go_at_call 249;refine(uh nJ _).mono ?_;rintro e w5 ⟨rfl,b6⟩;have gH:Hid (Below wr.heap.size wr w5):=ab ⟨b6.os,b6.tape,b6.output,b6.size,b6.block⟩;have q0:=((uh gH).cell pm).trans b0;have q1:=((uh gH).cell pm).trans b1;have q2:=((uh gH).cell pm).trans b2;have q3:=((uh gH).cell gE).trans x0;have q4:=((uh gH).cell gE).trans x1;have q5:=((uh gH).cell gE).trans x2;clear b6))
      have b6:=uh gH;have tx:=b8 (uh hJ).1 b6;have Kg:=(uh hJ).2.1.below b6;obtain⟨r6,⟨⟨u0,y0⟩,⟨u1,y1⟩,⟨u2,y2⟩⟩,f0,f1,f2⟩:=EO tx (uh HAL).symm (i:=m+1) (by omega) q;rw[uh HPU,uh HDN]at r6;have bZ:w.heap.size<=g4:=((uh hJ).1.lt g4 rfl).1;have gh:=((((uh hJ).2.2.trans (b6.mono (uh hJ).2.2.size)).setCell (p:=⟨g4,(m+1)*3,none⟩) bZ (.int .i64 (q.k:Int))).setCell (p:=⟨g4,(m+1)*3+1,none⟩) bZ (.int .i64 (q.l:Int))).setCell (p:=⟨g4,(m+1)*3+2,none⟩) bZ (.int .i64 (q.r:Int));have hX6:=((Kg.setO (p:=⟨g4,(m+1)*3,none⟩) (uh HGX) (.int .i64 (q.k:Int))).setO (p:=⟨g4,(m+1)*3+1,none⟩) (uh HGX) (.int .i64 (q.l:Int))).setO (p:=⟨g4,(m+1)*3+2,none⟩) (uh HGX) (.int .i64 (q.r:Int));have HN:=ab (zq2 r6 (zq2 hX6 gh));have i5:(m:Int)+1<(L.length:Int)+1:=(by omega);have i6:(0:Int)<=(m:Int)+1:=(by omega);have J8:Hid (zC p L m=zC p L L.length):=ab (by rw[<-uh HWH,uh HWM];rfl);clear b6 tx Kg r6 gh hX6 bZ;go_wp2_with fail
      go_roundg m
      case rel=>exact⟨q,by omega,by go_num,uh J8,HN⟩
      case measure=>omega
     |false =>
      rw[VC]at nJ HWM;clear VC;go_wp2_with fail
      go_region_held3 (λW=>W.cell? ⟨X,0,none⟩=some (.int .i64 (p.k:Int))/\W.cell? ⟨X,1,none⟩=some (.int .i64 (p.l:Int))/\W.cell? ⟨X,2,none⟩=some (.int .i64 (p.r:Int))/\W.cell? ⟨g4,m*3,none⟩=some (.int .i64 (q.k:Int))/\W.cell? ⟨g4,m*3+1,none⟩=some (.int .i64 (q.l:Int))/\W.cell? ⟨g4,m*3+2,none⟩=some (.int .i64 (q.r:Int))) (first|(simp only[cell?_drew,b0,b1,b2,x0,x1,x2,and_self];done)|(simp only[q0,q1,q2,q3,q4,q5,and_self];done))
       (first
        |(go_at_call 249;refine(uh nJ _).mono ?_;rintro e w5 ⟨rfl,b6⟩;have gH:Hid (Below wr.heap.size wr w5):=ab ⟨b6.os,b6.tape,b6.output,b6.size,b6.block⟩;have q0:=((uh gH).cell pm).trans b0;have q1:=((uh gH).cell pm).trans b1;have q2:=((uh gH).cell pm).trans b2;have q3:=((uh gH).cell gE).trans x0;have q4:=((uh gH).cell gE).trans x1;have q5:=((uh gH).cell gE).trans x2;clear b6))
      have b6:=uh gH;have tx:=b8 (uh hJ).1 b6;have Kg:=(uh hJ).2.1.below b6;obtain⟨r6,⟨⟨u0,y0⟩,⟨u1,y1⟩,⟨u2,y2⟩⟩,f0,f1,f2⟩:=EO tx (uh HAL).symm (i:=m+1) (by omega) p;rw[xT hj]at r6;have bZ:w.heap.size<=g4:=((uh hJ).1.lt g4 rfl).1;have gh:=((((uh hJ).2.2.trans (b6.mono (uh hJ).2.2.size)).setCell (p:=⟨g4,(m+1)*3,none⟩) bZ (.int .i64 (p.k:Int))).setCell (p:=⟨g4,(m+1)*3+1,none⟩) bZ (.int .i64 (p.l:Int))).setCell (p:=⟨g4,(m+1)*3+2,none⟩) bZ (.int .i64 (p.r:Int));have z0:=Kg.cell 0 rfl;have z1:=Kg.cell 1 rfl;have z2:=Kg.cell 2 rfl;have HN:Hid (((((w5.setCell ⟨g4,(m+1)*3,none⟩ (.int .i64 (p.k:Int))).setCell ⟨g4,(m+1)*3+1,none⟩ (.int .i64 (p.l:Int))).setCell ⟨g4,(m+1)*3+2,none⟩ (.int .i64 (p.r:Int)))).ownsRow w.heap.size 182 3 (.slice (some ⟨g4,0,none⟩) (L.length+1) cap4) ((l.take (k+1)).foldl eJ []).length (aj ((l.take (k+1)).foldl eJ []))/\Below w.heap.size w ((((w5.setCell ⟨g4,(m+1)*3,none⟩ (.int .i64 (p.k:Int))).setCell ⟨g4,(m+1)*3+1,none⟩ (.int .i64 (p.l:Int))).setCell ⟨g4,(m+1)*3+2,none⟩ (.int .i64 (p.r:Int))))):=ab ⟨by
       have e:(l.take (k+1)).foldl eJ []=uJ L p (m+1):=(by rw[uh J3];unfold eJ uJ;rw[<-uh HWH,uh HWM];rfl);rw[e,rp hj];exact r6,gh⟩
      have i5:(m:Int)+1<(L.length:Int)+1:=(by omega);have i6:(0:Int)<=(m:Int)+1:=(by omega);clear b6 tx Kg r6 gh bZ;go_wp2_with fail
      go_roundg (G-1)
      case rel=>exact⟨k+1,by omega,by go_num,HN⟩
      case measure=>omega
  .have hd:decide ((k:Int)<(l.length:Int))=false:=(by simp;omega);have gy:k=l.length:=(by omega);have Yg:(l.take k).foldl eJ []=l.foldl eJ []:=(by rw[gy,take_length]);rw[Yg]at hI dg ⊢;have hSR:l6 l=(l.foldl eJ []).foldl jV []:=rfl;obtain⟨S,hS⟩:∃S,S=l.foldl eJ []:=⟨_,rfl⟩;rw[<-hS]at hI dg hSR ⊢;have P6:S.length<=100000:=(by omega);have HSR:=ab hSR;clear hS Yg hSR gy kz dg;go_wp2_with fail
   go_loopw [7,8] (λkv iv wx=>∃(i:Nat) (cur:List Pr),i<=S.length/\iv=.int .i64 i/\kv=.int .i64 (((S.take i).foldl jV []).length:Nat)/\Hid (wx.ownsRow w.heap.size 182 3 (.slice ra S.length rc) S.length (aj cur)/\cur.length=S.length/\cur.take ((S.take i).foldl jV []).length=(S.take i).foldl jV []/\cur.drop i=S.drop i/\Below w.heap.size w wx)) (λ_ iv _=>S.length-(intOf iv).toNat)
   case atStart=>exact⟨0,S,zq5 _,rfl,rfl,ab ⟨(uh hI).1,rfl,by simp,rfl,(uh hI).2⟩⟩
   case round =>
    clear hI;obtain⟨i,cur,hi,rfl,rfl,hJ⟩:=hrel;have vt:=FL (S.take i) (a:=[]);rw[length_take]at vt;simp only[length_nil,Nat.zero_add]at vt;by_cases ar:i<S.length
    .have gx:decide ((i:Int)<(S.length:Int))=true:=(by simp;omega);obtain⟨g,cap,cM,-,-⟩:=aS (uh hJ).1 (by omega);simp only[Value.slice.injEq,true_and]at cM;obtain⟨rfl,rfl,-⟩:=cM;have de:=(uh hJ).2.1;have Jj:wr.ownsRow 0 182 3 (.slice (some ⟨g,0,none⟩) cur.length rc) cur.length (aj cur):=(by rw[de];exact bW (uh hJ).1 (zq5 _));obtain⟨x0,x1,x2⟩:=aA Jj (i:=i) (by omega);have hci:cur.getD i az=S.getD i az:=by
      have h1:=congrArg (λm=>m.getD 0 az) (uh hJ).2.2.2.1;simpa[getD_eq_getElem?_getD,getElem?_drop] using h1
     have Sy:=ip (g:=jV) (a:=[]) ar;obtain⟨K,hK⟩:∃K,K=(S.take i).foldl jV []:=⟨_,rfl⟩;obtain⟨p,hp⟩:∃p,p=S.getD i az:=⟨_,rfl⟩;rw[hci,<-hp]at x0 x1 x2;rw[<-hK]at hJ vt Sy ⊢;rw[<-hp]at Sy;have hKi:K.length<=i:=(by omega);obtain⟨r6,⟨⟨u0,y0⟩,⟨u1,y1⟩,⟨u2,y2⟩⟩,f0,f1,f2⟩:=EO (uh hJ).1 de.symm (i:=K.length) (by omega) p;have bZ:w.heap.size<=g:=((uh hJ).1.lt g rfl).1;have gh:=(((uh hJ).2.2.2.2.setCell (p:=⟨g,K.length*3,none⟩) bZ (.int .i64 (p.k:Int))).setCell (p:=⟨g,K.length*3+1,none⟩) bZ (.int .i64 (p.l:Int))).setCell (p:=⟨g,K.length*3+2,none⟩) bZ (.int .i64 (p.r:Int));have pP:∀K':List Pr,K'=K++[p]->(cur.set K.length p).length=S.length/\(cur.set K.length p).take K'.length=K'/\(cur.set K.length p).drop (i+1)=S.drop (i+1):=by
      rintro K' rfl;refine⟨by simpa using de,?_,?_⟩
      .have h1:=(uh hJ).2.2.1;rw[length_append,length_singleton,take_add_one,getElem?_set_self (by omega),take_set_of_le (zq4 _),h1];rfl
      .rw[drop_set_of_lt (by omega)];have h1:=congrArg (λm=>m.drop 1) (uh hJ).2.2.2.1;simpa[drop_drop,Nat.add_comm] using h1
     have QL:=ab r6;have mO:=ab gh;have HPT:=ab pP;have fG:jV K p=K->cur.take (jV K p).length=jV K p/\cur.drop (i+1)=S.drop (i+1):=λe=>by
      rw[e];refine⟨(uh hJ).2.2.1,?_⟩;have h1:=congrArg (λm=>m.drop 1) (uh hJ).2.2.2.1;simpa[drop_drop,Nat.add_comm] using h1
     have HKP:=ab fG;have WB:=ab Sy;have i1:(0:Int)<=(i:Int):=(by omega);have i2:(i:Int)<(S.length:Int):=(by omega);have i3:(K.length:Int)<(S.length:Int):=(by omega);by_cases iy:i=0
     .have hKe:K=[]:=(by rw[hK,iy];rfl);have Cy:Hid (jV K p=K++[p]):=ab (by unfold jV;rw[if_pos (zq0 hKe)]);have d0:((i:Int)==0)=true:=(by simp[iy]);obtain⟨kl,gy⟩:∃kl,kl=K.length:=⟨_,rfl⟩;rw[<-gy]at QL mO HPT y0 y1 y2 f0 f1 f2 i3 vt ⊢;have HKL:=ab gy;clear hp hK Sy r6 gh pP fG Jj hci hKi bZ de hKe iy gy;go_wp2_with fail
      go_quiet (fail)
      go_wp2_with fail
      go_roundw
      case rel=>exact⟨i+1,_,by omega,by go_num,by rw[uh WB,uh Cy,length_append,length_singleton,<-uh HKL];go_num,ab (by
       rw[uh WB,uh Cy];obtain⟨h1,h2,h3⟩:=uh HPT _ rfl;exact⟨uh QL,h1,h2,h3,⟨(uh mO).os,(uh mO).tape,(uh mO).output,(uh mO).size,(uh mO).block⟩⟩)⟩
      case measure=>simp[intOf];omega
     .have hKn:K≠[]:=by
       rw[hK];refine LE (λe=>?_);have:=congrArg List.length e;rw[length_take,length_nil]at this;omega
      obtain⟨n,hn⟩:∃n,K.length=n+1:=⟨K.length-1,by have:=length_pos_iff.2 hKn;omega⟩;have fs:cur.getD n az=K.getD n az:=by
       have h1:=congrArg (λm=>m.getD n az) (uh hJ).2.2.1;simp only[getD_eq_getElem?_getD,getElem?_take]at h1 ⊢;rw[if_pos (by omega)]at h1;exact h1
      obtain⟨z0,z1,z2⟩:=aA Jj (i:=n) (by omega);obtain⟨q,hq⟩:∃q,q=K.getD n az:=⟨_,rfl⟩;rw[fs,<-hq]at z0 z1 z2;have Qa:jV K p=if BX p q=false then K++[p] else K:=by
       unfold jV;rw[hn,Nat.add_sub_cancel,<-hq];by_cases e:BX p q=false
       .rw[if_pos (zq1 e),if_pos e]
       .rw[if_neg (by rw[not_or];exact⟨hKn,e⟩),if_neg e]
      have Cy:=ab Qa;have d0:((i:Int)==0)=false:=(by simp;omega);have hq0:IntKind.i64.wrap (n:Int)=(n:Int):=(by rw[IntKind.wrap_i64];omega);have i4:(n:Int)<(S.length:Int):=(by omega);have i5:(0:Int)<=(n:Int):=(by omega);have HKL:=ab hn;rw[hn]at QL mO HPT y0 y1 y2 f0 f1 f2 i3 vt ⊢;rw[show((n+1:Nat):Int)=(n:Int)+1 by omega]at i3;clear hp hK Sy r6 gh pP fG Jj hci hKi bZ de iy hKn fs hq Qa hn;have hgd:=Mr;have yC:∀W:World,(binOp .neq 182 (.agg #[.int .i64 (p.k:Int),.int .i64 (p.l:Int),.int .i64 (p.r:Int)]) (.agg #[.int .i64 (q.k:Int),.int .i64 (q.l:Int),.int .i64 (q.r:Int)])).run prog W=.ok (.bool (!BX p q)) W:=λW=>by rw[afa,G7]
      cases SU:BX p q
      .rw[SU]at Cy yC;rw[show(!false)=true from rfl]at yC;have WA:Hid (jV K p=K++[p]):=ab (uh Cy);clear Cy SU;go_wp2_with fail
       go_quiet (fail)
       go_wp2_with fail
       go_roundw
       case rel=>exact⟨i+1,_,by omega,by go_num,by rw[uh WB,uh WA,length_append,length_singleton,uh HKL];go_num,ab (by
        rw[uh WB,uh WA];obtain⟨h1,h2,h3⟩:=uh HPT _ rfl;exact⟨uh QL,h1,h2,h3,⟨(uh mO).os,(uh mO).tape,(uh mO).output,(uh mO).size,(uh mO).block⟩⟩)⟩
       case measure=>simp[intOf];omega
      .rw[SU]at Cy yC;rw[show(!true)=false from rfl]at yC;have WA:Hid (jV K p=K):=ab (uh Cy);clear Cy SU;go_wp2_with fail
       go_quiet (fail)
       go_wp2_with fail
       go_roundw
       case rel=>exact⟨i+1,cur,by omega,by go_num,by rw[uh WB,uh WA,uh HKL],ab (by
        obtain⟨h2,h3⟩:=uh HKP (uh WA);rw[uh WB];exact⟨(uh hJ).1,(uh hJ).2.1,h2,h3,⟨(uh hJ).2.2.2.2.os,(uh hJ).2.2.2.2.tape,(uh hJ).2.2.2.2.output,(uh hJ).2.2.2.2.size,(uh hJ).2.2.2.2.block⟩⟩)⟩
       case measure=>simp[intOf];omega
    .have gx:decide ((i:Int)<(S.length:Int))=false:=(by simp;omega);have Nc:(S.take i).foldl jV []=l6 l:=(by rw[take_of_length_le (by omega)];exact(uh HSR).symm);rw[Nc]at hJ vt ⊢;have hKS:(l6 l).length<=S.length:=(by omega);have HRT:Hid (wr.ownsRow w.heap.size 182 3 (.slice ra (l6 l).length rc) (l6 l).length (aj (l6 l))):=ab (by
      have h1:=BU (uh hJ).1 hKS;rw[oK,(uh hJ).2.2.1]at h1;exact h1)
     have HBT:=ab (uh hJ).2.2.2.2;obtain⟨n,hn⟩:∃n,n=(l6 l).length:=⟨_,rfl⟩;rw[<-hn]at HRT hKS ⊢;have hrc:S.length<=rc:=by
      obtain⟨a1,c1,h1,h2,h3⟩:=ah (uh hJ).1;simp only[Value.slice.injEq,true_and]at h1;omega
     have q1:(0:Int)<=(n:Int):=(by omega);have q2:(n:Int)<=(rc:Int):=(by omega);have vY:=ab hn;clear Nc hJ vt hn HSR;go_wp2_with fail
     go_ret;exact⟨_,rfl,by rw[<-uh vY];exact uh HRT,uh HBT⟩
end
theorem JD{g:Pr->Pr}{l:List Pr}{k:Nat}(hk:k<l.length)(h:g (l.getD k az)=l.getD k az):br g l (k+1)=br g l k:=by
 rw[jF hk,h];have h1:=jE (g:=g) hk;rw[<-h1];exact xB (by rw[iE];exact hk)
section
variable {w:World} {A:Nat} {f:CF} {av ov:Value}
theorem JI(h:Fm w A f av ov)(ha:f.ap.length<=100000)(ho:f.ow.length<=100000):Calls prog 199 #[.pointer (some ⟨A,0,none⟩)] w λe w'=>e=.returned (.tuple #[])/\∃av' ov',Fm w' A (orF f) av' ov'/\am (aG A av ov) w (aG A av' ov') w':=by
 have c6:=h.is.c6;have HSO:=ab (ug h.is.ow ho);have H:=ab h;obtain⟨oa,oc,dB,-,-⟩:=ah h.is.ow;subst dB;obtain⟨aa,ac,eS,-,-⟩:=ah h.is.ap;subst eS;clear h;go_enter func199,ntmps199;go_wp2_with fail
 refine(uh HSO).mono ?_;rintro e w1 ⟨v1,rfl,k7,aO⟩;obtain⟨a1,k1,rfl⟩:=bm k7;have cN:am (Value.slice oa f.ow.length oc).ownBlock.toList w (Value.slice a1 (l6 f.ow).length k1).ownBlock.toList w1:=(am.ofBw (F:=(Value.slice oa f.ow.length oc).ownBlock.toList) aO).foots (λj hj=>zq1 (k7.lt j (by simpa using hj)).1);obtain⟨iT,mt⟩:=(uh H).newOv (ow':=l6 f.ow) cN (v':=.slice a1 (l6 f.ow).length k1) (λj hj=>by simpa using hj) (bW k7 (zq5 _));have IL:=(uh H).below aO;have d6:=IL.is.c6;have f6:=ownsRow.frozenAt IL.is.ob 6;obtain⟨w2,lQ⟩:∃w2,w2=w1.setCell ⟨A,6,none⟩ (.slice a1 (l6 f.ow).length k1):=⟨_,rfl⟩;rw[<-lQ]at iT mt;have bR:Hid (Fm w2 A { f with ow:=l6 f.ow,ap:=br jp f.ap 0 } (.slice aa f.ap.length ac) (.slice a1 (l6 f.ow).length k1)/\am (aG A (.slice aa f.ap.length ac) (.slice oa f.ow.length oc)) w (aG A (.slice aa f.ap.length ac) (.slice a1 (l6 f.ow).length k1)) w2):=ab ⟨by simpa[br] using iT,mt⟩;clear k7 aO cN iT mt IL HSO c6;obtain⟨n1,jg⟩:∃n1,n1=(l6 f.ow).length:=⟨_,rfl⟩;rw[<-jg]at lQ bR ⊢;have Fk:=ab jg;clear jg;go_upto_region 1 with fail;rw[<-lQ];clear lQ d6 f6;go_wp2_with fail
 go_loopw [2] (λi wx=>∃(k:Nat),k<=f.ap.length/\i=.int .i64 k/\Hid (Fm wx A { f with ow:=l6 f.ow,ap:=br jp f.ap k } (.slice aa f.ap.length ac) (.slice a1 n1 k1)/\am (aG A (.slice aa f.ap.length ac) (.slice oa f.ow.length oc)) w (aG A (.slice aa f.ap.length ac) (.slice a1 n1 k1)) wx)) (λi _=>f.ap.length-(intOf i).toNat)
 case atStart=>exact⟨0,zq5 _,rfl,bR⟩
 case round =>
  clear bR;obtain⟨k,hk,rfl,hI⟩:=hrel;have dl:=iE jp f.ap k;have c5:=(uh hI).1.is.c5;by_cases ar:k<f.ap.length
  .have hd:decide ((k:Int)<(f.ap.length:Int))=true:=(by simp;omega);have aF:wr.ownsRow 0 182 3 (.slice aa f.ap.length ac) f.ap.length (aj (br jp f.ap k)):=by
    have:=(uh hI).1.is.ap;rwa [show({ f with ow:=l6 f.ow,ap:=br jp f.ap k }:CF).ap.length=f.ap.length from dl]at this
   obtain⟨g,cap,cM,-,-,-⟩:=aS aF (by omega);simp only[Value.slice.injEq,true_and]at cM;obtain⟨rfl,rfl⟩:=cM;have tz:wr.ownsRow 0 182 3 (.slice (some ⟨g,0,none⟩) (br jp f.ap k).length ac) (br jp f.ap k).length (aj (br jp f.ap k)):=(by rw[dl];exact aF);obtain⟨x0,x1,x2⟩:=aA tz (i:=k) (by omega);have YQ:=jE (g:=jp) ar;rw[YQ]at x0 x1 x2;have hms:=jF (g:=jp) ar;have VZ:=JD (g:=jp) ar;obtain⟨p,hp⟩:∃p,p=f.ap.getD k az:=⟨_,rfl⟩;rw[<-hp]at x0 x1 x2 hms VZ YQ;have hgA:g≠A:=λe=>(uh hI).1.nds.1 (by rw[e];rfl);obtain⟨W1,dF⟩:∃W1,W1=wr.alloc (.cells #[Value.int .i64 p.k,.int .i64 p.l,.int .i64 p.r] 182):=⟨_,rfl⟩;have aT:Below wr.heap.size wr W1:=(by rw[dF];exact af wr _);have hX:Bk W1 wr.heap.size 182 [Value.int .i64 p.k,.int .i64 p.l,.int .i64 p.r]:=(by rw[dF];exact Bk.new wr _ _);have iT:=(uh hI).1.below aT;have bE:=(uh hI).2.trans (am.ofBw aT);have k7:=b8 aF aT;obtain⟨X,fy⟩:∃X,X=wr.heap.size:=⟨_,rfl⟩;have hgX:g≠X:=(by have:=(aF.lt g rfl).2;omega);rw[<-fy]at hX;have b1:=hX.cell 1 rfl;have b2:=hX.cell 2 rfl;have e5:=iT.is.c5;have i1:(0:Int)<=(k:Int):=(by omega);have i2:(k:Int)<(f.ap.length:Int):=(by omega);by_cases hsw:p.r<p.l
   .have d1:decide ((p.r:Int)<(p.l:Int))=true:=(by simp;omega);have s1:=(k7.stored (k*3+1) (.int .i64 (p.r:Int))).1;rw[gS (by omega),YQ]at s1;have s2:=(s1.stored (k*3+2) (.int .i64 (p.l:Int))).1;rw[ej (by simp;omega)]at s2;have adG:((br jp f.ap k).set k ⟨p.k,p.r,p.r⟩).set k ⟨(((br jp f.ap k).set k ⟨p.k,p.r,p.r⟩).getD k az).k,(((br jp f.ap k).set k ⟨p.k,p.r,p.r⟩).getD k az).l,p.l⟩=br jp f.ap (k+1):=by
     rw[hms,set_set];have:((br jp f.ap k).set k ⟨p.k,p.r,p.r⟩).getD k az=⟨p.k,p.r,p.r⟩:=by
      rw[getD_eq_getElem?_getD,getElem?_set_self (by omega)];rfl
     rw[this];unfold jp;rw[if_pos hsw]
    rw[adG]at s2;have ce:am (Value.slice (some ⟨g,0,none⟩) f.ap.length ac).ownBlock.toList W1 (Value.slice (some ⟨g,0,none⟩) f.ap.length ac).ownBlock.toList ((W1.setCell ⟨g,k*3+1,none⟩ (.int .i64 (p.r:Int))).setCell ⟨g,k*3+2,none⟩ (.int .i64 (p.l:Int))):=((am.refl _ _).setCell (p:=⟨g,k*3+1,none⟩) (zq0 (by simp[Value.ownBlock])) _).setCell (p:=⟨g,k*3+2,none⟩) (zq0 (by simp[Value.ownBlock])) _;obtain⟨mE,vF⟩:=iT.newRowA (ap':=br jp f.ap (k+1)) (by rw[iE,show({ f with ow:=l6 f.ow,ap:=br jp f.ap k }:CF).ap.length=f.ap.length from dl]) (by rw[show({ f with ow:=l6 f.ow,ap:=br jp f.ap k }:CF).ap.length=f.ap.length from dl];exact s2) ce;obtain⟨q0,q1,q2⟩:=aA (bW (dl ▸ k7:W1.ownsRow 0 182 3 (.slice (some ⟨g,0,none⟩) (br jp f.ap k).length ac) (br jp f.ap k).length (aj (br jp f.ap k))) (zq5 _)) (i:=k) (by omega);have f1:=k7.frozenAt (k*3+1);have f2:=s1.frozenAt (k*3+2);have y2:(W1.setCell ⟨g,k*3+1,none⟩ (.int .i64 (p.r:Int))).cell? ⟨g,k*3+2,none⟩=some (.int .i64 (p.r:Int)):=by
     rw[cell?_setCell_other _ _ _ _ (by simp),q2,YQ]
    have y5:(W1.setCell ⟨g,k*3+1,none⟩ (.int .i64 (p.r:Int))).cell? ⟨A,5,none⟩=some (.slice (some ⟨g,0,none⟩) f.ap.length ac):=by
     rw[cell?_setCell_other _ _ _ _ (by simp only[ne_eq,Addr.mk.injEq,not_and];intro e;exact absurd e hgA)];exact e5
    have yb:(W1.setCell ⟨g,k*3+1,none⟩ (.int .i64 (p.r:Int))).cell? ⟨X,1,none⟩=some (.int .i64 (p.l:Int)):=by
     rw[cell?_setCell_other _ _ _ _ (by simp only[ne_eq,Addr.mk.injEq,not_and];intro e;exact absurd e hgX)];exact b1
    have HN:Hid (Fm ((W1.setCell ⟨g,k*3+1,none⟩ (.int .i64 (p.r:Int))).setCell ⟨g,k*3+2,none⟩ (.int .i64 (p.l:Int))) A { f with ow:=l6 f.ow,ap:=br jp f.ap (k+1) } (.slice (some ⟨g,0,none⟩) f.ap.length ac) (.slice a1 n1 k1)/\am (aG A (.slice (some ⟨g,0,none⟩) f.ap.length ac) (.slice oa f.ow.length oc)) w (aG A (.slice (some ⟨g,0,none⟩) f.ap.length ac) (.slice a1 n1 k1)) ((W1.setCell ⟨g,k*3+1,none⟩ (.int .i64 (p.r:Int))).setCell ⟨g,k*3+2,none⟩ (.int .i64 (p.l:Int)))):=ab ⟨mE,bE.trans vF⟩;rw[YQ]at q0 q1 q2;clear s1 s2 adG ce mE vF aF tz YQ hms VZ hp aT hX iT bE k7 dl hI hgA hgX;go_upto_region 5 with fail;rw[<-dF,<-fy];clear dF fy;go_wp2_with fail
    go_region
    go_wp2_with fail
    go_region
    go_wp2_with fail
    go_roundw
    case rel=>exact⟨k+1,by omega,by go_num,ab ⟨(uh HN).1.of_eq (λ_ _=>rfl),(uh HN).2.drew.drew⟩⟩
    case measure=>simp[intOf];omega
   .have d1:decide ((p.r:Int)<(p.l:Int))=false:=(by simp;omega);have HN:Hid (Fm W1 A { f with ow:=l6 f.ow,ap:=br jp f.ap (k+1) } (.slice (some ⟨g,0,none⟩) f.ap.length ac) (.slice a1 n1 k1)/\am (aG A (.slice (some ⟨g,0,none⟩) f.ap.length ac) (.slice oa f.ow.length oc)) w (aG A (.slice (some ⟨g,0,none⟩) f.ap.length ac) (.slice a1 n1 k1)) W1):=ab ⟨by rw[VZ (by unfold jp;rw[if_neg hsw])];exact iT,bE⟩;clear aF tz YQ hms VZ hp aT hX iT bE k7 dl hI hgA hgX;go_upto_region 5 with fail;rw[<-dF,<-fy];clear dF fy;go_wp2_with fail
    go_roundw
    case rel=>exact⟨k+1,by omega,by go_num,HN⟩
    case measure=>simp[intOf];omega
  .have hd:decide ((k:Int)<(f.ap.length:Int))=false:=(by simp;omega);have iz:br jp f.ap k=f.ap.map jp:=tM (by omega);rw[iz]at hI;have aF:wr.ownsRow 0 182 3 (.slice aa f.ap.length ac) (f.ap.map jp).length (aj (f.ap.map jp)):=(uh hI).1.is.ap;have Fo:=ab (ug aF (by simpa using ha));clear iz aF dl;go_wp2_with fail
   refine(uh Fo).mono ?_;rintro e w5 ⟨v5,rfl,tx,b6⟩;obtain⟨a5,k5,rfl⟩:=bm tx;have f9:am (Value.slice aa f.ap.length ac).ownBlock.toList wr (Value.slice a5 (l6 (f.ap.map jp)).length k5).ownBlock.toList w5:=(am.ofBw (F:=(Value.slice aa f.ap.length ac).ownBlock.toList) b6).foots (λj hj=>zq1 (tx.lt j (by simpa using hj)).1);obtain⟨AX,qZ⟩:=(uh hI).1.newAv (ap':=l6 (f.ap.map jp)) f9 (v':=.slice a5 (l6 (f.ap.map jp)).length k5) (λj hj=>by simpa using hj) (bW tx (zq5 _));have IL:=(uh hI).1.below b6;have d5:=IL.is.c5;have f5:=ownsRow.frozenAt IL.is.ob 5;have HN:=ab (zq2 AX ((uh hI).2.trans qZ));clear tx b6 f9 AX qZ IL Fo c5;go_wp2_with fail
   go_end0
   exact⟨rfl,_,_,(uh HN).1,(uh HN).2⟩
theorem jK(h:Fm w A f av ov)(hO:au f)(ha:f.ap.length<=100000):Calls prog 171 #[.pointer (some ⟨A,0,none⟩)] w λe w'=>e=.returned (.tuple #[])/\∃av' ov',Fm w' A (bJ f) av' ov'/\am (aG A av ov) w (aG A av' ov') w':=by
 have f8:=hO.owLen;have J2:=ab (DJ h ⟨hO.cl,hO.ow,hO.ap⟩ ha (by omega));have HO:=ab hO;clear h hO;go_enter func171,ntmps171;go_wp2_with fail
 refine(uh J2).mono ?_;rintro e w1 ⟨rfl,av1,h1,s1⟩;have uO:(DF f).ap.length<=100000:=zq3 (length_filter_le _ _) ha;have PW:=ab (zp h1 (uh HO).fg (λp hp=>lM hp) uO);have bC:=ab s1;clear h1 s1 J2;go_wp2_with fail
 refine(uh PW).mono ?_;rintro e w2 ⟨rfl,h2,s2⟩;have KG:=ab (JI h2 (by simpa[B1] using uO) (by
  show((DF f).ow.map _).length<=100000;rw[length_map];exact zq3 f8 (by omega)))
 have bz:=ab ((uh bC).trans s2);clear h2 s2 PW;go_wp2_with fail
 refine(uh KG).mono ?_;rintro e w3 ⟨rfl,av3,ov3,h3,s3⟩;have HN:=ab (zq2 h3 ((uh bz).trans s3));clear h3 s3 KG;go_wp2_with fail
 go_end0
 exact⟨rfl,_,_,(uh HN).1,(uh HN).2⟩
end
theorem eu.me{bl:List Bool}{s:List Nat}(h:eu bl s){c:Nat}(hc:c<24):eu (bl.set c true) (gB s c):=(h.add hc).congr (λd=>by
 unfold gB;split
 .rename_i hm;rw[mem_cons];exact⟨λh=>by rcases h with rfl|h;exact hm;exact h,zq1⟩
 .rw[mem_cons,mem_append,mem_singleton];exact⟨λh=>h.elim zq1 zq0,λh=>h.elim zq1 zq0⟩)
theorem eu.eq{bl:List Bool}{s:List Nat}(h:eu bl s):bl=(range 24).map (λc=>decide (c∈s)):=by
 refine ext_getElem (by rw[h.1];simp) (λj h1 h2=>?_);have hj:j<24:=by have:=h.1;omega
 have:=h.2 j hj;rw[getD_eq_getElem?_getD,getElem?_eq_getElem h1]at this;simp only[Option.getD_some]at this;rw[getElem_map,getElem_range];cases hb:bl[j] with
 |true=>rw[hb]at this;simp[this.1 rfl]
 |false=>rw[hb]at this;simp;intro hm;exact absurd (this.2 hm) (by simp)
theorem OL(l:List Pr):∀{s:List Nat},s.length<=(l.foldl nG s).length:=by
 induction l with
 |nil=>intro s;exact zq4 _
 |cons p r ih=>intro s;exact zq3 (Hc s p) ih
theorem G9:∀(l:List Pr) (s:List Nat),∃t,l.foldl nG s=s++t
 |[],s=>⟨[],by simp⟩
 |p::r,s=>by
  obtain⟨t,ht⟩:=G9 r (nG s p);rw[foldl_cons,ht];unfold nG;split
  .exact⟨[p.r]++t,by rw[append_assoc]⟩
  .exact⟨t,rfl⟩
theorem PL:(cK (replicate 24 false)).toArray=(replicate 24 (Value.bool false)).toArray:=rfl
theorem infoB24:(prog.info? 240).map (·.size)=some 24:=by kernel_rfl
section
variable {w:World} {A:Nat} {f:CF} {av ov:Value}
theorem lA(h:dm w A f av ov)(hO:au f):Calls prog 227 #[.pointer (some ⟨A,0,none⟩)] w λe w'=>e=.returned (.agg (cK (CZ f)).toArray)/\Below w.heap.size w w':=by
 obtain⟨oa,oc,dB,-,-⟩:=ah h.ow;subst dB;have f8:=hO.owLen;obtain⟨w0,fS⟩:∃w0,w0=(w.alloc (.cells (replicate 24 (Value.bool false)).toArray 240)).alloc (.cells (replicate 24 (Value.bool false)).toArray 240):=⟨_,rfl⟩;have qP:Below w.heap.size w w0:=by rw[fS];exact(af w _).alloc (af w _).size _
 have zU:Ob w0 240 24 w.heap.size (cK (replicate 24 false)):=by rw[fS,<-PL];exact(yi w).alloc _
 have RY:Ob w0 240 24 (w.heap.size+1) (cK (replicate 24 false)):=by
  rw[fS,<-PL];have:=yi (w.alloc (.cells (cK (replicate 24 false)).toArray 240));simpa using this
 obtain⟨R,hR⟩:∃R,R=w.heap.size:=⟨_,rfl⟩;obtain⟨D,hD⟩:∃D,D=R+1:=⟨_,rfl⟩;rw[<-hR,<-hD]at RY;rw[<-hR]at zU;have H:=ab h;have HO:=ab hO;have HR:=ab hR;have HD:=ab hD;have bR:Hid (Ob w0 240 24 D (cK (replicate 24 false))/\eu (replicate 24 false) (([f.cl.getD 1 0,f.cl.getD 2 0,f.cl.getD 3 0,f.cl.getD 4 0].take 0).foldl gB [])/\Ob w0 240 24 R (cK (replicate 24 false))/\Below w.heap.size w w0):=ab ⟨RY,AP,zU,qP⟩;clear h hO qP zU RY;simp only[replicate]at fS;go_enter func227,ntmps227;go_upto_region 2 with fail;rw[<-fS,<-hR,<-hD];clear fS hR hD;go_wp2_with fail
 go_loopw [4] (λi wx=>∃(k:Nat) (bl:List Bool),k<=4/\i=.int .i64 ((k:Int)+1)/\Hid (Ob wx 240 24 D (cK bl)/\eu bl (([f.cl.getD 1 0,f.cl.getD 2 0,f.cl.getD 3 0,f.cl.getD 4 0].take k).foldl gB [])/\Ob wx 240 24 R (cK (replicate 24 false))/\Below w.heap.size w wx)) (λi _=>5-(intOf i).toNat)
 case atStart=>exact⟨0,_,zq5 _,rfl,bR⟩
 case round =>
  clear bR;obtain⟨k,bl,hk,rfl,hI⟩:=hrel;have hDR:D≠R:=by have:=uh HD;omega
  by_cases ar:k<4
  .have hd:decide ((k:Int)+1<(5:Int))=true:=(by simp;omega);have hF:=(uh H).below (uh hI).2.2.2;have x:=hF.cls (i:=k+1) (by omega);unfold eR at x;have aE:([f.cl.getD 1 0,f.cl.getD 2 0,f.cl.getD 3 0,f.cl.getD 4 0].take (k+1)).foldl gB []=gB (([f.cl.getD 1 0,f.cl.getD 2 0,f.cl.getD 3 0,f.cl.getD 4 0].take k).foldl gB []) (f.cl.getD (k+1) 0):=by
    have:k=0\/k=1\/k=2\/k=3:=(by omega);rcases this with rfl|rfl|rfl|rfl <;> rfl
   have hc:=(uh HO).get (k+1);obtain⟨c,hce⟩:∃c,c=f.cl.getD (k+1) 0:=⟨_,rfl⟩;rw[<-hce]at x aE hc;obtain⟨⟨u,hu⟩,hz⟩:=(uh hI).1.some (j:=c) hc;have o1:=(uh hI).1.stored c (.bool true);rw[jT]at o1;have bZ:w.heap.size<=D:=(by have:=uh HD;have:=uh HR;omega);have HN:Hid (Ob (wr.setCell ⟨D,c,none⟩ (.bool true)) 240 24 D (cK (bl.set c true))/\eu (bl.set c true) (([f.cl.getD 1 0,f.cl.getD 2 0,f.cl.getD 3 0,f.cl.getD 4 0].take (k+1)).foldl gB [])/\Ob (wr.setCell ⟨D,c,none⟩ (.bool true)) 240 24 R (cK (replicate 24 false))/\Below w.heap.size w (wr.setCell ⟨D,c,none⟩ (.bool true))):=ab ⟨o1,by rw[aE];exact(uh hI).2.1.me hc,(uh hI).2.2.1.of_eq (heap_setCell _ _ _ _ (λe=>hDR e.symm)),(uh hI).2.2.2.setCell (p:=⟨D,c,none⟩) bZ _⟩;have i1:(0:Int)<=(k:Int)+1:=(by omega);have i2:(k:Int)+1<(5:Int):=(by omega);have i3:(c:Int)<(24:Int):=(by omega);have i4:((k:Int)+1).toNat=k+1:=(by omega);clear hF aE hce o1 hI bZ;go_wp2_with fail
   go_roundw
   case rel=>exact⟨k+1,_,by omega,by go_num,HN⟩
   case measure=>simp[intOf];omega
  .have hd:decide ((k:Int)+1<(5:Int))=false:=(by simp;omega);have pp:k=4:=(by omega);subst pp;have Gs:([f.cl.getD 1 0,f.cl.getD 2 0,f.cl.getD 3 0,f.cl.getD 4 0].take 4).foldl gB []=TP f:=rfl;rw[Gs]at hI;have dy:Hid (Ob wr 240 24 D (cK bl)/\eu bl (TP f)/\dY (TP f)/\Ob wr 240 24 R (cK (replicate 24 false))/\Below w.heap.size w wr/\TQ f 25 (TP f)=mL f):=ab ⟨(uh hI).1,(uh hI).2.1,ZP (uh HO).cl,(uh hI).2.2.1,(uh hI).2.2.2,rfl⟩;clear Gs hI;rw[show((4:Nat):Int)+1=(5:Int) from rfl];have bZ:w.heap.size<=D:=(by have:=uh HD;have:=uh HR;omega);go_wp2_with fail
   go_loopg [5] (26-(TP f).length) (λgn gv wx=>∃(s:List Nat) (bl:List Bool) (n:Nat) (gr:Bool),gv=.bool gr/\gn=(if gr=true then 26-s.length else 0)/\s.length<=24/\Hid (Ob wx 240 24 D (cK bl)/\eu bl s/\dY s/\Ob wx 240 24 R (cK (replicate 24 false))/\Below w.heap.size w wx/\(gr=true->TQ f n s=mL f/\24<n+s.length)/\(gr=false->s=mL f)))
   case atStart=>exact⟨TP f,bl,25,true,rfl,rfl,(uh dy).2.2.1.len,ab ⟨(uh dy).1,(uh dy).2.1,(uh dy).2.2.1,(uh dy).2.2.2.1,(uh dy).2.2.2.2.1,λ_=>⟨rfl,by omega⟩,λh=>by cases h⟩⟩
   case round =>
    clear dy;obtain⟨s,bl,n,gr,rfl,hgn,Bv,hI⟩:=hrel;obtain⟨G,hG⟩:∃G,G=gk:=⟨_,rfl⟩;cases gr with
    |false =>
     have aeI:=(uh hI).2.2.2.2.2.2 rfl;have bP:cK bl=cK (CZ f):=(by rw[(uh hI).2.1.eq,aeI];rfl);obtain⟨M,hM⟩:∃M,M=cK (CZ f):=⟨_,rfl⟩;have dl:M.length=24:=(by rw[hM];simp[cK,CZ]);have Mt:Ob wr 240 24 D M:=(by rw[hM,<-bP];exact(uh hI).1);have wO:=(uh hI).2.2.2.1;have Si:wr.rangeAt D 0 M:=by
      intro j v hj;have eh:=(List.getElem?_eq_some_iff.1 hj).1;rw[Nat.zero_add,ownsRow.cellAt Mt j (by omega)];exact hj
     have qO:wr.there R 0 M.toArray.size:=by
      intro j hj;rw[size_toArray,dl]at hj;obtain⟨⟨u,hu⟩,hz⟩:=wO.some (j:=j) hj;rw[Nat.zero_add];exact⟨by rw[hu];rfl,hz⟩
     have cV:(prog.info? 240).map (·.size)=some M.length:=(by rw[dl];exact infoB24);have bT:(prog.info? 240).map (·.size)=some M.toArray.size:=(by rw[size_toArray,dl];exact infoB24);have s7:M.toArray.all (·.oneCell')=true:=all_oneCell_toArray (by
      intro v hv;rw[hM]at hv;obtain⟨o,_,rfl⟩:=mem_map.1 hv;rfl)
     have sZ:=Ob.setCells M 0 wO;have Y3:=lC M [] (cK (replicate 24 false)) [] (by rw[dl];rfl);simp only[nil_append,append_nil,length_nil]at Y3;rw[Y3]at sZ;have Yf:w.heap.size<=R:=(by have:=uh HR;omega);have vp:∀(vs:List Value) (o:Nat) (x:World),Below w.heap.size w x->Below w.heap.size w (x.setCells R o vs):=by
      intro vs;induction vs with
      |nil=>intro o x h;exact h
      |cons v r ih=>intro o x h;exact ih (o+1) _ (h.setCell Yf v)
     have gH:=ab (vp M 0 wr (uh hI).2.2.2.2.1);have HM:=ab hM;have HML:=ab dl;have HRg:=ab Si;have rl:=ab qO;have dy:=ab cV;have db:=ab bT;have C7:=ab s7;have Ih:=ab sZ;clear Si qO cV bT s7 sZ Y3 vp hM dl Mt wO bP aeI hI hgn;go_wp2_with (first|refine wpList_load_mid rfl 240 (.tmp 3) rfl D 0 rfl M _ (uh HRg) underlying240 rfl (uh dy) ?_|refine wpList_store_mid rfl 240 (.tmp 2) (.tmp 44) rfl R 0 M.toArray rfl rfl (uh rl) (uh db) (uh C7) ?_)
     have Nx:(wr.setCells R 0 M).rangeAt R 0 M:=by
      intro j v hj;have eh:=(List.getElem?_eq_some_iff.1 hj).1;rw[uh HML]at eh;rw[Nat.zero_add,ownsRow.cellAt (uh Ih) j (by omega)];exact hj
     have hld:=run_loadVar_mid (P:=prog) (wr.setCells R 0 M) R 0 240 M _ Nx underlying240 rfl (uh dy);refine bodyPost_ret (v:=.agg M.toArray) ?_ rfl ⟨by rw[uh HM],uh gH⟩;simp[results,Tryz.results227,Act.put,asAddr,hld]
    |true =>
     have ap3:gk=26-s.length:=hgn;obtain⟨hrc,aem⟩:=(uh hI).2.2.2.2.2.1 rfl;have HRC:=ab hrc;have hF:=(uh H).below (uh hI).2.2.2.2.1;have c6:=hF.c6;have db:Hid (Ob wr 240 24 D (cK bl)/\eu bl ((f.ow.take 0).foldl nG s)/\Ob wr 240 24 R (cK (replicate 24 false))/\Below w.heap.size w wr):=ab ⟨(uh hI).1,(uh hI).2.1,(uh hI).2.2.2.1,(uh hI).2.2.2.2.1⟩;have HMS:=ab (uh hI).2.2.1;clear hgn hrc hF hI;go_wp2_with fail
     go_loopg [5,25] f.ow.length (λgn gv i wx=>∃(j:Nat) (bl:List Bool),j+gn=f.ow.length/\i=.int .i64 j/\gv=.bool (decide (((f.ow.take j).foldl nG s).length≠s.length))/\Hid (Ob wx 240 24 D (cK bl)/\eu bl ((f.ow.take j).foldl nG s)/\Ob wx 240 24 R (cK (replicate 24 false))/\Below w.heap.size w wx))
     case atStart=>exact⟨0,bl,by omega,rfl,by simp,db⟩
     case round =>
      clear db c6;obtain⟨j,bl,wU,rfl,rfl,hJ⟩:=hrel;obtain⟨G2,AY⟩:∃G2,G2=gk:=⟨_,rfl⟩;have hF:=(uh H).below (uh hJ).2.2.2;have hDR:D≠R:=(by have:=uh HD;omega);obtain⟨m,hm⟩:∃m,m=(f.ow.take j).foldl nG s:=⟨_,rfl⟩;have iA:s.length<=m.length:=(by rw[hm];exact OL _);by_cases ar:j<f.ow.length
      .have hd:decide ((j:Int)<(f.ow.length:Int))=true:=(by simp;omega);obtain⟨g,cap,cM,-,-⟩:=aC hF.ow ar;simp only[Value.slice.injEq,true_and]at cM;obtain⟨rfl,rfl⟩:=cM;obtain⟨x0,x1,x2⟩:=aA hF.ow ar;obtain⟨er,n9⟩:=(uh HO).ow _ (cy ar);have nD:=ip (g:=nG) (a:=s) ar;obtain⟨p,hp⟩:∃p,p=f.ow.getD j az:=⟨_,rfl⟩;rw[<-hp]at x0 x1 x2 er n9 nD;rw[<-hm]at hJ nD ⊢;obtain⟨gr,SC⟩:∃gr,gr=decide (m.length≠s.length):=⟨_,rfl⟩;rw[<-SC];have HGR:=ab SC;obtain⟨W1,dF⟩:∃W1,W1=wr.alloc (.cells #[Value.int .i64 p.k,.int .i64 p.l,.int .i64 p.r] 182):=⟨_,rfl⟩;have aT:Below wr.heap.size wr W1:=(by rw[dF];exact af wr _);have hX:Bk W1 wr.heap.size 182 [Value.int .i64 p.k,.int .i64 p.l,.int .i64 p.r]:=(by rw[dF];exact Bk.new wr _ _);have b1:=hX.cell 1 rfl;have b2:=hX.cell 2 rfl;have oD:Ob W1 240 24 D (cK bl):=(uh hJ).1.of_eq (aT.block D (ownsRow.lt (uh hJ).1 D rfl).2);have oR:Ob W1 240 24 R (cK (replicate 24 false)):=(uh hJ).2.2.1.of_eq (aT.block R (ownsRow.lt (uh hJ).2.2.1 R rfl).2);have aO:=(uh hJ).2.2.2.trans (aT.mono (uh hJ).2.2.2.size);have P5:=(uh hJ).2.1;have d1:=(ownsRow.cellAt oD p.l (by omega)).trans (eC (by rw[P5.1];exact er));have d2:=(ownsRow.cellAt oD p.r (by omega)).trans (eC (by rw[P5.1];exact n9));have fz:=ownsRow.frozenAt oD p.r;have e1:bl.getD p.l false=decide (p.l∈m):=(by have:=P5.2 p.l er;cases hb:bl.getD p.l false <;> simp_all);have e2:bl.getD p.r false=decide (p.r∈m):=(by have:=P5.2 p.r n9;cases hb:bl.getD p.r false <;> simp_all);rw[e1]at d1;rw[e2]at d2;have o1:=oD.stored p.r (.bool true);rw[jT]at o1;have i1:(0:Int)<=(j:Int):=(by omega);have i2:(j:Int)<(f.ow.length:Int):=(by omega);have i3:(p.l:Int)<(24:Int):=(by omega);have i4:(p.r:Int)<(24:Int):=(by omega);obtain⟨X,fy⟩:∃X,X=wr.heap.size:=⟨_,rfl⟩;rw[<-fy]at b1 b2;have J3:=ab nD;have QF:Hid (nG m p=m->Ob W1 240 24 D (cK bl)/\eu bl ((f.ow.take (j+1)).foldl nG s)/\Ob W1 240 24 R (cK (replicate 24 false))/\Below w.heap.size w W1):=ab (λe=>⟨oD,by rw[nD,e];exact P5,oR,aO⟩);have aih:Hid (nG m p=m++[p.r]->Ob (W1.setCell ⟨D,p.r,none⟩ (.bool true)) 240 24 D (cK (bl.set p.r true))/\eu (bl.set p.r true) ((f.ow.take (j+1)).foldl nG s)/\Ob (W1.setCell ⟨D,p.r,none⟩ (.bool true)) 240 24 R (cK (replicate 24 false))/\Below w.heap.size w (W1.setCell ⟨D,p.r,none⟩ (.bool true))):=ab (λe=>⟨o1,by
        rw[nD,e];exact(P5.add n9).congr (λd=>by simp only[mem_cons,mem_append,not_mem_nil,or_false];exact⟨λh=>h.elim zq1 zq0,λh=>h.elim zq1 zq0⟩),oR.of_eq (heap_setCell _ _ _ _ (λe=>hDR e.symm)),aO.setCell (p:=⟨D,p.r,none⟩) bZ _⟩)
       clear aT hX oD oR aO P5 e1 e2 o1 nD hp hm hF hJ SC;by_cases q1:p.l∈m
       .rw[show decide (p.l∈m)=true by simpa using q1]at d1;by_cases q2:p.r∈m
        .rw[show decide (p.r∈m)=true by simpa using q2]at d2;have HE:Hid (nG m p=m):=ab (by unfold nG;rw[if_neg (by rintro⟨-,h⟩;exact h q2)]);clear q1 q2;go_upto_region 12 with fail;rw[<-dF,<-fy];clear dF fy;go_wp2_with fail
         go_roundg (G2-1)
         case rel=>exact⟨j+1,bl,by omega,by go_num,by rw[uh J3,uh HE,<-uh HGR],ab (uh QF (uh HE))⟩
         case measure=>omega
        .rw[show decide (p.r∈m)=false by simpa using q2]at d2;have HE:Hid (nG m p=m++[p.r]):=ab (by unfold nG;rw[if_pos ⟨q1,q2⟩]);clear q1 q2;go_upto_region 12 with fail;rw[<-dF,<-fy];clear dF fy;go_wp2_with fail
         go_roundg (G2-1)
         case rel=>exact⟨j+1,_,by omega,by go_num,by
          rw[uh J3,uh HE,length_append,length_singleton];rw[show decide (m.length+1≠s.length)=true by simp;omega],ab (uh aih (uh HE))⟩
         case measure=>omega
       .rw[show decide (p.l∈m)=false by simpa using q1]at d1;have HE:Hid (nG m p=m):=ab (by unfold nG;rw[if_neg (by rintro⟨h,-⟩;exact q1 h)]);clear q1;go_upto_region 12 with fail;rw[<-dF,<-fy];clear dF fy;go_wp2_with fail
        go_roundg (G2-1)
        case rel=>exact⟨j+1,bl,by omega,by go_num,by rw[uh J3,uh HE,<-uh HGR],ab (uh QF (uh HE))⟩
        case measure=>omega
      .have hd:decide ((j:Int)<(f.ow.length:Int))=false:=(by simp;omega);have Jl:(f.ow.take j).foldl nG s=vP f s:=(by rw[take_of_length_le (by omega)];rfl);rw[Jl]at hJ ⊢;obtain⟨n',rfl⟩:∃n',n=n'+1:=⟨n-1,by omega⟩;have hrn:TQ f (n'+1) s=if (vP f s).length=s.length then s else TQ f n' (vP f s):=rfl
       have aY:=(OM f.ow (uh HMS) (λp hp=>((uh HO).ow p hp).2)).1;have SO:dY (vP f s):=aY;have qq:=SO.len;have SG:s.length<=(vP f s).length:=OL _;have HJ:Hid (Ob wr 240 24 D (cK bl)/\eu bl (vP f s)/\dY (vP f s)/\Ob wr 240 24 R (cK (replicate 24 false))/\Below w.heap.size w wr):=ab ⟨(uh hJ).1,(uh hJ).2.1,SO,(uh hJ).2.2.1,(uh hJ).2.2.2⟩;by_cases qR:(vP f s).length=s.length
       .have qv:vP f s=s:=by
         obtain⟨t,ht⟩:=G9 f.ow s;have h1:vP f s=s++t:=ht;have h2:=congrArg List.length h1;rw[length_append]at h2;have:t=[]:=length_eq_zero_iff.1 (by omega);rw[h1,this,append_nil]
        have HE:Hid (vP f s=mL f):=ab (by
         have h1:=uh HRC;rw[hrn,if_pos qR]at h1;rw[qv];exact h1)
        rw[show decide ((vP f s).length≠s.length)=false by simp[qR]];clear qv qR Jl hrn aY SO hJ SG qq;go_wp2_with fail
        go_roundg 0
        case rel=>exact⟨vP f s,bl,0,false,rfl,rfl,(uh HJ).2.2.1.len,ab ⟨(uh HJ).1,(uh HJ).2.1,(uh HJ).2.2.1,(uh HJ).2.2.2.1,(uh HJ).2.2.2.2,(λh=>by cases h),λ_=>uh HE⟩⟩
        case measure=>omega
       .have HE:Hid (TQ f n' (vP f s)=mL f/\24<n'+(vP f s).length):=ab ⟨by
         have h1:=uh HRC;rw[hrn,if_neg qR]at h1;exact h1,by omega⟩
        rw[show decide ((vP f s).length≠s.length)=true by simp[qR]];have bf:26-(vP f s).length<G:=(by omega);clear qR Jl hrn aY SO hJ SG;go_wp2_with fail
        go_roundg (26-(vP f s).length)
        case rel=>exact⟨vP f s,bl,n',true,rfl,rfl,(uh HJ).2.2.1.len,ab ⟨(uh HJ).1,(uh HJ).2.1,(uh HJ).2.2.1,(uh HJ).2.2.2.1,(uh HJ).2.2.2.2,(λ_=>uh HE),λh=>by cases h⟩⟩
        case measure=>omega
end
