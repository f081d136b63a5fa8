import Derived.Test.YtciihepbeacppaaGreatM12
import Derived.Laws.StructEq
import Derived.Deep.RegionHeld3
set_option maxRecDepth 100000
set_option maxHeartbeats 0
namespace Go.Proofs.YtciihepbeacppaaGreat
open Tryz Go.RowKit List World Below
set_option linter.unusedVariables false
theorem Zg(a b c x y z:Int)(w:World):(Op.equalIn 10000 182 (.agg #[.int .i64 a,.int .i64 b,.int .i64 c]) (.agg #[.int .i64 x,.int .i64 y,.int .i64 z])).run prog w=.ok (a==x&&(b==y&&c==z)) w:=by
 have u3:=underlying3;have a3:=Tryz.isAgg3;have z3:=sizeOf3;have hS:prog.underlying 182=some (.struct (prog.fieldsOf 182)):=by kernel_rfl
 have hp:prog.stoodInHeld 182=false:=by kernel_rfl
 rw[show(10000:Nat)=9999+1 from rfl,run_equalIn_agg w 9999 182 _ _ hS hp];simp only[Program.fieldsOf,underlying182];go_simp
 by_cases h1:a=x <;> by_cases h2:b=y <;> by_cases h3:c=z <;> simp[h1,h2,h3]
theorem ahg(a b c x y z:Int)(w:World):(binOp .neq 182 (.agg #[.int .i64 a,.int .i64 b,.int .i64 c]) (.agg #[.int .i64 x,.int .i64 y,.int .i64 z])).run prog w=.ok (.bool (!(a==x&&(b==y&&c==z)))) w:=by
 rw[run_neq_struct,Zg];rfl
theorem OF:prog.eqGuardType prog.depth 182=false:=by kernel_rfl
theorem DQ{w:World}{B e sz n k cap:Nat}{a:Option Addr}{xs:List Value}(h:w.ownsRow B e sz (.slice a n cap) n xs)(hk:k<=n):w.ownsRow B e sz (.slice a k cap) k (xs.take (k*sz)):=by
 have hl:=h.1;have hks:k*sz<=n*sz:=Nat.mul_le_mul_right _ hk;rcases h.2 with⟨h',hn⟩|⟨g',cap',cur,h',hb,hg,Mt,oU,De,PM⟩
 .simp only[Value.slice.injEq]at h';obtain⟨rfl,h2,rfl⟩:=h';have sl:n=0:=by omega
  have hk0:k=0:=by omega
  subst sl;subst hk0;refine⟨by simp,.inl ⟨rfl,?_⟩⟩;simp
 .simp only[Value.slice.injEq]at h';obtain⟨rfl,-,rfl⟩:=h';refine⟨by rw[length_take];omega,.inr ⟨g',cap,cur,rfl,hb,hg,by omega,oU,De,?_⟩⟩;rw[<-PM,take_take,Nat.min_eq_left (by omega)]
theorem rl:∀(l:List Pr) (k:Nat),(af l).take (k*3)=af (l.take k)
 |[],k=>by simp[af]
 |p::l,0=>by simp[af]
 |p::l,k+1=>by
  have h1:=rl l k;have hx:∀(y:Pr) (m:List Pr),af (y::m)=[Value.int .i64 y.k,.int .i64 y.l,.int .i64 y.r]++af m:=λy m=>rfl;rw[take_succ_cons,hx,hx,<-h1,take_append];simp only[length_cons,length_nil];rw[take_of_length_le (by simp;omega),show(k+1)*3-(0+1+1+1)=k*3 by omega]
theorem DX{l:List Pr}{i:Nat}(hi:i<l.length)(p:Pr):(((af l).set (i*3) (.int .i64 (p.k:Int))).set (i*3+1) (.int .i64 (p.l:Int))).set (i*3+2) (.int .i64 (p.r:Int))=af (l.set i p):=by
 have g1:(l.set i ⟨p.k,(l.getD i ay).l,(l.getD i ay).r⟩).getD i ay=⟨p.k,(l.getD i ay).l,(l.getD i ay).r⟩:=by
  rw[getD_eq_getElem?_getD,getElem?_set_self hi];rfl
 have g2:((l.set i ⟨p.k,(l.getD i ay).l,(l.getD i ay).r⟩).set i ⟨p.k,p.l,(l.getD i ay).r⟩).getD i ay=⟨p.k,p.l,(l.getD i ay).r⟩:=by
  rw[getD_eq_getElem?_getD,getElem?_set_self (by simpa using hi)];rfl
 rw[mj hi,jp (by simpa using hi),g1,fy (by simpa using hi),g2,set_set,set_set]
def xN(L:List Pr)(x:Pr)(j:Nat):List Pr:=L.take j++x::L.drop j
theorem ua{L:List Pr}{x:Pr}{j:Nat}(hj:j<=L.length):(xN L x j).length=L.length+1:=by unfold xN;simp;omega
theorem Tw{L:List Pr}{x:Pr}{j i:Nat}(hj:j<=L.length)(hi:i<j):(xN L x j).getD i ay=L.getD i ay:=by
 unfold xN;rw[getD_eq_getElem?_getD,getElem?_append_left (by simp;omega),getElem?_take,if_pos hi,<-getD_eq_getElem?_getD]
theorem Ae{L:List Pr}{x y:Pr}{j:Nat}(hj:j<=L.length):(xN L x j).set j y=xN L y j:=by
 unfold xN;have e:(L.take j).length=j:=by simp;omega
 rw[set_append_right _ _ (by omega),e,Nat.sub_self,set_cons_zero]
theorem M6{L:List Pr}{j:Nat}(hj:j<L.length):xN L (L.getD j ay) (j+1)=xN L (L.getD j ay) j:=by
 unfold xN;rw[bY hj,take_add_one,getElem?_eq_getElem hj,drop_eq_getElem_cons hj,append_assoc];rfl
theorem NJ:∀(l:List Pr) {a:List Pr},a≠[]->l.foldl l6 a≠[]
 |[],_,h=>h
 |p::r,a,h=>by
  rw[foldl_cons];refine NJ r ?_;unfold l6;split
  .simp
  .exact h
theorem NK{l:List Pr}(h:l≠[]):l.foldl l6 []≠[]:=by
 cases l with
 |nil=>exact absurd rfl h
 |cons p r =>
  rw[foldl_cons];refine NJ r ?_;unfold l6;simp
theorem Ib:∀(l:List Pr) {a:List Pr},(l.foldl l6 a).length<=a.length+l.length
 |[],a=>by simp
 |p::r,a=>by
  rw[foldl_cons];have h1:=Ib r (a:=l6 a p);have h2:(l6 a p).length<=a.length+1:=by unfold l6;split <;> simp
  simp only[length_cons];omega
theorem Ju(p q:Pr):((p.k:Int)==(q.k:Int)&&((p.l:Int)==(q.l:Int)&&(p.r:Int)==(q.r:Int)))=DY p q:=by
 unfold DY;rw[bh,bh,bh,Bool.and_assoc]
theorem GA{W:World}{B g cap n i:Nat}{L:List Pr}(hr:W.ownsRow B 182 3 (.slice (some ⟨g,0,none⟩) n cap) n (af L))(hn:n=L.length)(hi:i<n)(p:Pr):
  (((W.setCell ⟨g,i*3,none⟩ (.int .i64 (p.k:Int))).setCell ⟨g,i*3+1,none⟩ (.int .i64 (p.l:Int))).setCell ⟨g,i*3+2,none⟩ (.int .i64 (p.r:Int))).ownsRow B 182 3 (.slice (some ⟨g,0,none⟩) n cap) n (af (L.set i p)) /\
  ((∃u,W.cell? ⟨g,i*3,none⟩=some u)/\(∃u,W.cell? ⟨g,i*3+1,none⟩=some u)/\∃u,W.cell? ⟨g,i*3+2,none⟩=some u) /\
  W.frozen? ⟨g,i*3,none⟩=false/\W.frozen? ⟨g,i*3+1,none⟩=false/\W.frozen? ⟨g,i*3+2,none⟩=false:=by
 subst hn;have r3:=(((hr.stored (i*3) (.int .i64 (p.k:Int))).1.stored (i*3+1) (.int .i64 (p.l:Int))).1.stored (i*3+2) (.int .i64 (p.r:Int))).1;rw[DX hi]at r3;obtain⟨x0,x1,x2⟩:=aB (dZ hr (zq5 _)) hi;exact⟨r3,⟨⟨_,x0⟩,⟨_,x1⟩,⟨_,x2⟩⟩,hr.frozenAt _,hr.frozenAt _,hr.frozenAt _⟩
section
variable {w:World} {v:Value} {l:List Pr}
theorem xn(h:w.ownsRow 0 182 3 v l.length (af l))(hl:l.length<=100000):Calls prog 226 #[v] w λe w'=>∃v',e=.returned v'/\w'.ownsRow w.heap.size 182 3 v' (mn l).length (af (mn l))/\Below w.heap.size w w':=by
 obtain⟨i0,lw,gY,gz,gL⟩:=info_parts infoPair;obtain⟨va,vc,hv',PQ,UQ⟩:=am h;subst hv';have H:=ab h;have ve:Hid ((w.alloc (.cells #[] 182)).ownsRow w.heap.size 182 3 (.slice (some ⟨w.heap.size,0,none⟩) 0 0) ((l.take 0).foldl fX []).length (af ((l.take 0).foldl fX []))/\Below w.heap.size w (w.alloc (.cells #[] 182))):=ab ⟨ownsRow_lit (base:=w.heap.size) (e:=182) (size:=3) w #[] 0 (zq4 _) (by simp[maxLen]) rfl,ah w _⟩;clear h;go_enter func226,ntmps226;go_wp2_with fail
 go_loopg [3,12] l.length (λgn rv i wx=>∃(k:Nat),k+gn=l.length/\i=.int .i64 k/\Hid (wx.ownsRow w.heap.size 182 3 rv ((l.take k).foldl fX []).length (af ((l.take k).foldl fX []))/\Below w.heap.size w wx))
 case atStart=>exact⟨0,by omega,rfl,ve⟩
 case round =>
  clear ve;obtain⟨k,gw,rfl,hI⟩:=hrel;obtain⟨G,hG⟩:∃G,G=gk:=⟨_,rfl⟩;obtain⟨ra,rc,Mw,-,-⟩:=am (uh hI).1;subst Mw;have us:=qP (l.take k) (a:=[]) List.Pairwise.nil;have dO:=us.2.2;rw[length_take]at dO;simp only[length_nil,Nat.zero_add]at dO;by_cases au:k<l.length
  .have hd:decide ((k:Int)<(l.length:Int))=true:=(by simp;omega);have hF:=eZ (uh H) (uh hI).2;obtain⟨g,cap,dF,-,-⟩:=aE hF au;simp only[Value.slice.injEq,true_and]at dF;obtain⟨rfl,rfl⟩:=dF;obtain⟨x0,x1,x2⟩:=aB hF au;have qq:=jK (g:=fX) (a:=[]) au;obtain⟨p,hp⟩:∃p,p=l.getD k ay:=⟨_,rfl⟩;rw[<-hp]at x0 x1 x2 qq;obtain⟨L,hL⟩:∃L,L=(l.take k).foldl fX []:=⟨_,rfl⟩;rw[<-hL]at hI qq dO ⊢;have ZN:L.length=k:=(by omega);have kj:=ab ((uh hI).1.alloc (.cells #[.int .i64 (p.k:Int),.int .i64 (p.l:Int),.int .i64 (p.r:Int)] 182));have gb:=ab ((uh hI).2.alloc (uh hI).2.size (.cells #[.int .i64 (p.k:Int),.int .i64 (p.l:Int),.int .i64 (p.r:Int)] 182));have HBX:=ab (Bk.new wr 182 [.int .i64 (p.k:Int),.int .i64 (p.l:Int),.int .i64 (p.r:Int)]);have px:=(uh hI).1.lt;have WL:=ab px;have LZ:=ab qq;have i1:(0:Int)<=(k:Int):=(by omega);have i2:(k:Int)<(l.length:Int):=(by omega);have hLb:L.length<=100000:=(by omega);have Sg:=ab ZN;have mP:=(uh hI).2.size;clear hp hF qq hL dO us hI px ZN;go_wp2_with (at_builtin;refine aS _ rfl (.tmp 16) (.tmp 18) 177 rfl w.heap.size 182 i0 _ 3 24 underlying177 lw gY gz gL rfl (by decide) _ L.length (af L) rfl ((uh kj).alloc _) ⟨_,0,none⟩ 1 [.int .i64 (p.k:Int),.int .i64 (p.l:Int),.int .i64 (p.r:Int)] rfl rfl (aN _ _ (by simp) [.int .i64 (p.k:Int),.int .i64 (p.l:Int),.int .i64 (p.r:Int)] _) (rj p) (by omega) (by omega) (by simp;omega) ?_)
   intro g4 cap4 w4 iL ew jM;have nV:Below w.heap.size w w4:=by
    have hb:=(uh gb).alloc (uh gb).size (.cells #[.int .i64 (p.k:Int),.int .i64 (p.l:Int),.int .i64 (p.r:Int)] 182);exact hb.grown ew hb.size (λk hk=>((uh kj).lt k hk).1)
   obtain⟨X,hX⟩:∃X,X=wr.heap.size:=⟨_,rfl⟩;have Z0:Bk w4 X 182 [.int .i64 (p.k:Int),.int .i64 (p.l:Int),.int .i64 (p.r:Int)]:=by
    rw[hX];refine((uh HBX).alloc _).of_eq (ew.block _ (by simp;omega) (λe=>?_));have:=(uh WL _ e.symm).2;omega
   have hgX:g4≠X:=by
    rw[hX];rintro rfl;rcases jM with e|e
    .have:=(uh WL _ e.symm).2;omega
    .omega
   have Dv:w4.ownsRow w.heap.size 182 3 (.slice (some ⟨g4,0,none⟩) (L.length+1) cap4) (L.length+1) (af (xN L p L.length)):=by
    have e:xN L p L.length=L++[p]:=(by unfold xN;rw[take_length,drop_length]);rw[e,fe];exact iL
   have fH:Hid (w4.ownsRow w.heap.size 182 3 (.slice (some ⟨g4,0,none⟩) (L.length+1) cap4) (L.length+1) (af (xN L p L.length))/\Bk w4 X 182 [.int .i64 (p.k:Int),.int .i64 (p.l:Int),.int .i64 (p.r:Int)]/\Below w.heap.size w w4):=ab ⟨Dv,Z0,nV⟩;have HGX:=ab hgX;have HX:=ab hX;rw[<-hX];clear iL ew jM nV Z0 Dv hX x0 x1 x2 kj HBX hgX;go_wp2_with fail
   go_loopg [6] L.length (λgn i wx=>∃(x:Pr),gn<=L.length/\i=.int .i64 gn/\B1 p L gn=B1 p L L.length/\Hid (wx.ownsRow w.heap.size 182 3 (.slice (some ⟨g4,0,none⟩) (L.length+1) cap4) (L.length+1) (af (xN L x gn))/\Bk wx X 182 [.int .i64 (p.k:Int),.int .i64 (p.l:Int),.int .i64 (p.r:Int)]/\Below w.heap.size w wx))
   case atStart=>exact⟨p,zq4 _,by go_num,rfl,fH⟩
   case round =>
    clear fH;obtain⟨x,hj,rfl,hwh,hJ⟩:=hrel;obtain⟨b0,b1,b2⟩:wr.cell? ⟨X,0,none⟩=some (.int .i64 (p.k:Int))/\wr.cell? ⟨X,1,none⟩=some (.int .i64 (p.l:Int))/\wr.cell? ⟨X,2,none⟩=some (.int .i64 (p.r:Int)):=⟨(uh hJ).2.1.cell 0 rfl,(uh hJ).2.1.cell 1 rfl,(uh hJ).2.1.cell 2 rfl⟩;cases gk with
    |zero =>
     have HWH:=ab hwh;have Yd:=ab (ua (L:=L) (x:=x) hj);have d0:decide ((0:Int)<0)=false:=(by decide);clear hwh;obtain⟨w5,hw5⟩:∃w5,w5=wr:=⟨_,rfl⟩;have lO:Hid (Below wr.heap.size wr w5):=ab (by rw[hw5];exact Below.refl _ _);have eu:=uh lO;have AJ:=eZ (uh hJ).1 eu;have Mi:=(uh hJ).2.1.below eu;obtain⟨r6,⟨⟨u0,y0⟩,⟨u1,y1⟩,⟨u2,y2⟩⟩,f0,f1,f2⟩:=GA AJ (uh Yd).symm (i:=0) (by omega) p;rw[Ae hj]at r6;have cX:w.heap.size<=g4:=((uh hJ).1.lt g4 rfl).1;have kU:=((((uh hJ).2.2.trans (eu.mono (uh hJ).2.2.size)).setCell (p:=⟨g4,(0)*3,none⟩) cX (.int .i64 (p.k:Int))).setCell (p:=⟨g4,(0)*3+1,none⟩) cX (.int .i64 (p.l:Int))).setCell (p:=⟨g4,(0)*3+2,none⟩) cX (.int .i64 (p.r:Int));have z0:=Mi.cell 0 rfl;have z1:=Mi.cell 1 rfl;have z2:=Mi.cell 2 rfl;have HN:Hid (((((w5.setCell ⟨g4,(0)*3,none⟩ (.int .i64 (p.k:Int))).setCell ⟨g4,(0)*3+1,none⟩ (.int .i64 (p.l:Int))).setCell ⟨g4,(0)*3+2,none⟩ (.int .i64 (p.r:Int)))).ownsRow w.heap.size 182 3 (.slice (some ⟨g4,0,none⟩) (L.length+1) cap4) ((l.take (k+1)).foldl fX []).length (af ((l.take (k+1)).foldl fX []))/\Below w.heap.size w ((((w5.setCell ⟨g4,(0)*3,none⟩ (.int .i64 (p.k:Int))).setCell ⟨g4,(0)*3+1,none⟩ (.int .i64 (p.l:Int))).setCell ⟨g4,(0)*3+2,none⟩ (.int .i64 (p.r:Int))))):=ab ⟨by
      have e:(l.take (k+1)).foldl fX []=xN L p (0):=(by rw[uh LZ];unfold fX xN;rw[<-uh HWH];rfl);rw[e,ua hj];exact r6,kU⟩
     have i5:(0:Int)<(L.length:Int)+1:=(by omega);clear eu AJ Mi r6 kU cX lO;subst hw5;go_wp2_with fail
     go_quiet (fail)
     go_wp2_with fail
     go_roundg (G-1)
     case rel=>exact⟨k+1,by omega,by go_num,ab ⟨(uh HN).1,⟨(uh HN).2.os,(uh HN).2.tape,(uh HN).2.output,(uh HN).2.size,(uh HN).2.block⟩⟩⟩
     case measure=>omega
    |succ m =>
     have hr:=(uh hJ).1;have m6:=ua (L:=L) (x:=x) hj;have ut:wr.ownsRow w.heap.size 182 3 (.slice (some ⟨g4,0,none⟩) (xN L x (m+1)).length cap4) (xN L x (m+1)).length (af (xN L x (m+1))):=(by rw[m6];exact hr);obtain⟨x0,x1,x2⟩:=aB (dZ ut (zq5 _)) (i:=m) (by rw[m6];omega);rw[Tw hj (by omega)]at x0 x1 x2;have hwm:B1 p L (m+1)=if Md p (L.getD m ay)=true then B1 p L m else m+1:=rfl
     have hdn:=M6 (L:=L) (j:=m) (by omega);have hpu:=Ae (L:=L) (x:=x) (y:=L.getD m ay) hj;obtain⟨q,hq⟩:∃q,q=L.getD m ay:=⟨_,rfl⟩;rw[<-hq]at x0 x1 x2 hwm hdn hpu;have EX:Hid (∀W:World,Calls prog 249 #[.agg #[.int .i64 (p.k:Int),.int .i64 (p.l:Int),.int .i64 (p.r:Int)],.agg #[.int .i64 (q.k:Int),.int .i64 (q.l:Int),.int .i64 (q.r:Int)]] W λe w'=>e=.returned (.bool (Md p q))/\Below W.heap.size W w'):=ab (λW=>Fc p q);have d0:decide ((0:Int)<(m:Int)+1)=true:=(by simp);have i3:(0:Int)<=(m:Int):=(by omega);have i4:(m:Int)<(L.length:Int)+1:=(by omega);have hq0:IntKind.i64.wrap (m:Int)=(m:Int):=(by rw[IntKind.wrap_i64];omega);have EA:=(uh hJ).2.1.lt;have nZ:=((uh hJ).1.lt g4 rfl).2;have HWM:=ab hwm;have HDN:=ab hdn;have HPU:=ab hpu;have Yd:=ab m6;have HWH:=ab hwh;clear hr ut m6 hwm hdn hpu hq hwh;cases Z5:Md p q with
     |true =>
      rw[Z5]at EX HWM;clear Z5;go_wp2_with fail
      go_region_held3 (λW=>W.cell? ⟨X,0,none⟩=some (.int .i64 (p.k:Int))/\W.cell? ⟨X,1,none⟩=some (.int .i64 (p.l:Int))/\W.cell? ⟨X,2,none⟩=some (.int .i64 (p.r:Int))/\W.cell? ⟨g4,m*3,none⟩=some (.int .i64 (q.k:Int))/\W.cell? ⟨g4,m*3+1,none⟩=some (.int .i64 (q.l:Int))/\W.cell? ⟨g4,m*3+2,none⟩=some (.int .i64 (q.r:Int))) (first|(simp only[cell?_drew,b0,b1,b2,x0,x1,x2,and_self];done)|(simp only[q0,q1,q2,q3,q4,q5,and_self];done))
       (first
        |(go_at_call 249;refine(uh EX _).mono ?_;rintro e w5 ⟨rfl,eu⟩;have lO:Hid (Below wr.heap.size wr w5):=ab ⟨eu.os,eu.tape,eu.output,eu.size,eu.block⟩;have q0:=((uh lO).cell EA).trans b0;have q1:=((uh lO).cell EA).trans b1;have q2:=((uh lO).cell EA).trans b2;have q3:=((uh lO).cell nZ).trans x0;have q4:=((uh lO).cell nZ).trans x1;have q5:=((uh lO).cell nZ).trans x2;clear eu))
      have eu:=uh lO;have AJ:=eZ (uh hJ).1 eu;have Mi:=(uh hJ).2.1.below eu;obtain⟨r6,⟨⟨u0,y0⟩,⟨u1,y1⟩,⟨u2,y2⟩⟩,f0,f1,f2⟩:=GA AJ (uh Yd).symm (i:=m+1) (by omega) q;rw[uh HPU,uh HDN]at r6;have cX:w.heap.size<=g4:=((uh hJ).1.lt g4 rfl).1;have kU:=((((uh hJ).2.2.trans (eu.mono (uh hJ).2.2.size)).setCell (p:=⟨g4,(m+1)*3,none⟩) cX (.int .i64 (q.k:Int))).setCell (p:=⟨g4,(m+1)*3+1,none⟩) cX (.int .i64 (q.l:Int))).setCell (p:=⟨g4,(m+1)*3+2,none⟩) cX (.int .i64 (q.r:Int));have hX6:=((Mi.setO (p:=⟨g4,(m+1)*3,none⟩) (uh HGX) (.int .i64 (q.k:Int))).setO (p:=⟨g4,(m+1)*3+1,none⟩) (uh HGX) (.int .i64 (q.l:Int))).setO (p:=⟨g4,(m+1)*3+2,none⟩) (uh HGX) (.int .i64 (q.r:Int));have HN:=ab (zq2 r6 (zq2 hX6 kU));have i5:(m:Int)+1<(L.length:Int)+1:=(by omega);have i6:(0:Int)<=(m:Int)+1:=(by omega);have HW2:Hid (B1 p L m=B1 p L L.length):=ab (by rw[<-uh HWH,uh HWM];rfl);clear eu AJ Mi r6 kU hX6 cX;go_wp2_with fail
      go_roundg m
      case rel=>exact⟨q,by omega,by go_num,uh HW2,HN⟩
      case measure=>omega
     |false =>
      rw[Z5]at EX HWM;clear Z5;go_wp2_with fail
      go_region_held3 (λW=>W.cell? ⟨X,0,none⟩=some (.int .i64 (p.k:Int))/\W.cell? ⟨X,1,none⟩=some (.int .i64 (p.l:Int))/\W.cell? ⟨X,2,none⟩=some (.int .i64 (p.r:Int))/\W.cell? ⟨g4,m*3,none⟩=some (.int .i64 (q.k:Int))/\W.cell? ⟨g4,m*3+1,none⟩=some (.int .i64 (q.l:Int))/\W.cell? ⟨g4,m*3+2,none⟩=some (.int .i64 (q.r:Int))) (first|(simp only[cell?_drew,b0,b1,b2,x0,x1,x2,and_self];done)|(simp only[q0,q1,q2,q3,q4,q5,and_self];done))
       (first
        |(go_at_call 249;refine(uh EX _).mono ?_;rintro e w5 ⟨rfl,eu⟩;have lO:Hid (Below wr.heap.size wr w5):=ab ⟨eu.os,eu.tape,eu.output,eu.size,eu.block⟩;have q0:=((uh lO).cell EA).trans b0;have q1:=((uh lO).cell EA).trans b1;have q2:=((uh lO).cell EA).trans b2;have q3:=((uh lO).cell nZ).trans x0;have q4:=((uh lO).cell nZ).trans x1;have q5:=((uh lO).cell nZ).trans x2;clear eu))
      have eu:=uh lO;have AJ:=eZ (uh hJ).1 eu;have Mi:=(uh hJ).2.1.below eu;obtain⟨r6,⟨⟨u0,y0⟩,⟨u1,y1⟩,⟨u2,y2⟩⟩,f0,f1,f2⟩:=GA AJ (uh Yd).symm (i:=m+1) (by omega) p;rw[Ae hj]at r6;have cX:w.heap.size<=g4:=((uh hJ).1.lt g4 rfl).1;have kU:=((((uh hJ).2.2.trans (eu.mono (uh hJ).2.2.size)).setCell (p:=⟨g4,(m+1)*3,none⟩) cX (.int .i64 (p.k:Int))).setCell (p:=⟨g4,(m+1)*3+1,none⟩) cX (.int .i64 (p.l:Int))).setCell (p:=⟨g4,(m+1)*3+2,none⟩) cX (.int .i64 (p.r:Int));have z0:=Mi.cell 0 rfl;have z1:=Mi.cell 1 rfl;have z2:=Mi.cell 2 rfl;have HN:Hid (((((w5.setCell ⟨g4,(m+1)*3,none⟩ (.int .i64 (p.k:Int))).setCell ⟨g4,(m+1)*3+1,none⟩ (.int .i64 (p.l:Int))).setCell ⟨g4,(m+1)*3+2,none⟩ (.int .i64 (p.r:Int)))).ownsRow w.heap.size 182 3 (.slice (some ⟨g4,0,none⟩) (L.length+1) cap4) ((l.take (k+1)).foldl fX []).length (af ((l.take (k+1)).foldl fX []))/\Below w.heap.size w ((((w5.setCell ⟨g4,(m+1)*3,none⟩ (.int .i64 (p.k:Int))).setCell ⟨g4,(m+1)*3+1,none⟩ (.int .i64 (p.l:Int))).setCell ⟨g4,(m+1)*3+2,none⟩ (.int .i64 (p.r:Int))))):=ab ⟨by
       have e:(l.take (k+1)).foldl fX []=xN L p (m+1):=(by rw[uh LZ];unfold fX xN;rw[<-uh HWH,uh HWM];rfl);rw[e,ua hj];exact r6,kU⟩
      have i5:(m:Int)+1<(L.length:Int)+1:=(by omega);have i6:(0:Int)<=(m:Int)+1:=(by omega);clear eu AJ Mi r6 kU cX;go_wp2_with fail
      go_roundg (G-1)
      case rel=>exact⟨k+1,by omega,by go_num,HN⟩
      case measure=>omega
  .have hd:decide ((k:Int)<(l.length:Int))=false:=(by simp;omega);have gK:k=l.length:=(by omega);have OY:(l.take k).foldl fX []=l.foldl fX []:=(by rw[gK,take_length]);rw[OY]at hI dO ⊢;have hSR:mn l=(l.foldl fX []).foldl l6 []:=rfl;obtain⟨S,hS⟩:∃S,S=l.foldl fX []:=⟨_,rfl⟩;rw[<-hS]at hI dO hSR ⊢;have SA:S.length<=100000:=(by omega);have HSR:=ab hSR;clear hS OY hSR gK us dO;go_wp2_with fail
   go_loopw [7,8] (λkv iv wx=>∃(i:Nat) (cur:List Pr),i<=S.length/\iv=.int .i64 i/\kv=.int .i64 (((S.take i).foldl l6 []).length:Nat)/\Hid (wx.ownsRow w.heap.size 182 3 (.slice ra S.length rc) S.length (af cur)/\cur.length=S.length/\cur.take ((S.take i).foldl l6 []).length=(S.take i).foldl l6 []/\cur.drop i=S.drop i/\Below w.heap.size w wx)) (λ_ iv _=>S.length-(intOf iv).toNat)
   case atStart=>exact⟨0,S,zq5 _,rfl,rfl,ab ⟨(uh hI).1,rfl,by simp,rfl,(uh hI).2⟩⟩
   case round =>
    clear hI;obtain⟨i,cur,hi,rfl,rfl,hJ⟩:=hrel;have yi:=Ib (S.take i) (a:=[]);rw[length_take]at yi;simp only[length_nil,Nat.zero_add]at yi;by_cases au:i<S.length
    .have k6:decide ((i:Int)<(S.length:Int))=true:=(by simp;omega);obtain⟨g,cap,dF,-,-⟩:=b9 (uh hJ).1 (by omega);simp only[Value.slice.injEq,true_and]at dF;obtain⟨rfl,rfl,-⟩:=dF;have dU:=(uh hJ).2.1;have ut:wr.ownsRow 0 182 3 (.slice (some ⟨g,0,none⟩) cur.length rc) cur.length (af cur):=(by rw[dU];exact dZ (uh hJ).1 (zq5 _));obtain⟨x0,x1,x2⟩:=aB ut (i:=i) (by omega);have hci:cur.getD i ay=S.getD i ay:=by
      have h1:=congrArg (λm=>m.getD 0 ay) (uh hJ).2.2.2.1;simpa[getD_eq_getElem?_getD,getElem?_drop] using h1
     have hds:=jK (g:=l6) (a:=[]) au;obtain⟨K,hK⟩:∃K,K=(S.take i).foldl l6 []:=⟨_,rfl⟩;obtain⟨p,hp⟩:∃p,p=S.getD i ay:=⟨_,rfl⟩;rw[hci,<-hp]at x0 x1 x2;rw[<-hK]at hJ yi hds ⊢;rw[<-hp]at hds;have hKi:K.length<=i:=(by omega);obtain⟨r6,⟨⟨u0,y0⟩,⟨u1,y1⟩,⟨u2,y2⟩⟩,f0,f1,f2⟩:=GA (uh hJ).1 dU.symm (i:=K.length) (by omega) p;have cX:w.heap.size<=g:=((uh hJ).1.lt g rfl).1;have kU:=(((uh hJ).2.2.2.2.setCell (p:=⟨g,K.length*3,none⟩) cX (.int .i64 (p.k:Int))).setCell (p:=⟨g,K.length*3+1,none⟩) cX (.int .i64 (p.l:Int))).setCell (p:=⟨g,K.length*3+2,none⟩) cX (.int .i64 (p.r:Int));have sn:∀K':List Pr,K'=K++[p]->(cur.set K.length p).length=S.length/\(cur.set K.length p).take K'.length=K'/\(cur.set K.length p).drop (i+1)=S.drop (i+1):=by
      rintro K' rfl;refine⟨by simpa using dU,?_,?_⟩
      .have h1:=(uh hJ).2.2.1;rw[length_append,length_singleton,take_add_one,getElem?_set_self (by omega),take_set_of_le (zq4 _),h1];rfl
      .rw[drop_set_of_lt (by omega)];have h1:=congrArg (λm=>m.drop 1) (uh hJ).2.2.2.1;simpa[drop_drop,Nat.add_comm] using h1
     have Tk:=ab r6;have x9:=ab kU;have HPT:=ab sn;have ic:l6 K p=K->cur.take (l6 K p).length=l6 K p/\cur.drop (i+1)=S.drop (i+1):=λe=>by
      rw[e];refine⟨(uh hJ).2.2.1,?_⟩;have h1:=congrArg (λm=>m.drop 1) (uh hJ).2.2.2.1;simpa[drop_drop,Nat.add_comm] using h1
     have HKP:=ab ic;have HDS:=ab hds;have i1:(0:Int)<=(i:Int):=(by omega);have i2:(i:Int)<(S.length:Int):=(by omega);have i3:(K.length:Int)<(S.length:Int):=(by omega);by_cases lw:i=0
     .have hKe:K=[]:=(by rw[hK,lw];rfl);have El:Hid (l6 K p=K++[p]):=ab (by unfold l6;rw[if_pos (zq0 hKe)]);have d0:((i:Int)==0)=true:=(by simp[lw]);obtain⟨kl,gK⟩:∃kl,kl=K.length:=⟨_,rfl⟩;rw[<-gK]at Tk x9 HPT y0 y1 y2 f0 f1 f2 i3 yi ⊢;have HKL:=ab gK;clear hp hK hds r6 kU sn ic ut hci hKi cX dU hKe lw gK;go_wp2_with fail
      go_quiet (fail)
      go_wp2_with fail
      go_roundw
      case rel=>exact⟨i+1,_,by omega,by go_num,by rw[uh HDS,uh El,length_append,length_singleton,<-uh HKL];go_num,ab (by
       rw[uh HDS,uh El];obtain⟨h1,h2,h3⟩:=uh HPT _ rfl;exact⟨uh Tk,h1,h2,h3,⟨(uh x9).os,(uh x9).tape,(uh x9).output,(uh x9).size,(uh x9).block⟩⟩)⟩
      case measure=>simp[intOf];omega
     .have hKn:K≠[]:=by
       rw[hK];refine NK (λe=>?_);have:=congrArg List.length e;rw[length_take,length_nil]at this;omega
      obtain⟨n,hn⟩:∃n,K.length=n+1:=⟨K.length-1,by have:=length_pos_iff.2 hKn;omega⟩;have kH:cur.getD n ay=K.getD n ay:=by
       have h1:=congrArg (λm=>m.getD n ay) (uh hJ).2.2.1;simp only[getD_eq_getElem?_getD,getElem?_take]at h1 ⊢;rw[if_pos (by omega)]at h1;exact h1
      obtain⟨z0,z1,z2⟩:=aB ut (i:=n) (by omega);obtain⟨q,hq⟩:∃q,q=K.getD n ay:=⟨_,rfl⟩;rw[kH,<-hq]at z0 z1 z2;have Cr:l6 K p=if DY p q=false then K++[p] else K:=by
       unfold l6;rw[hn,Nat.add_sub_cancel,<-hq];by_cases e:DY p q=false
       .rw[if_pos (zq1 e),if_pos e]
       .rw[if_neg (by rw[not_or];exact⟨hKn,e⟩),if_neg e]
      have El:=ab Cr;have d0:((i:Int)==0)=false:=(by simp;omega);have hq0:IntKind.i64.wrap (n:Int)=(n:Int):=(by rw[IntKind.wrap_i64];omega);have i4:(n:Int)<(S.length:Int):=(by omega);have i5:(0:Int)<=(n:Int):=(by omega);have HKL:=ab hn;rw[hn]at Tk x9 HPT y0 y1 y2 f0 f1 f2 i3 yi ⊢;rw[show((n+1:Nat):Int)=(n:Int)+1 by omega]at i3;clear hp hK hds r6 kU sn ic ut hci hKi cX dU lw hKn kH hq Cr hn;have hgd:=OF;have AI:∀W:World,(binOp .neq 182 (.agg #[.int .i64 (p.k:Int),.int .i64 (p.l:Int),.int .i64 (p.r:Int)]) (.agg #[.int .i64 (q.k:Int),.int .i64 (q.l:Int),.int .i64 (q.r:Int)])).run prog W=.ok (.bool (!DY p q)) W:=λW=>by rw[ahg,Ju]
      cases UN:DY p q
      .rw[UN]at El AI;rw[show(!false)=true from rfl]at AI;have Yj:Hid (l6 K p=K++[p]):=ab (uh El);clear El UN;go_wp2_with fail
       go_quiet (fail)
       go_wp2_with fail
       go_roundw
       case rel=>exact⟨i+1,_,by omega,by go_num,by rw[uh HDS,uh Yj,length_append,length_singleton,uh HKL];go_num,ab (by
        rw[uh HDS,uh Yj];obtain⟨h1,h2,h3⟩:=uh HPT _ rfl;exact⟨uh Tk,h1,h2,h3,⟨(uh x9).os,(uh x9).tape,(uh x9).output,(uh x9).size,(uh x9).block⟩⟩)⟩
       case measure=>simp[intOf];omega
      .rw[UN]at El AI;rw[show(!true)=false from rfl]at AI;have Yj:Hid (l6 K p=K):=ab (uh El);clear El UN;go_wp2_with fail
       go_quiet (fail)
       go_wp2_with fail
       go_roundw
       case rel=>exact⟨i+1,cur,by omega,by go_num,by rw[uh HDS,uh Yj,uh HKL],ab (by
        obtain⟨h2,h3⟩:=uh HKP (uh Yj);rw[uh HDS];exact⟨(uh hJ).1,(uh hJ).2.1,h2,h3,⟨(uh hJ).2.2.2.2.os,(uh hJ).2.2.2.2.tape,(uh hJ).2.2.2.2.output,(uh hJ).2.2.2.2.size,(uh hJ).2.2.2.2.block⟩⟩)⟩
       case measure=>simp[intOf];omega
    .have k6:decide ((i:Int)<(S.length:Int))=false:=(by simp;omega);have KX:(S.take i).foldl l6 []=mn l:=(by rw[take_of_length_le (by omega)];exact(uh HSR).symm);rw[KX]at hJ yi ⊢;have hKS:(mn l).length<=S.length:=(by omega);have HRT:Hid (wr.ownsRow w.heap.size 182 3 (.slice ra (mn l).length rc) (mn l).length (af (mn l))):=ab (by
      have h1:=DQ (uh hJ).1 hKS;rw[rl,(uh hJ).2.2.1]at h1;exact h1)
     have HBT:=ab (uh hJ).2.2.2.2;obtain⟨n,hn⟩:∃n,n=(mn l).length:=⟨_,rfl⟩;rw[<-hn]at HRT hKS ⊢;have hrc:S.length<=rc:=by
      obtain⟨a1,c1,h1,h2,h3⟩:=am (uh hJ).1;simp only[Value.slice.injEq,true_and]at h1;omega
     have q1:(0:Int)<=(n:Int):=(by omega);have q2:(n:Int)<=(rc:Int):=(by omega);have uZ:=ab hn;clear KX hJ yi hn HSR;go_wp2_with fail
     go_ret;exact⟨_,rfl,by rw[<-uh uZ];exact uh HRT,uh HBT⟩
end
theorem Lr{g:Pr->Pr}{l:List Pr}{k:Nat}(hk:k<l.length)(h:g (l.getD k ay)=l.getD k ay):bJ g l (k+1)=bJ g l k:=by
 rw[lB hk,h];have h1:=lA (g:=g) hk;rw[<-h1];exact zM (by rw[jU];exact hk)
section
variable {w:World} {A:Nat} {f:CF} {av ov:Value}
theorem Lx(h:Fm w A f av ov)(ha:f.ap.length<=100000)(ho:f.ow.length<=100000):Calls prog 199 #[.pointer (some ⟨A,0,none⟩)] w λe w'=>e=.returned (.tuple #[])/\∃av' ov',Fm w' A (orF f) av' ov'/\ar (aG A av ov) w (aG A av' ov') w':=by
 have c6:=h.is.c6;have HSO:=ab (xn h.is.ow ho);have H:=ab h;obtain⟨oa,oc,gy,-,-⟩:=am h.is.ow;subst gy;obtain⟨aa,ac,kt,-,-⟩:=am h.is.ap;subst kt;clear h;go_enter func199,ntmps199;go_wp2_with fail
 refine(uh HSO).mono ?_;rintro e w1 ⟨v1,rfl,uu,bB⟩;obtain⟨a1,k1,rfl⟩:=bD uu;have dA:ar (Value.slice oa f.ow.length oc).ownBlock.toList w (Value.slice a1 (mn f.ow).length k1).ownBlock.toList w1:=(ar.ofBw (F:=(Value.slice oa f.ow.length oc).ownBlock.toList) bB).foots (λj hj=>zq1 (uu.lt j (by simpa using hj)).1);obtain⟨gg,oX⟩:=(uh H).newOv (ow':=mn f.ow) dA (v':=.slice a1 (mn f.ow).length k1) (λj hj=>by simpa using hj) (dZ uu (zq5 _));have FC:=(uh H).below bB;have d6:=FC.is.c6;have f6:=ownsRow.frozenAt FC.is.ob 6;obtain⟨w2,tq⟩:∃w2,w2=w1.setCell ⟨A,6,none⟩ (.slice a1 (mn f.ow).length k1):=⟨_,rfl⟩;rw[<-tq]at gg oX;have cG:Hid (Fm w2 A { f with ow:=mn f.ow,ap:=bJ jf f.ap 0 } (.slice aa f.ap.length ac) (.slice a1 (mn f.ow).length k1)/\ar (aG A (.slice aa f.ap.length ac) (.slice oa f.ow.length oc)) w (aG A (.slice aa f.ap.length ac) (.slice a1 (mn f.ow).length k1)) w2):=ab ⟨by simpa[bJ] using gg,oX⟩;clear uu bB dA gg oX FC HSO c6;obtain⟨n1,ku⟩:∃n1,n1=(mn f.ow).length:=⟨_,rfl⟩;rw[<-ku]at tq cG ⊢;have L4:=ab ku;clear ku;go_upto_region 1 with fail;rw[<-tq];clear tq d6 f6;go_wp2_with fail
 go_loopw [2] (λi wx=>∃(k:Nat),k<=f.ap.length/\i=.int .i64 k/\Hid (Fm wx A { f with ow:=mn f.ow,ap:=bJ jf f.ap k } (.slice aa f.ap.length ac) (.slice a1 n1 k1)/\ar (aG A (.slice aa f.ap.length ac) (.slice oa f.ow.length oc)) w (aG A (.slice aa f.ap.length ac) (.slice a1 n1 k1)) wx)) (λi _=>f.ap.length-(intOf i).toNat)
 case atStart=>exact⟨0,zq5 _,rfl,cG⟩
 case round =>
  clear cG;obtain⟨k,hk,rfl,hI⟩:=hrel;have fJ:=jU jf f.ap k;have c5:=(uh hI).1.is.c5;by_cases au:k<f.ap.length
  .have hd:decide ((k:Int)<(f.ap.length:Int))=true:=(by simp;omega);have bq:wr.ownsRow 0 182 3 (.slice aa f.ap.length ac) f.ap.length (af (bJ jf f.ap k)):=by
    have:=(uh hI).1.is.ap;rwa [show({ f with ow:=mn f.ow,ap:=bJ jf f.ap k }:CF).ap.length=f.ap.length from fJ]at this
   obtain⟨g,cap,dF,-,-,-⟩:=b9 bq (by omega);simp only[Value.slice.injEq,true_and]at dF;obtain⟨rfl,rfl⟩:=dF;have v9:wr.ownsRow 0 182 3 (.slice (some ⟨g,0,none⟩) (bJ jf f.ap k).length ac) (bJ jf f.ap k).length (af (bJ jf f.ap k)):=(by rw[fJ];exact bq);obtain⟨x0,x1,x2⟩:=aB v9 (i:=k) (by omega);have hmg:=lA (g:=jf) au;rw[hmg]at x0 x1 x2;have hms:=lB (g:=jf) au;have hse:=Lr (g:=jf) au;obtain⟨p,hp⟩:∃p,p=f.ap.getD k ay:=⟨_,rfl⟩;rw[<-hp]at x0 x1 x2 hms hse hmg;have hgA:g≠A:=λe=>(uh hI).1.nds.1 (by rw[e];rfl);obtain⟨W1,d9⟩:∃W1,W1=wr.alloc (.cells #[Value.int .i64 p.k,.int .i64 p.l,.int .i64 p.r] 182):=⟨_,rfl⟩;have cf:Below wr.heap.size wr W1:=(by rw[d9];exact ah wr _);have hX:Bk W1 wr.heap.size 182 [Value.int .i64 p.k,.int .i64 p.l,.int .i64 p.r]:=(by rw[d9];exact Bk.new wr _ _);have gg:=(uh hI).1.below cf;have bU:=(uh hI).2.trans (ar.ofBw cf);have uu:=eZ bq cf;obtain⟨X,gW⟩:∃X,X=wr.heap.size:=⟨_,rfl⟩;have hgX:g≠X:=(by have:=(bq.lt g rfl).2;omega);rw[<-gW]at hX;have b1:=hX.cell 1 rfl;have b2:=hX.cell 2 rfl;have e5:=gg.is.c5;have i1:(0:Int)<=(k:Int):=(by omega);have i2:(k:Int)<(f.ap.length:Int):=(by omega);by_cases hsw:p.r<p.l
   .have d1:decide ((p.r:Int)<(p.l:Int))=true:=(by simp;omega);have s1:=(uu.stored (k*3+1) (.int .i64 (p.r:Int))).1;rw[jp (by omega),hmg]at s1;have s2:=(s1.stored (k*3+2) (.int .i64 (p.l:Int))).1;rw[fy (by simp;omega)]at s2;have afL:((bJ jf f.ap k).set k ⟨p.k,p.r,p.r⟩).set k ⟨(((bJ jf f.ap k).set k ⟨p.k,p.r,p.r⟩).getD k ay).k,(((bJ jf f.ap k).set k ⟨p.k,p.r,p.r⟩).getD k ay).l,p.l⟩=bJ jf f.ap (k+1):=by
     rw[hms,set_set];have:((bJ jf f.ap k).set k ⟨p.k,p.r,p.r⟩).getD k ay=⟨p.k,p.r,p.r⟩:=by
      rw[getD_eq_getElem?_getD,getElem?_set_self (by omega)];rfl
     rw[this];unfold jf;rw[if_pos hsw]
    rw[afL]at s2;have gT:ar (Value.slice (some ⟨g,0,none⟩) f.ap.length ac).ownBlock.toList W1 (Value.slice (some ⟨g,0,none⟩) f.ap.length ac).ownBlock.toList ((W1.setCell ⟨g,k*3+1,none⟩ (.int .i64 (p.r:Int))).setCell ⟨g,k*3+2,none⟩ (.int .i64 (p.l:Int))):=((ar.refl _ _).setCell (p:=⟨g,k*3+1,none⟩) (zq0 (by simp[Value.ownBlock])) _).setCell (p:=⟨g,k*3+2,none⟩) (zq0 (by simp[Value.ownBlock])) _;obtain⟨pq,yw⟩:=gg.newRowA (ap':=bJ jf f.ap (k+1)) (by rw[jU,show({ f with ow:=mn f.ow,ap:=bJ jf f.ap k }:CF).ap.length=f.ap.length from fJ]) (by rw[show({ f with ow:=mn f.ow,ap:=bJ jf f.ap k }:CF).ap.length=f.ap.length from fJ];exact s2) gT;obtain⟨q0,q1,q2⟩:=aB (dZ (fJ ▸ uu:W1.ownsRow 0 182 3 (.slice (some ⟨g,0,none⟩) (bJ jf f.ap k).length ac) (bJ jf f.ap k).length (af (bJ jf f.ap k))) (zq5 _)) (i:=k) (by omega);have f1:=uu.frozenAt (k*3+1);have f2:=s1.frozenAt (k*3+2);have y2:(W1.setCell ⟨g,k*3+1,none⟩ (.int .i64 (p.r:Int))).cell? ⟨g,k*3+2,none⟩=some (.int .i64 (p.r:Int)):=by
     rw[cell?_setCell_other _ _ _ _ (by simp),q2,hmg]
    have y5:(W1.setCell ⟨g,k*3+1,none⟩ (.int .i64 (p.r:Int))).cell? ⟨A,5,none⟩=some (.slice (some ⟨g,0,none⟩) f.ap.length ac):=by
     rw[cell?_setCell_other _ _ _ _ (by simp only[ne_eq,Addr.mk.injEq,not_and];intro e;exact absurd e hgA)];exact e5
    have yb:(W1.setCell ⟨g,k*3+1,none⟩ (.int .i64 (p.r:Int))).cell? ⟨X,1,none⟩=some (.int .i64 (p.l:Int)):=by
     rw[cell?_setCell_other _ _ _ _ (by simp only[ne_eq,Addr.mk.injEq,not_and];intro e;exact absurd e hgX)];exact b1
    have HN:Hid (Fm ((W1.setCell ⟨g,k*3+1,none⟩ (.int .i64 (p.r:Int))).setCell ⟨g,k*3+2,none⟩ (.int .i64 (p.l:Int))) A { f with ow:=mn f.ow,ap:=bJ jf f.ap (k+1) } (.slice (some ⟨g,0,none⟩) f.ap.length ac) (.slice a1 n1 k1)/\ar (aG A (.slice (some ⟨g,0,none⟩) f.ap.length ac) (.slice oa f.ow.length oc)) w (aG A (.slice (some ⟨g,0,none⟩) f.ap.length ac) (.slice a1 n1 k1)) ((W1.setCell ⟨g,k*3+1,none⟩ (.int .i64 (p.r:Int))).setCell ⟨g,k*3+2,none⟩ (.int .i64 (p.l:Int)))):=ab ⟨pq,bU.trans yw⟩;rw[hmg]at q0 q1 q2;clear s1 s2 afL gT pq yw bq v9 hmg hms hse hp cf hX gg bU uu fJ hI hgA hgX;go_upto_region 5 with fail;rw[<-d9,<-gW];clear d9 gW;go_wp2_with fail
    go_region
    go_wp2_with fail
    go_region
    go_wp2_with fail
    go_roundw
    case rel=>exact⟨k+1,by omega,by go_num,ab ⟨(uh HN).1.of_eq (λ_ _=>rfl),(uh HN).2.drew.drew⟩⟩
    case measure=>simp[intOf];omega
   .have d1:decide ((p.r:Int)<(p.l:Int))=false:=(by simp;omega);have HN:Hid (Fm W1 A { f with ow:=mn f.ow,ap:=bJ jf f.ap (k+1) } (.slice (some ⟨g,0,none⟩) f.ap.length ac) (.slice a1 n1 k1)/\ar (aG A (.slice (some ⟨g,0,none⟩) f.ap.length ac) (.slice oa f.ow.length oc)) w (aG A (.slice (some ⟨g,0,none⟩) f.ap.length ac) (.slice a1 n1 k1)) W1):=ab ⟨by rw[hse (by unfold jf;rw[if_neg hsw])];exact gg,bU⟩;clear bq v9 hmg hms hse hp cf hX gg bU uu fJ hI hgA hgX;go_upto_region 5 with fail;rw[<-d9,<-gW];clear d9 gW;go_wp2_with fail
    go_roundw
    case rel=>exact⟨k+1,by omega,by go_num,HN⟩
    case measure=>simp[intOf];omega
  .have hd:decide ((k:Int)<(f.ap.length:Int))=false:=(by simp;omega);have kI:bJ jf f.ap k=f.ap.map jf:=wy (by omega);rw[kI]at hI;have bq:wr.ownsRow 0 182 3 (.slice aa f.ap.length ac) (f.ap.map jf).length (af (f.ap.map jf)):=(uh hI).1.is.ap;have yI:=ab (xn bq (by simpa using ha));clear kI bq fJ;go_wp2_with fail
   refine(uh yI).mono ?_;rintro e w5 ⟨v5,rfl,AJ,eu⟩;obtain⟨a5,k5,rfl⟩:=bD AJ;have qN:ar (Value.slice aa f.ap.length ac).ownBlock.toList wr (Value.slice a5 (mn (f.ap.map jf)).length k5).ownBlock.toList w5:=(ar.ofBw (F:=(Value.slice aa f.ap.length ac).ownBlock.toList) eu).foots (λj hj=>zq1 (AJ.lt j (by simpa using hj)).1);obtain⟨C4,AM⟩:=(uh hI).1.newAv (ap':=mn (f.ap.map jf)) qN (v':=.slice a5 (mn (f.ap.map jf)).length k5) (λj hj=>by simpa using hj) (dZ AJ (zq5 _));have FC:=(uh hI).1.below eu;have d5:=FC.is.c5;have f5:=ownsRow.frozenAt FC.is.ob 5;have HN:=ab (zq2 C4 ((uh hI).2.trans AM));clear AJ eu qN C4 AM FC yI c5;go_wp2_with fail
   go_end0
   exact⟨rfl,_,_,(uh HN).1,(uh HN).2⟩
theorem lL(h:Fm w A f av ov)(hO:aj f)(ha:f.ap.length<=100000):Calls prog 171 #[.pointer (some ⟨A,0,none⟩)] w λe w'=>e=.returned (.tuple #[])/\∃av' ov',Fm w' A (aQ f) av' ov'/\ar (aG A av ov) w (aG A av' ov') w':=by
 have iJ:=hO.owLen;have LY:=ab (Fy h ⟨hO.cl,hO.ow,hO.ap⟩ ha (by omega));have HO:=ab hO;clear h hO;go_enter func171,ntmps171;go_wp2_with fail
 refine(uh LY).mono ?_;rintro e w1 ⟨rfl,av1,h1,s1⟩;have EG:(cK f).ap.length<=100000:=zq3 (length_filter_le _ _) ha;have HRN:=ab (BS h1 (uh HO).fg (λp hp=>iB hp) EG);have cI:=ab s1;clear h1 s1 LY;go_wp2_with fail
 refine(uh HRN).mono ?_;rintro e w2 ⟨rfl,h2,s2⟩;have MP:=ab (Lx h2 (by simpa[wX] using EG) (by
  show((cK f).ow.map _).length<=100000;rw[length_map];exact zq3 iJ (by omega)))
 have dh:=ab ((uh cI).trans s2);clear h2 s2 HRN;go_wp2_with fail
 refine(uh MP).mono ?_;rintro e w3 ⟨rfl,av3,ov3,h3,s3⟩;have HN:=ab (zq2 h3 ((uh dh).trans s3));clear h3 s3 MP;go_wp2_with fail
 go_end0
 exact⟨rfl,_,_,(uh HN).1,(uh HN).2⟩
end
theorem fL.me{bl:List Bool}{s:List Nat}(h:fL bl s){c:Nat}(hc:c<24):fL (bl.set c true) (iU s c):=(h.add hc).congr (λd=>by
 unfold iU;split
 .rename_i hm;rw[mem_cons];exact⟨λh=>by rcases h with rfl|h;exact hm;exact h,zq1⟩
 .rw[mem_cons,mem_append,mem_singleton];exact⟨λh=>h.elim zq1 zq0,λh=>h.elim zq1 zq0⟩)
theorem fL.eq{bl:List Bool}{s:List Nat}(h:fL bl s):bl=(range 24).map (λc=>decide (c∈s)):=by
 refine ext_getElem (by rw[h.1];simp) (λj h1 h2=>?_);have hj:j<24:=by have:=h.1;omega
 have:=h.2 j hj;rw[getD_eq_getElem?_getD,getElem?_eq_getElem h1]at this;simp only[Option.getD_some]at this;rw[getElem_map,getElem_range];cases hb:bl[j] with
 |true=>rw[hb]at this;simp[this.1 rfl]
 |false=>rw[hb]at this;simp;intro hm;exact absurd (this.2 hm) (by simp)
theorem BK(l:List Pr):∀{s:List Nat},s.length<=(l.foldl mN s).length:=by
 induction l with
 |nil=>intro s;exact zq4 _
 |cons p r ih=>intro s;exact zq3 (BN s p) ih
theorem BM:∀(l:List Pr) (s:List Nat),∃t,l.foldl mN s=s++t
 |[],s=>⟨[],by simp⟩
 |p::r,s=>by
  obtain⟨t,ht⟩:=BM r (mN s p);rw[foldl_cons,ht];unfold mN;split
  .exact⟨[p.r]++t,by rw[append_assoc]⟩
  .exact⟨t,rfl⟩
theorem R4:(dp (replicate 24 false)).toArray=(replicate 24 (Value.bool false)).toArray:=rfl
theorem infoB24:(prog.info? 240).map (·.size)=some 24:=by kernel_rfl
section
variable {w:World} {A:Nat} {f:CF} {av ov:Value}
theorem nI(h:eQ w A f av ov)(hO:aj f):Calls prog 227 #[.pointer (some ⟨A,0,none⟩)] w λe w'=>e=.returned (.agg (dp (ER f)).toArray)/\Below w.heap.size w w':=by
 obtain⟨oa,oc,gy,-,-⟩:=am h.ow;subst gy;have iJ:=hO.owLen;obtain⟨w0,mB⟩:∃w0,w0=(w.alloc (.cells (replicate 24 (Value.bool false)).toArray 240)).alloc (.cells (replicate 24 (Value.bool false)).toArray 240):=⟨_,rfl⟩;have tK:Below w.heap.size w w0:=by rw[mB];exact(ah w _).alloc (ah w _).size _
 have Sy:Ob w0 240 24 w.heap.size (dp (replicate 24 false)):=by rw[mB,<-R4];exact(Au w).alloc _
 have Uj:Ob w0 240 24 (w.heap.size+1) (dp (replicate 24 false)):=by
  rw[mB,<-R4];have:=Au (w.alloc (.cells (dp (replicate 24 false)).toArray 240));simpa using this
 obtain⟨R,hR⟩:∃R,R=w.heap.size:=⟨_,rfl⟩;obtain⟨D,hD⟩:∃D,D=R+1:=⟨_,rfl⟩;rw[<-hR,<-hD]at Uj;rw[<-hR]at Sy;have H:=ab h;have HO:=ab hO;have HR:=ab hR;have HD:=ab hD;have cG:Hid (Ob w0 240 24 D (dp (replicate 24 false))/\fL (replicate 24 false) (([f.cl.getD 1 0,f.cl.getD 2 0,f.cl.getD 3 0,f.cl.getD 4 0].take 0).foldl iU [])/\Ob w0 240 24 R (dp (replicate 24 false))/\Below w.heap.size w w0):=ab ⟨Uj,CU,Sy,tK⟩;clear h hO tK Sy Uj;simp only[replicate]at mB;go_enter func227,ntmps227;go_upto_region 2 with fail;rw[<-mB,<-hR,<-hD];clear mB hR hD;go_wp2_with fail
 go_loopw [4] (λi wx=>∃(k:Nat) (bl:List Bool),k<=4/\i=.int .i64 ((k:Int)+1)/\Hid (Ob wx 240 24 D (dp bl)/\fL bl (([f.cl.getD 1 0,f.cl.getD 2 0,f.cl.getD 3 0,f.cl.getD 4 0].take k).foldl iU [])/\Ob wx 240 24 R (dp (replicate 24 false))/\Below w.heap.size w wx)) (λi _=>5-(intOf i).toNat)
 case atStart=>exact⟨0,_,zq5 _,rfl,cG⟩
 case round =>
  clear cG;obtain⟨k,bl,hk,rfl,hI⟩:=hrel;have hDR:D≠R:=by have:=uh HD;omega
  by_cases au:k<4
  .have hd:decide ((k:Int)+1<(5:Int))=true:=(by simp;omega);have hF:=(uh H).below (uh hI).2.2.2;have x:=hF.cls (i:=k+1) (by omega);unfold hU at x;have aP:([f.cl.getD 1 0,f.cl.getD 2 0,f.cl.getD 3 0,f.cl.getD 4 0].take (k+1)).foldl iU []=iU (([f.cl.getD 1 0,f.cl.getD 2 0,f.cl.getD 3 0,f.cl.getD 4 0].take k).foldl iU []) (f.cl.getD (k+1) 0):=by
    have:k=0\/k=1\/k=2\/k=3:=(by omega);rcases this with rfl|rfl|rfl|rfl <;> rfl
   have hc:=(uh HO).get (k+1);obtain⟨c,hce⟩:∃c,c=f.cl.getD (k+1) 0:=⟨_,rfl⟩;rw[<-hce]at x aP hc;obtain⟨⟨u,hu⟩,hz⟩:=(uh hI).1.some (j:=c) hc;have o1:=(uh hI).1.stored c (.bool true);rw[lX]at o1;have cX:w.heap.size<=D:=(by have:=uh HD;have:=uh HR;omega);have HN:Hid (Ob (wr.setCell ⟨D,c,none⟩ (.bool true)) 240 24 D (dp (bl.set c true))/\fL (bl.set c true) (([f.cl.getD 1 0,f.cl.getD 2 0,f.cl.getD 3 0,f.cl.getD 4 0].take (k+1)).foldl iU [])/\Ob (wr.setCell ⟨D,c,none⟩ (.bool true)) 240 24 R (dp (replicate 24 false))/\Below w.heap.size w (wr.setCell ⟨D,c,none⟩ (.bool true))):=ab ⟨o1,by rw[aP];exact(uh hI).2.1.me hc,(uh hI).2.2.1.of_eq (heap_setCell _ _ _ _ (λe=>hDR e.symm)),(uh hI).2.2.2.setCell (p:=⟨D,c,none⟩) cX _⟩;have i1:(0:Int)<=(k:Int)+1:=(by omega);have i2:(k:Int)+1<(5:Int):=(by omega);have i3:(c:Int)<(24:Int):=(by omega);have i4:((k:Int)+1).toNat=k+1:=(by omega);clear hF aP hce o1 hI cX;go_wp2_with fail
   go_roundw
   case rel=>exact⟨k+1,_,by omega,by go_num,HN⟩
   case measure=>simp[intOf];omega
  .have hd:decide ((k:Int)+1<(5:Int))=false:=(by simp;omega);have xU:k=4:=(by omega);subst xU;have tQ:([f.cl.getD 1 0,f.cl.getD 2 0,f.cl.getD 3 0,f.cl.getD 4 0].take 4).foldl iU []=QV f:=rfl;rw[tQ]at hI;have fH:Hid (Ob wr 240 24 D (dp bl)/\fL bl (QV f)/\er (QV f)/\Ob wr 240 24 R (dp (replicate 24 false))/\Below w.heap.size w wr/\LK f 25 (QV f)=jz f):=ab ⟨(uh hI).1,(uh hI).2.1,aby (uh HO).cl,(uh hI).2.2.1,(uh hI).2.2.2,rfl⟩;clear tQ hI;rw[show((4:Nat):Int)+1=(5:Int) from rfl];have cX:w.heap.size<=D:=(by have:=uh HD;have:=uh HR;omega);go_wp2_with fail
   go_loopg [5] (26-(QV f).length) (λgn gv wx=>∃(s:List Nat) (bl:List Bool) (n:Nat) (gr:Bool),gv=.bool gr/\gn=(if gr=true then 26-s.length else 0)/\s.length<=24/\Hid (Ob wx 240 24 D (dp bl)/\fL bl s/\er s/\Ob wx 240 24 R (dp (replicate 24 false))/\Below w.heap.size w wx/\(gr=true->LK f n s=jz f/\24<n+s.length)/\(gr=false->s=jz f)))
   case atStart=>exact⟨QV f,bl,25,true,rfl,rfl,(uh fH).2.2.1.len,ab ⟨(uh fH).1,(uh fH).2.1,(uh fH).2.2.1,(uh fH).2.2.2.1,(uh fH).2.2.2.2.1,λ_=>⟨rfl,by omega⟩,λh=>by cases h⟩⟩
   case round =>
    clear fH;obtain⟨s,bl,n,gr,rfl,hgn,yv,hI⟩:=hrel;obtain⟨G,hG⟩:∃G,G=gk:=⟨_,rfl⟩;cases gr with
    |false =>
     have agM:=(uh hI).2.2.2.2.2.2 rfl;have cL:dp bl=dp (ER f):=(by rw[(uh hI).2.1.eq,agM];rfl);obtain⟨M,hM⟩:∃M,M=dp (ER f):=⟨_,rfl⟩;have fJ:M.length=24:=(by rw[hM];simp[dp,ER]);have OH:Ob wr 240 24 D M:=(by rw[hM,<-cL];exact(uh hI).1);have s8:=(uh hI).2.2.2.1;have hRg:wr.rangeAt D 0 M:=by
      intro j v hj;have fU:=(List.getElem?_eq_some_iff.1 hj).1;rw[Nat.zero_add,ownsRow.cellAt OH j (by omega)];exact hj
     have Co:wr.there R 0 M.toArray.size:=by
      intro j hj;rw[size_toArray,fJ]at hj;obtain⟨⟨u,hu⟩,hz⟩:=s8.some (j:=j) hj;rw[Nat.zero_add];exact⟨by rw[hu];rfl,hz⟩
     have dW:(prog.info? 240).map (·.size)=some M.length:=(by rw[fJ];exact infoB24);have ce:(prog.info? 240).map (·.size)=some M.toArray.size:=(by rw[size_toArray,fJ];exact infoB24);have C6:M.toArray.all (·.oneCell')=true:=all_oneCell_toArray (by
      intro v hv;rw[hM]at hv;obtain⟨o,_,rfl⟩:=mem_map.1 hv;rfl)
     have vO:=Ob.setCells M 0 s8;have aaD:=nK M [] (dp (replicate 24 false)) [] (by rw[fJ];rfl);simp only[nil_append,append_nil,length_nil]at aaD;rw[aaD]at vO;have ZT:w.heap.size<=R:=(by have:=uh HR;omega);have OG:∀(vs:List Value) (o:Nat) (x:World),Below w.heap.size w x->Below w.heap.size w (x.setCells R o vs):=by
      intro vs;induction vs with
      |nil=>intro o x h;exact h
      |cons v r ih=>intro o x h;exact ih (o+1) _ (h.setCell ZT v)
     have lO:=ab (OG M 0 wr (uh hI).2.2.2.2.1);have HM:=ab hM;have HML:=ab fJ;have HRg:=ab hRg;have CD:=ab Co;have fH:=ab dW;have ep:=ab ce;have Sk:=ab C6;have J8:=ab vO;clear hRg Co dW ce C6 vO aaD OG hM fJ OH s8 cL agM hI hgn;go_wp2_with (first|refine wpList_load_mid rfl 240 (.tmp 3) rfl D 0 rfl M _ (uh HRg) underlying240 rfl (uh fH) ?_|refine wpList_store_mid rfl 240 (.tmp 2) (.tmp 44) rfl R 0 M.toArray rfl rfl (uh CD) (uh ep) (uh Sk) ?_)
     have aaB:(wr.setCells R 0 M).rangeAt R 0 M:=by
      intro j v hj;have fU:=(List.getElem?_eq_some_iff.1 hj).1;rw[uh HML]at fU;rw[Nat.zero_add,ownsRow.cellAt (uh J8) j (by omega)];exact hj
     have hld:=run_loadVar_mid (P:=prog) (wr.setCells R 0 M) R 0 240 M _ aaB underlying240 rfl (uh fH);refine bodyPost_ret (v:=.agg M.toArray) ?_ rfl ⟨by rw[uh HM],uh lO⟩;simp[results,Tryz.results227,Act.put,asAddr,hld]
    |true =>
     have arx:gk=26-s.length:=hgn;obtain⟨hrc,arR⟩:=(uh hI).2.2.2.2.2.1 rfl;have HRC:=ab hrc;have hF:=(uh H).below (uh hI).2.2.2.2.1;have c6:=hF.c6;have ep:Hid (Ob wr 240 24 D (dp bl)/\fL bl ((f.ow.take 0).foldl mN s)/\Ob wr 240 24 R (dp (replicate 24 false))/\Below w.heap.size w wr):=ab ⟨(uh hI).1,(uh hI).2.1,(uh hI).2.2.2.1,(uh hI).2.2.2.2.1⟩;have HMS:=ab (uh hI).2.2.1;clear hgn hrc hF hI;go_wp2_with fail
     go_loopg [5,25] f.ow.length (λgn gv i wx=>∃(j:Nat) (bl:List Bool),j+gn=f.ow.length/\i=.int .i64 j/\gv=.bool (decide (((f.ow.take j).foldl mN s).length≠s.length))/\Hid (Ob wx 240 24 D (dp bl)/\fL bl ((f.ow.take j).foldl mN s)/\Ob wx 240 24 R (dp (replicate 24 false))/\Below w.heap.size w wx))
     case atStart=>exact⟨0,bl,by omega,rfl,by simp,ep⟩
     case round =>
      clear ep c6;obtain⟨j,bl,Cs,rfl,rfl,hJ⟩:=hrel;obtain⟨G2,FD⟩:∃G2,G2=gk:=⟨_,rfl⟩;have hF:=(uh H).below (uh hJ).2.2.2;have hDR:D≠R:=(by have:=uh HD;omega);obtain⟨m,hm⟩:∃m,m=(f.ow.take j).foldl mN s:=⟨_,rfl⟩;have m9:s.length<=m.length:=(by rw[hm];exact BK _);by_cases au:j<f.ow.length
      .have hd:decide ((j:Int)<(f.ow.length:Int))=true:=(by simp;omega);obtain⟨g,cap,dF,-,-⟩:=aE hF.ow au;simp only[Value.slice.injEq,true_and]at dF;obtain⟨rfl,rfl⟩:=dF;obtain⟨x0,x1,x2⟩:=aB hF.ow au;obtain⟨k7,xW⟩:=(uh HO).ow _ (aY au);have qq:=jK (g:=mN) (a:=s) au;obtain⟨p,hp⟩:∃p,p=f.ow.getD j ay:=⟨_,rfl⟩;rw[<-hp]at x0 x1 x2 k7 xW qq;rw[<-hm]at hJ qq ⊢;obtain⟨gr,UD⟩:∃gr,gr=decide (m.length≠s.length):=⟨_,rfl⟩;rw[<-UD];have HGR:=ab UD;obtain⟨W1,d9⟩:∃W1,W1=wr.alloc (.cells #[Value.int .i64 p.k,.int .i64 p.l,.int .i64 p.r] 182):=⟨_,rfl⟩;have cf:Below wr.heap.size wr W1:=(by rw[d9];exact ah wr _);have hX:Bk W1 wr.heap.size 182 [Value.int .i64 p.k,.int .i64 p.l,.int .i64 p.r]:=(by rw[d9];exact Bk.new wr _ _);have b1:=hX.cell 1 rfl;have b2:=hX.cell 2 rfl;have oD:Ob W1 240 24 D (dp bl):=(uh hJ).1.of_eq (cf.block D (ownsRow.lt (uh hJ).1 D rfl).2);have oR:Ob W1 240 24 R (dp (replicate 24 false)):=(uh hJ).2.2.1.of_eq (cf.block R (ownsRow.lt (uh hJ).2.2.1 R rfl).2);have bB:=(uh hJ).2.2.2.trans (cf.mono (uh hJ).2.2.2.size);have Sz:=(uh hJ).2.1;have d1:=(ownsRow.cellAt oD p.l (by omega)).trans (fQ (by rw[Sz.1];exact k7));have d2:=(ownsRow.cellAt oD p.r (by omega)).trans (fQ (by rw[Sz.1];exact xW));have fz:=ownsRow.frozenAt oD p.r;have e1:bl.getD p.l false=decide (p.l∈m):=(by have:=Sz.2 p.l k7;cases hb:bl.getD p.l false <;> simp_all);have e2:bl.getD p.r false=decide (p.r∈m):=(by have:=Sz.2 p.r xW;cases hb:bl.getD p.r false <;> simp_all);rw[e1]at d1;rw[e2]at d2;have o1:=oD.stored p.r (.bool true);rw[lX]at o1;have i1:(0:Int)<=(j:Int):=(by omega);have i2:(j:Int)<(f.ow.length:Int):=(by omega);have i3:(p.l:Int)<(24:Int):=(by omega);have i4:(p.r:Int)<(24:Int):=(by omega);obtain⟨X,gW⟩:∃X,X=wr.heap.size:=⟨_,rfl⟩;rw[<-gW]at b1 b2;have LZ:=ab qq;have HNo:Hid (mN m p=m->Ob W1 240 24 D (dp bl)/\fL bl ((f.ow.take (j+1)).foldl mN s)/\Ob W1 240 24 R (dp (replicate 24 false))/\Below w.heap.size w W1):=ab (λe=>⟨oD,by rw[qq,e];exact Sz,oR,bB⟩);have ake:Hid (mN m p=m++[p.r]->Ob (W1.setCell ⟨D,p.r,none⟩ (.bool true)) 240 24 D (dp (bl.set p.r true))/\fL (bl.set p.r true) ((f.ow.take (j+1)).foldl mN s)/\Ob (W1.setCell ⟨D,p.r,none⟩ (.bool true)) 240 24 R (dp (replicate 24 false))/\Below w.heap.size w (W1.setCell ⟨D,p.r,none⟩ (.bool true))):=ab (λe=>⟨o1,by
        rw[qq,e];exact(Sz.add xW).congr (λd=>by simp only[mem_cons,mem_append,not_mem_nil,or_false];exact⟨λh=>h.elim zq1 zq0,λh=>h.elim zq1 zq0⟩),oR.of_eq (heap_setCell _ _ _ _ (λe=>hDR e.symm)),bB.setCell (p:=⟨D,p.r,none⟩) cX _⟩)
       clear cf hX oD oR bB Sz e1 e2 o1 qq hp hm hF hJ UD;by_cases q1:p.l∈m
       .rw[show decide (p.l∈m)=true by simpa using q1]at d1;by_cases q2:p.r∈m
        .rw[show decide (p.r∈m)=true by simpa using q2]at d2;have HE:Hid (mN m p=m):=ab (by unfold mN;rw[if_neg (by rintro⟨-,h⟩;exact h q2)]);clear q1 q2;go_upto_region 12 with fail;rw[<-d9,<-gW];clear d9 gW;go_wp2_with fail
         go_roundg (G2-1)
         case rel=>exact⟨j+1,bl,by omega,by go_num,by rw[uh LZ,uh HE,<-uh HGR],ab (uh HNo (uh HE))⟩
         case measure=>omega
        .rw[show decide (p.r∈m)=false by simpa using q2]at d2;have HE:Hid (mN m p=m++[p.r]):=ab (by unfold mN;rw[if_pos ⟨q1,q2⟩]);clear q1 q2;go_upto_region 12 with fail;rw[<-d9,<-gW];clear d9 gW;go_wp2_with fail
         go_roundg (G2-1)
         case rel=>exact⟨j+1,_,by omega,by go_num,by
          rw[uh LZ,uh HE,length_append,length_singleton];rw[show decide (m.length+1≠s.length)=true by simp;omega],ab (uh ake (uh HE))⟩
         case measure=>omega
       .rw[show decide (p.l∈m)=false by simpa using q1]at d1;have HE:Hid (mN m p=m):=ab (by unfold mN;rw[if_neg (by rintro⟨h,-⟩;exact q1 h)]);clear q1;go_upto_region 12 with fail;rw[<-d9,<-gW];clear d9 gW;go_wp2_with fail
        go_roundg (G2-1)
        case rel=>exact⟨j+1,bl,by omega,by go_num,by rw[uh LZ,uh HE,<-uh HGR],ab (uh HNo (uh HE))⟩
        case measure=>omega
      .have hd:decide ((j:Int)<(f.ow.length:Int))=false:=(by simp;omega);have Lc:(f.ow.take j).foldl mN s=wV f s:=(by rw[take_of_length_le (by omega)];rfl);rw[Lc]at hJ ⊢;obtain⟨n',rfl⟩:∃n',n=n'+1:=⟨n-1,by omega⟩;have hrn:LK f (n'+1) s=if (wV f s).length=s.length then s else LK f n' (wV f s):=rfl
       have bn:=(GC f.ow (uh HMS) (λp hp=>((uh HO).ow p hp).2)).1;have UJ:er (wV f s):=bn;have yr:=UJ.len;have agj:s.length<=(wV f s).length:=BK _;have HJ:Hid (Ob wr 240 24 D (dp bl)/\fL bl (wV f s)/\er (wV f s)/\Ob wr 240 24 R (dp (replicate 24 false))/\Below w.heap.size w wr):=ab ⟨(uh hJ).1,(uh hJ).2.1,UJ,(uh hJ).2.2.1,(uh hJ).2.2.2⟩;by_cases pT:(wV f s).length=s.length
       .have tp:wV f s=s:=by
         obtain⟨t,ht⟩:=BM f.ow s;have h1:wV f s=s++t:=ht;have h2:=congrArg List.length h1;rw[length_append]at h2;have:t=[]:=length_eq_zero_iff.1 (by omega);rw[h1,this,append_nil]
        have HE:Hid (wV f s=jz f):=ab (by
         have h1:=uh HRC;rw[hrn,if_pos pT]at h1;rw[tp];exact h1)
        rw[show decide ((wV f s).length≠s.length)=false by simp[pT]];clear tp pT Lc hrn bn UJ hJ agj yr;go_wp2_with fail
        go_roundg 0
        case rel=>exact⟨wV f s,bl,0,false,rfl,rfl,(uh HJ).2.2.1.len,ab ⟨(uh HJ).1,(uh HJ).2.1,(uh HJ).2.2.1,(uh HJ).2.2.2.1,(uh HJ).2.2.2.2,(λh=>by cases h),λ_=>uh HE⟩⟩
        case measure=>omega
       .have HE:Hid (LK f n' (wV f s)=jz f/\24<n'+(wV f s).length):=ab ⟨by
         have h1:=uh HRC;rw[hrn,if_neg pT]at h1;exact h1,by omega⟩
        rw[show decide ((wV f s).length≠s.length)=true by simp[pT]];have b8:26-(wV f s).length<G:=(by omega);clear pT Lc hrn bn UJ hJ agj;go_wp2_with fail
        go_roundg (26-(wV f s).length)
        case rel=>exact⟨wV f s,bl,n',true,rfl,rfl,(uh HJ).2.2.1.len,ab ⟨(uh HJ).1,(uh HJ).2.1,(uh HJ).2.2.1,(uh HJ).2.2.2.1,(uh HJ).2.2.2.2,(λ_=>uh HE),λh=>by cases h⟩⟩
        case measure=>omega
end
