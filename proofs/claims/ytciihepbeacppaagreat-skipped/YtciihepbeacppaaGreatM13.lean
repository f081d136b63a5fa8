import Derived.Test.YtciihepbeacppaaGreatM12
import Derived.Laws.StructEq
import Derived.Deep.RegionHeld3
set_option maxRecDepth 100000
set_option maxHeartbeats 0
namespace Go.Proofs.YtciihepbeacppaaGreat
open Tryz Go.RowKit List World Below
set_option linter.unusedVariables false
theorem Ze(a b c x y z:Int)(w:World):(Op.equalIn 10000 182 (.agg #[.int .i64 a,.int .i64 b,.int .i64 c]) (.agg #[.int .i64 x,.int .i64 y,.int .i64 z])).run prog w=.ok (a==x&&(b==y&&c==z)) w:=by
 have u3:=underlying3;have a3:=Tryz.isAgg3;have z3:=sizeOf3;have hS:prog.underlying 182=some (.struct (prog.fieldsOf 182)):=by kernel_rfl
 have hp:prog.stoodInHeld 182=false:=by kernel_rfl
 rw[show(10000:Nat)=9999+1 from rfl,run_equalIn_agg w 9999 182 _ _ hS hp];simp only[Program.fieldsOf,underlying182];go_simp
 by_cases h1:a=x <;> by_cases h2:b=y <;> by_cases h3:c=z <;> simp[h1,h2,h3]
theorem ahe(a b c x y z:Int)(w:World):(binOp .neq 182 (.agg #[.int .i64 a,.int .i64 b,.int .i64 c]) (.agg #[.int .i64 x,.int .i64 y,.int .i64 z])).run prog w=.ok (.bool (!(a==x&&(b==y&&c==z)))) w:=by
 rw[run_neq_struct,Ze];rfl
theorem OD:prog.eqGuardType prog.depth 182=false:=by kernel_rfl
theorem DO{w:World}{B e sz n k cap:Nat}{a:Option Addr}{xs:List Value}(h:w.ownsRow B e sz (.slice a n cap) n xs)(hk:k<=n):w.ownsRow B e sz (.slice a k cap) k (xs.take (k*sz)):=by
 have hl:=h.1;have hks:k*sz<=n*sz:=Nat.mul_le_mul_right _ hk;rcases h.2 with⟨h',hn⟩|⟨g',cap',cur,h',hb,hg,Mq,oT,Dc,PK⟩
 .simp only[Value.slice.injEq]at h';obtain⟨rfl,h2,rfl⟩:=h';have si:n=0:=by omega
  have hk0:k=0:=by omega
  subst si;subst hk0;refine⟨by simp,.inl ⟨rfl,?_⟩⟩;simp
 .simp only[Value.slice.injEq]at h';obtain⟨rfl,-,rfl⟩:=h';refine⟨by rw[length_take];omega,.inr ⟨g',cap,cur,rfl,hb,hg,by omega,oT,Dc,?_⟩⟩;rw[<-PK,take_take,Nat.min_eq_left (by omega)]
theorem rl:∀(l:List Pr) (k:Nat),(af l).take (k*3)=af (l.take k)
 |[],k=>by simp[af]
 |p::l,0=>by simp[af]
 |p::l,k+1=>by
  have h1:=rl l k;have hx:∀(y:Pr) (m:List Pr),af (y::m)=[Value.int .i64 y.k,.int .i64 y.l,.int .i64 y.r]++af m:=λy m=>rfl;rw[take_succ_cons,hx,hx,<-h1,take_append];simp only[length_cons,length_nil];rw[take_of_length_le (by simp;omega),show(k+1)*3-(0+1+1+1)=k*3 by omega]
theorem DV{l:List Pr}{i:Nat}(hi:i<l.length)(p:Pr):(((af l).set (i*3) (.int .i64 (p.k:Int))).set (i*3+1) (.int .i64 (p.l:Int))).set (i*3+2) (.int .i64 (p.r:Int))=af (l.set i p):=by
 have g1:(l.set i ⟨p.k,(l.getD i ay).l,(l.getD i ay).r⟩).getD i ay=⟨p.k,(l.getD i ay).l,(l.getD i ay).r⟩:=by
  rw[getD_eq_getElem?_getD,getElem?_set_self hi];rfl
 have g2:((l.set i ⟨p.k,(l.getD i ay).l,(l.getD i ay).r⟩).set i ⟨p.k,p.l,(l.getD i ay).r⟩).getD i ay=⟨p.k,p.l,(l.getD i ay).r⟩:=by
  rw[getD_eq_getElem?_getD,getElem?_set_self (by simpa using hi)];rfl
 rw[mi hi,jl (by simpa using hi),g1,fx (by simpa using hi),g2,set_set,set_set]
def xK(L:List Pr)(x:Pr)(j:Nat):List Pr:=L.take j++x::L.drop j
theorem tY{L:List Pr}{x:Pr}{j:Nat}(hj:j<=L.length):(xK L x j).length=L.length+1:=by unfold xK;simp;omega
theorem Tu{L:List Pr}{x:Pr}{j i:Nat}(hj:j<=L.length)(hi:i<j):(xK L x j).getD i ay=L.getD i ay:=by
 unfold xK;rw[getD_eq_getElem?_getD,getElem?_append_left (by simp;omega),getElem?_take,if_pos hi,<-getD_eq_getElem?_getD]
theorem Ab{L:List Pr}{x y:Pr}{j:Nat}(hj:j<=L.length):(xK L x j).set j y=xK L y j:=by
 unfold xK;have e:(L.take j).length=j:=by simp;omega
 rw[set_append_right _ _ (by omega),e,Nat.sub_self,set_cons_zero]
theorem M4{L:List Pr}{j:Nat}(hj:j<L.length):xK L (L.getD j ay) (j+1)=xK L (L.getD j ay) j:=by
 unfold xK;rw[bX hj,take_add_one,getElem?_eq_getElem hj,drop_eq_getElem_cons hj,append_assoc];rfl
theorem NG:∀(l:List Pr) {a:List Pr},a≠[]->l.foldl l5 a≠[]
 |[],_,h=>h
 |p::r,a,h=>by
  rw[foldl_cons];refine NG r ?_;unfold l5;split
  .simp
  .exact h
theorem NH{l:List Pr}(h:l≠[]):l.foldl l5 []≠[]:=by
 cases l with
 |nil=>exact absurd rfl h
 |cons p r =>
  rw[foldl_cons];refine NG r ?_;unfold l5;simp
theorem Hz:∀(l:List Pr) {a:List Pr},(l.foldl l5 a).length<=a.length+l.length
 |[],a=>by simp
 |p::r,a=>by
  rw[foldl_cons];have h1:=Hz r (a:=l5 a p);have h2:(l5 a p).length<=a.length+1:=by unfold l5;split <;> simp
  simp only[length_cons];omega
theorem Js(p q:Pr):((p.k:Int)==(q.k:Int)&&((p.l:Int)==(q.l:Int)&&(p.r:Int)==(q.r:Int)))=DW p q:=by
 unfold DW;rw[bf,bf,bf,Bool.and_assoc]
theorem Gy{W:World}{B g cap n i:Nat}{L:List Pr}(hr:W.ownsRow B 182 3 (.slice (some ⟨g,0,none⟩) n cap) n (af L))(hn:n=L.length)(hi:i<n)(p:Pr):
  (((W.setCell ⟨g,i*3,none⟩ (.int .i64 (p.k:Int))).setCell ⟨g,i*3+1,none⟩ (.int .i64 (p.l:Int))).setCell ⟨g,i*3+2,none⟩ (.int .i64 (p.r:Int))).ownsRow B 182 3 (.slice (some ⟨g,0,none⟩) n cap) n (af (L.set i p)) /\
  ((∃u,W.cell? ⟨g,i*3,none⟩=some u)/\(∃u,W.cell? ⟨g,i*3+1,none⟩=some u)/\∃u,W.cell? ⟨g,i*3+2,none⟩=some u) /\
  W.frozen? ⟨g,i*3,none⟩=false/\W.frozen? ⟨g,i*3+1,none⟩=false/\W.frozen? ⟨g,i*3+2,none⟩=false:=by
 subst hn;have r3:=(((hr.stored (i*3) (.int .i64 (p.k:Int))).1.stored (i*3+1) (.int .i64 (p.l:Int))).1.stored (i*3+2) (.int .i64 (p.r:Int))).1;rw[DV hi]at r3;obtain⟨x0,x1,x2⟩:=aB (dY hr (zq5 _)) hi;exact⟨r3,⟨⟨_,x0⟩,⟨_,x1⟩,⟨_,x2⟩⟩,hr.frozenAt _,hr.frozenAt _,hr.frozenAt _⟩
section
variable {w:World} {v:Value} {l:List Pr}
theorem xh(h:w.ownsRow 0 182 3 v l.length (af l))(hl:l.length<=100000):Calls prog 226 #[v] w λe w'=>∃v',e=.returned v'/\w'.ownsRow w.heap.size 182 3 v' (mm l).length (af (mm l))/\Below w.heap.size w w':=by
 obtain⟨i0,lr,gX,gy,gK⟩:=info_parts infoPair;obtain⟨va,vc,hv',PO,UO⟩:=am h;subst hv';have H:=ab h;have uX:Hid ((w.alloc (.cells #[] 182)).ownsRow w.heap.size 182 3 (.slice (some ⟨w.heap.size,0,none⟩) 0 0) ((l.take 0).foldl fW []).length (af ((l.take 0).foldl fW []))/\Below w.heap.size w (w.alloc (.cells #[] 182))):=ab ⟨ownsRow_lit (base:=w.heap.size) (e:=182) (size:=3) w #[] 0 (zq4 _) (by simp[maxLen]) rfl,ah w _⟩;clear h;go_enter func226,ntmps226;go_wp2_with fail
 go_loopg [3,12] l.length (λgn rv i wx=>∃(k:Nat),k+gn=l.length/\i=.int .i64 k/\Hid (wx.ownsRow w.heap.size 182 3 rv ((l.take k).foldl fW []).length (af ((l.take k).foldl fW []))/\Below w.heap.size w wx))
 case atStart=>exact⟨0,by omega,rfl,uX⟩
 case round =>
  clear uX;obtain⟨k,gu,rfl,hI⟩:=hrel;obtain⟨G,hG⟩:∃G,G=gk:=⟨_,rfl⟩;obtain⟨ra,rc,Mu,-,-⟩:=am (uh hI).1;subst Mu;have uo:=qP (l.take k) (a:=[]) List.Pairwise.nil;have dN:=uo.2.2;rw[length_take]at dN;simp only[length_nil,Nat.zero_add]at dN;by_cases au:k<l.length
  .have hd:decide ((k:Int)<(l.length:Int))=true:=(by simp;omega);have hF:=eY (uh H) (uh hI).2;obtain⟨g,cap,dE,-,-⟩:=aE hF au;simp only[Value.slice.injEq,true_and]at dE;obtain⟨rfl,rfl⟩:=dE;obtain⟨x0,x1,x2⟩:=aB hF au;have qq:=jI (g:=fW) (a:=[]) au;obtain⟨p,hp⟩:∃p,p=l.getD k ay:=⟨_,rfl⟩;rw[<-hp]at x0 x1 x2 qq;obtain⟨L,hL⟩:∃L,L=(l.take k).foldl fW []:=⟨_,rfl⟩;rw[<-hL]at hI qq dN ⊢;have ZL:L.length=k:=(by omega);have kh:=ab ((uh hI).1.alloc (.cells #[.int .i64 (p.k:Int),.int .i64 (p.l:Int),.int .i64 (p.r:Int)] 182));have f8:=ab ((uh hI).2.alloc (uh hI).2.size (.cells #[.int .i64 (p.k:Int),.int .i64 (p.l:Int),.int .i64 (p.r:Int)] 182));have HBX:=ab (Bk.new wr 182 [.int .i64 (p.k:Int),.int .i64 (p.l:Int),.int .i64 (p.r:Int)]);have pw:=(uh hI).1.lt;have WJ:=ab pw;have LX:=ab qq;have i1:(0:Int)<=(k:Int):=(by omega);have i2:(k:Int)<(l.length:Int):=(by omega);have hLb:L.length<=100000:=(by omega);have R9:=ab ZL;have mO:=(uh hI).2.size;clear hp hF qq hL dN uo hI pw ZL;go_wp2_with (at_builtin;refine aS _ rfl (.tmp 16) (.tmp 18) 177 rfl w.heap.size 182 i0 _ 3 24 underlying177 lr gX gy gK rfl (by decide) _ L.length (af L) rfl ((uh kh).alloc _) ⟨_,0,none⟩ 1 [.int .i64 (p.k:Int),.int .i64 (p.l:Int),.int .i64 (p.r:Int)] rfl rfl (aN _ _ (by simp) [.int .i64 (p.k:Int),.int .i64 (p.l:Int),.int .i64 (p.r:Int)] _) (rj p) (by omega) (by omega) (by simp;omega) ?_)
   intro g4 cap4 w4 iJ eu jK;have nU:Below w.heap.size w w4:=by
    have hb:=(uh f8).alloc (uh f8).size (.cells #[.int .i64 (p.k:Int),.int .i64 (p.l:Int),.int .i64 (p.r:Int)] 182);exact hb.grown eu hb.size (λk hk=>((uh kh).lt k hk).1)
   obtain⟨X,hX⟩:∃X,X=wr.heap.size:=⟨_,rfl⟩;have ZY:Bk w4 X 182 [.int .i64 (p.k:Int),.int .i64 (p.l:Int),.int .i64 (p.r:Int)]:=by
    rw[hX];refine((uh HBX).alloc _).of_eq (eu.block _ (by simp;omega) (λe=>?_));have:=(uh WJ _ e.symm).2;omega
   have hgX:g4≠X:=by
    rw[hX];rintro rfl;rcases jK with e|e
    .have:=(uh WJ _ e.symm).2;omega
    .omega
   have Dt:w4.ownsRow w.heap.size 182 3 (.slice (some ⟨g4,0,none⟩) (L.length+1) cap4) (L.length+1) (af (xK L p L.length)):=by
    have e:xK L p L.length=L++[p]:=(by unfold xK;rw[take_length,drop_length]);rw[e,eZ];exact iJ
   have fG:Hid (w4.ownsRow w.heap.size 182 3 (.slice (some ⟨g4,0,none⟩) (L.length+1) cap4) (L.length+1) (af (xK L p L.length))/\Bk w4 X 182 [.int .i64 (p.k:Int),.int .i64 (p.l:Int),.int .i64 (p.r:Int)]/\Below w.heap.size w w4):=ab ⟨Dt,ZY,nU⟩;have HGX:=ab hgX;have HX:=ab hX;rw[<-hX];clear iJ eu jK nU ZY Dt hX x0 x1 x2 kh HBX hgX;go_wp2_with fail
   go_loopg [6] L.length (λgn i wx=>∃(x:Pr),gn<=L.length/\i=.int .i64 gn/\BY p L gn=BY p L L.length/\Hid (wx.ownsRow w.heap.size 182 3 (.slice (some ⟨g4,0,none⟩) (L.length+1) cap4) (L.length+1) (af (xK L x gn))/\Bk wx X 182 [.int .i64 (p.k:Int),.int .i64 (p.l:Int),.int .i64 (p.r:Int)]/\Below w.heap.size w wx))
   case atStart=>exact⟨p,zq4 _,by go_num,rfl,fG⟩
   case round =>
    clear fG;obtain⟨x,hj,rfl,hwh,hJ⟩:=hrel;obtain⟨b0,b1,b2⟩:wr.cell? ⟨X,0,none⟩=some (.int .i64 (p.k:Int))/\wr.cell? ⟨X,1,none⟩=some (.int .i64 (p.l:Int))/\wr.cell? ⟨X,2,none⟩=some (.int .i64 (p.r:Int)):=⟨(uh hJ).2.1.cell 0 rfl,(uh hJ).2.1.cell 1 rfl,(uh hJ).2.1.cell 2 rfl⟩;cases gk with
    |zero =>
     have HWH:=ab hwh;have Yb:=ab (tY (L:=L) (x:=x) hj);have d0:decide ((0:Int)<0)=false:=(by decide);clear hwh;obtain⟨w5,hw5⟩:∃w5,w5=wr:=⟨_,rfl⟩;have lN:Hid (Below wr.heap.size wr w5):=ab (by rw[hw5];exact Below.refl _ _);have et:=uh lN;have AG:=eY (uh hJ).1 et;have Mg:=(uh hJ).2.1.below et;obtain⟨r6,⟨⟨u0,y0⟩,⟨u1,y1⟩,⟨u2,y2⟩⟩,f0,f1,f2⟩:=Gy AG (uh Yb).symm (i:=0) (by omega) p;rw[Ab hj]at r6;have cW:w.heap.size<=g4:=((uh hJ).1.lt g4 rfl).1;have kS:=((((uh hJ).2.2.trans (et.mono (uh hJ).2.2.size)).setCell (p:=⟨g4,(0)*3,none⟩) cW (.int .i64 (p.k:Int))).setCell (p:=⟨g4,(0)*3+1,none⟩) cW (.int .i64 (p.l:Int))).setCell (p:=⟨g4,(0)*3+2,none⟩) cW (.int .i64 (p.r:Int));have z0:=Mg.cell 0 rfl;have z1:=Mg.cell 1 rfl;have z2:=Mg.cell 2 rfl;have HN:Hid (((((w5.setCell ⟨g4,(0)*3,none⟩ (.int .i64 (p.k:Int))).setCell ⟨g4,(0)*3+1,none⟩ (.int .i64 (p.l:Int))).setCell ⟨g4,(0)*3+2,none⟩ (.int .i64 (p.r:Int)))).ownsRow w.heap.size 182 3 (.slice (some ⟨g4,0,none⟩) (L.length+1) cap4) ((l.take (k+1)).foldl fW []).length (af ((l.take (k+1)).foldl fW []))/\Below w.heap.size w ((((w5.setCell ⟨g4,(0)*3,none⟩ (.int .i64 (p.k:Int))).setCell ⟨g4,(0)*3+1,none⟩ (.int .i64 (p.l:Int))).setCell ⟨g4,(0)*3+2,none⟩ (.int .i64 (p.r:Int))))):=ab ⟨by
      have e:(l.take (k+1)).foldl fW []=xK L p (0):=(by rw[uh LX];unfold fW xK;rw[<-uh HWH];rfl);rw[e,tY hj];exact r6,kS⟩
     have i5:(0:Int)<(L.length:Int)+1:=(by omega);clear et AG Mg r6 kS cW lN;subst hw5;go_wp2_with fail
     go_quiet (fail)
     go_wp2_with fail
     go_roundg (G-1)
     case rel=>exact⟨k+1,by omega,by go_num,ab ⟨(uh HN).1,⟨(uh HN).2.os,(uh HN).2.tape,(uh HN).2.output,(uh HN).2.size,(uh HN).2.block⟩⟩⟩
     case measure=>omega
    |succ m =>
     have hr:=(uh hJ).1;have m0:=tY (L:=L) (x:=x) hj;have uq:wr.ownsRow w.heap.size 182 3 (.slice (some ⟨g4,0,none⟩) (xK L x (m+1)).length cap4) (xK L x (m+1)).length (af (xK L x (m+1))):=(by rw[m0];exact hr);obtain⟨x0,x1,x2⟩:=aB (dY uq (zq5 _)) (i:=m) (by rw[m0];omega);rw[Tu hj (by omega)]at x0 x1 x2;have hwm:BY p L (m+1)=if Mb p (L.getD m ay)=true then BY p L m else m+1:=rfl
     have hdn:=M4 (L:=L) (j:=m) (by omega);have hpu:=Ab (L:=L) (x:=x) (y:=L.getD m ay) hj;obtain⟨q,hq⟩:∃q,q=L.getD m ay:=⟨_,rfl⟩;rw[<-hq]at x0 x1 x2 hwm hdn hpu;have EV:Hid (∀W:World,Calls prog 249 #[.agg #[.int .i64 (p.k:Int),.int .i64 (p.l:Int),.int .i64 (p.r:Int)],.agg #[.int .i64 (q.k:Int),.int .i64 (q.l:Int),.int .i64 (q.r:Int)]] W λe w'=>e=.returned (.bool (Mb p q))/\Below W.heap.size W w'):=ab (λW=>Fa p q);have d0:decide ((0:Int)<(m:Int)+1)=true:=(by simp);have i3:(0:Int)<=(m:Int):=(by omega);have i4:(m:Int)<(L.length:Int)+1:=(by omega);have hq0:IntKind.i64.wrap (m:Int)=(m:Int):=(by rw[IntKind.wrap_i64];omega);have Ey:=(uh hJ).2.1.lt;have nY:=((uh hJ).1.lt g4 rfl).2;have HWM:=ab hwm;have HDN:=ab hdn;have HPU:=ab hpu;have Yb:=ab m0;have HWH:=ab hwh;clear hr uq m0 hwm hdn hpu hq hwh;cases Z3:Mb p q with
     |true =>
      rw[Z3]at EV HWM;clear Z3;go_wp2_with fail
      go_region_held3 (λW=>W.cell? ⟨X,0,none⟩=some (.int .i64 (p.k:Int))/\W.cell? ⟨X,1,none⟩=some (.int .i64 (p.l:Int))/\W.cell? ⟨X,2,none⟩=some (.int .i64 (p.r:Int))/\W.cell? ⟨g4,m*3,none⟩=some (.int .i64 (q.k:Int))/\W.cell? ⟨g4,m*3+1,none⟩=some (.int .i64 (q.l:Int))/\W.cell? ⟨g4,m*3+2,none⟩=some (.int .i64 (q.r:Int))) (first|(simp only[cell?_drew,b0,b1,b2,x0,x1,x2,and_self];done)|(simp only[q0,q1,q2,q3,q4,q5,and_self];done))
       (first
        |(go_at_call 249;refine(uh EV _).mono ?_;rintro e w5 ⟨rfl,et⟩;have lN:Hid (Below wr.heap.size wr w5):=ab ⟨et.os,et.tape,et.output,et.size,et.block⟩;have q0:=((uh lN).cell Ey).trans b0;have q1:=((uh lN).cell Ey).trans b1;have q2:=((uh lN).cell Ey).trans b2;have q3:=((uh lN).cell nY).trans x0;have q4:=((uh lN).cell nY).trans x1;have q5:=((uh lN).cell nY).trans x2;clear et))
      have et:=uh lN;have AG:=eY (uh hJ).1 et;have Mg:=(uh hJ).2.1.below et;obtain⟨r6,⟨⟨u0,y0⟩,⟨u1,y1⟩,⟨u2,y2⟩⟩,f0,f1,f2⟩:=Gy AG (uh Yb).symm (i:=m+1) (by omega) q;rw[uh HPU,uh HDN]at r6;have cW:w.heap.size<=g4:=((uh hJ).1.lt g4 rfl).1;have kS:=((((uh hJ).2.2.trans (et.mono (uh hJ).2.2.size)).setCell (p:=⟨g4,(m+1)*3,none⟩) cW (.int .i64 (q.k:Int))).setCell (p:=⟨g4,(m+1)*3+1,none⟩) cW (.int .i64 (q.l:Int))).setCell (p:=⟨g4,(m+1)*3+2,none⟩) cW (.int .i64 (q.r:Int));have hX6:=((Mg.setO (p:=⟨g4,(m+1)*3,none⟩) (uh HGX) (.int .i64 (q.k:Int))).setO (p:=⟨g4,(m+1)*3+1,none⟩) (uh HGX) (.int .i64 (q.l:Int))).setO (p:=⟨g4,(m+1)*3+2,none⟩) (uh HGX) (.int .i64 (q.r:Int));have HN:=ab (zq2 r6 (zq2 hX6 kS));have i5:(m:Int)+1<(L.length:Int)+1:=(by omega);have i6:(0:Int)<=(m:Int)+1:=(by omega);have HW2:Hid (BY p L m=BY p L L.length):=ab (by rw[<-uh HWH,uh HWM];rfl);clear et AG Mg r6 kS hX6 cW;go_wp2_with fail
      go_roundg m
      case rel=>exact⟨q,by omega,by go_num,uh HW2,HN⟩
      case measure=>omega
     |false =>
      rw[Z3]at EV HWM;clear Z3;go_wp2_with fail
      go_region_held3 (λW=>W.cell? ⟨X,0,none⟩=some (.int .i64 (p.k:Int))/\W.cell? ⟨X,1,none⟩=some (.int .i64 (p.l:Int))/\W.cell? ⟨X,2,none⟩=some (.int .i64 (p.r:Int))/\W.cell? ⟨g4,m*3,none⟩=some (.int .i64 (q.k:Int))/\W.cell? ⟨g4,m*3+1,none⟩=some (.int .i64 (q.l:Int))/\W.cell? ⟨g4,m*3+2,none⟩=some (.int .i64 (q.r:Int))) (first|(simp only[cell?_drew,b0,b1,b2,x0,x1,x2,and_self];done)|(simp only[q0,q1,q2,q3,q4,q5,and_self];done))
       (first
        |(go_at_call 249;refine(uh EV _).mono ?_;rintro e w5 ⟨rfl,et⟩;have lN:Hid (Below wr.heap.size wr w5):=ab ⟨et.os,et.tape,et.output,et.size,et.block⟩;have q0:=((uh lN).cell Ey).trans b0;have q1:=((uh lN).cell Ey).trans b1;have q2:=((uh lN).cell Ey).trans b2;have q3:=((uh lN).cell nY).trans x0;have q4:=((uh lN).cell nY).trans x1;have q5:=((uh lN).cell nY).trans x2;clear et))
      have et:=uh lN;have AG:=eY (uh hJ).1 et;have Mg:=(uh hJ).2.1.below et;obtain⟨r6,⟨⟨u0,y0⟩,⟨u1,y1⟩,⟨u2,y2⟩⟩,f0,f1,f2⟩:=Gy AG (uh Yb).symm (i:=m+1) (by omega) p;rw[Ab hj]at r6;have cW:w.heap.size<=g4:=((uh hJ).1.lt g4 rfl).1;have kS:=((((uh hJ).2.2.trans (et.mono (uh hJ).2.2.size)).setCell (p:=⟨g4,(m+1)*3,none⟩) cW (.int .i64 (p.k:Int))).setCell (p:=⟨g4,(m+1)*3+1,none⟩) cW (.int .i64 (p.l:Int))).setCell (p:=⟨g4,(m+1)*3+2,none⟩) cW (.int .i64 (p.r:Int));have z0:=Mg.cell 0 rfl;have z1:=Mg.cell 1 rfl;have z2:=Mg.cell 2 rfl;have HN:Hid (((((w5.setCell ⟨g4,(m+1)*3,none⟩ (.int .i64 (p.k:Int))).setCell ⟨g4,(m+1)*3+1,none⟩ (.int .i64 (p.l:Int))).setCell ⟨g4,(m+1)*3+2,none⟩ (.int .i64 (p.r:Int)))).ownsRow w.heap.size 182 3 (.slice (some ⟨g4,0,none⟩) (L.length+1) cap4) ((l.take (k+1)).foldl fW []).length (af ((l.take (k+1)).foldl fW []))/\Below w.heap.size w ((((w5.setCell ⟨g4,(m+1)*3,none⟩ (.int .i64 (p.k:Int))).setCell ⟨g4,(m+1)*3+1,none⟩ (.int .i64 (p.l:Int))).setCell ⟨g4,(m+1)*3+2,none⟩ (.int .i64 (p.r:Int))))):=ab ⟨by
       have e:(l.take (k+1)).foldl fW []=xK L p (m+1):=(by rw[uh LX];unfold fW xK;rw[<-uh HWH,uh HWM];rfl);rw[e,tY hj];exact r6,kS⟩
      have i5:(m:Int)+1<(L.length:Int)+1:=(by omega);have i6:(0:Int)<=(m:Int)+1:=(by omega);clear et AG Mg r6 kS cW;go_wp2_with fail
      go_roundg (G-1)
      case rel=>exact⟨k+1,by omega,by go_num,HN⟩
      case measure=>omega
  .have hd:decide ((k:Int)<(l.length:Int))=false:=(by simp;omega);have gJ:k=l.length:=(by omega);have OW:(l.take k).foldl fW []=l.foldl fW []:=(by rw[gJ,take_length]);rw[OW]at hI dN ⊢;have hSR:mm l=(l.foldl fW []).foldl l5 []:=rfl;obtain⟨S,hS⟩:∃S,S=l.foldl fW []:=⟨_,rfl⟩;rw[<-hS]at hI dN hSR ⊢;have Sy:S.length<=100000:=(by omega);have HSR:=ab hSR;clear hS OW hSR gJ uo dN;go_wp2_with fail
   go_loopw [7,8] (λkv iv wx=>∃(i:Nat) (cur:List Pr),i<=S.length/\iv=.int .i64 i/\kv=.int .i64 (((S.take i).foldl l5 []).length:Nat)/\Hid (wx.ownsRow w.heap.size 182 3 (.slice ra S.length rc) S.length (af cur)/\cur.length=S.length/\cur.take ((S.take i).foldl l5 []).length=(S.take i).foldl l5 []/\cur.drop i=S.drop i/\Below w.heap.size w wx)) (λ_ iv _=>S.length-(intOf iv).toNat)
   case atStart=>exact⟨0,S,zq5 _,rfl,rfl,ab ⟨(uh hI).1,rfl,by simp,rfl,(uh hI).2⟩⟩
   case round =>
    clear hI;obtain⟨i,cur,hi,rfl,rfl,hJ⟩:=hrel;have ye:=Hz (S.take i) (a:=[]);rw[length_take]at ye;simp only[length_nil,Nat.zero_add]at ye;by_cases au:i<S.length
    .have kY:decide ((i:Int)<(S.length:Int))=true:=(by simp;omega);obtain⟨g,cap,dE,-,-⟩:=b8 (uh hJ).1 (by omega);simp only[Value.slice.injEq,true_and]at dE;obtain⟨rfl,rfl,-⟩:=dE;have dT:=(uh hJ).2.1;have uq:wr.ownsRow 0 182 3 (.slice (some ⟨g,0,none⟩) cur.length rc) cur.length (af cur):=(by rw[dT];exact dY (uh hJ).1 (zq5 _));obtain⟨x0,x1,x2⟩:=aB uq (i:=i) (by omega);have hci:cur.getD i ay=S.getD i ay:=by
      have h1:=congrArg (λm=>m.getD 0 ay) (uh hJ).2.2.2.1;simpa[getD_eq_getElem?_getD,getElem?_drop] using h1
     have hds:=jI (g:=l5) (a:=[]) au;obtain⟨K,hK⟩:∃K,K=(S.take i).foldl l5 []:=⟨_,rfl⟩;obtain⟨p,hp⟩:∃p,p=S.getD i ay:=⟨_,rfl⟩;rw[hci,<-hp]at x0 x1 x2;rw[<-hK]at hJ ye hds ⊢;rw[<-hp]at hds;have hKi:K.length<=i:=(by omega);obtain⟨r6,⟨⟨u0,y0⟩,⟨u1,y1⟩,⟨u2,y2⟩⟩,f0,f1,f2⟩:=Gy (uh hJ).1 dT.symm (i:=K.length) (by omega) p;have cW:w.heap.size<=g:=((uh hJ).1.lt g rfl).1;have kS:=(((uh hJ).2.2.2.2.setCell (p:=⟨g,K.length*3,none⟩) cW (.int .i64 (p.k:Int))).setCell (p:=⟨g,K.length*3+1,none⟩) cW (.int .i64 (p.l:Int))).setCell (p:=⟨g,K.length*3+2,none⟩) cW (.int .i64 (p.r:Int));have sl:∀K':List Pr,K'=K++[p]->(cur.set K.length p).length=S.length/\(cur.set K.length p).take K'.length=K'/\(cur.set K.length p).drop (i+1)=S.drop (i+1):=by
      rintro K' rfl;refine⟨by simpa using dT,?_,?_⟩
      .have h1:=(uh hJ).2.2.1;rw[length_append,length_singleton,take_add_one,getElem?_set_self (by omega),take_set_of_le (zq4 _),h1];rfl
      .rw[drop_set_of_lt (by omega)];have h1:=congrArg (λm=>m.drop 1) (uh hJ).2.2.2.1;simpa[drop_drop,Nat.add_comm] using h1
     have Ti:=ab r6;have xY:=ab kS;have HPT:=ab sl;have hU:l5 K p=K->cur.take (l5 K p).length=l5 K p/\cur.drop (i+1)=S.drop (i+1):=λe=>by
      rw[e];refine⟨(uh hJ).2.2.1,?_⟩;have h1:=congrArg (λm=>m.drop 1) (uh hJ).2.2.2.1;simpa[drop_drop,Nat.add_comm] using h1
     have HKP:=ab hU;have HDS:=ab hds;have i1:(0:Int)<=(i:Int):=(by omega);have i2:(i:Int)<(S.length:Int):=(by omega);have i3:(K.length:Int)<(S.length:Int):=(by omega);by_cases lr:i=0
     .have hKe:K=[]:=(by rw[hK,lr];rfl);have Ej:Hid (l5 K p=K++[p]):=ab (by unfold l5;rw[if_pos (zq0 hKe)]);have d0:((i:Int)==0)=true:=(by simp[lr]);obtain⟨kl,gJ⟩:∃kl,kl=K.length:=⟨_,rfl⟩;rw[<-gJ]at Ti xY HPT y0 y1 y2 f0 f1 f2 i3 ye ⊢;have HKL:=ab gJ;clear hp hK hds r6 kS sl hU uq hci hKi cW dT hKe lr gJ;go_wp2_with fail
      go_quiet (fail)
      go_wp2_with fail
      go_roundw
      case rel=>exact⟨i+1,_,by omega,by go_num,by rw[uh HDS,uh Ej,length_append,length_singleton,<-uh HKL];go_num,ab (by
       rw[uh HDS,uh Ej];obtain⟨h1,h2,h3⟩:=uh HPT _ rfl;exact⟨uh Ti,h1,h2,h3,⟨(uh xY).os,(uh xY).tape,(uh xY).output,(uh xY).size,(uh xY).block⟩⟩)⟩
      case measure=>simp[intOf];omega
     .have hKn:K≠[]:=by
       rw[hK];refine NH (λe=>?_);have:=congrArg List.length e;rw[length_take,length_nil]at this;omega
      obtain⟨n,hn⟩:∃n,K.length=n+1:=⟨K.length-1,by have:=length_pos_iff.2 hKn;omega⟩;have kD:cur.getD n ay=K.getD n ay:=by
       have h1:=congrArg (λm=>m.getD n ay) (uh hJ).2.2.1;simp only[getD_eq_getElem?_getD,getElem?_take]at h1 ⊢;rw[if_pos (by omega)]at h1;exact h1
      obtain⟨z0,z1,z2⟩:=aB uq (i:=n) (by omega);obtain⟨q,hq⟩:∃q,q=K.getD n ay:=⟨_,rfl⟩;rw[kD,<-hq]at z0 z1 z2;have Cn:l5 K p=if DW p q=false then K++[p] else K:=by
       unfold l5;rw[hn,Nat.add_sub_cancel,<-hq];by_cases e:DW p q=false
       .rw[if_pos (zq1 e),if_pos e]
       .rw[if_neg (by rw[not_or];exact⟨hKn,e⟩),if_neg e]
      have Ej:=ab Cn;have d0:((i:Int)==0)=false:=(by simp;omega);have hq0:IntKind.i64.wrap (n:Int)=(n:Int):=(by rw[IntKind.wrap_i64];omega);have i4:(n:Int)<(S.length:Int):=(by omega);have i5:(0:Int)<=(n:Int):=(by omega);have HKL:=ab hn;rw[hn]at Ti xY HPT y0 y1 y2 f0 f1 f2 i3 ye ⊢;rw[show((n+1:Nat):Int)=(n:Int)+1 by omega]at i3;clear hp hK hds r6 kS sl hU uq hci hKi cW dT lr hKn kD hq Cn hn;have hgd:=OD;have AF:∀W:World,(binOp .neq 182 (.agg #[.int .i64 (p.k:Int),.int .i64 (p.l:Int),.int .i64 (p.r:Int)]) (.agg #[.int .i64 (q.k:Int),.int .i64 (q.l:Int),.int .i64 (q.r:Int)])).run prog W=.ok (.bool (!DW p q)) W:=λW=>by rw[ahe,Js]
      cases UL:DW p q
      .rw[UL]at Ej AF;rw[show(!false)=true from rfl]at AF;have Yh:Hid (l5 K p=K++[p]):=ab (uh Ej);clear Ej UL;go_wp2_with fail
       go_quiet (fail)
       go_wp2_with fail
       go_roundw
       case rel=>exact⟨i+1,_,by omega,by go_num,by rw[uh HDS,uh Yh,length_append,length_singleton,uh HKL];go_num,ab (by
        rw[uh HDS,uh Yh];obtain⟨h1,h2,h3⟩:=uh HPT _ rfl;exact⟨uh Ti,h1,h2,h3,⟨(uh xY).os,(uh xY).tape,(uh xY).output,(uh xY).size,(uh xY).block⟩⟩)⟩
       case measure=>simp[intOf];omega
      .rw[UL]at Ej AF;rw[show(!true)=false from rfl]at AF;have Yh:Hid (l5 K p=K):=ab (uh Ej);clear Ej UL;go_wp2_with fail
       go_quiet (fail)
       go_wp2_with fail
       go_roundw
       case rel=>exact⟨i+1,cur,by omega,by go_num,by rw[uh HDS,uh Yh,uh HKL],ab (by
        obtain⟨h2,h3⟩:=uh HKP (uh Yh);rw[uh HDS];exact⟨(uh hJ).1,(uh hJ).2.1,h2,h3,⟨(uh hJ).2.2.2.2.os,(uh hJ).2.2.2.2.tape,(uh hJ).2.2.2.2.output,(uh hJ).2.2.2.2.size,(uh hJ).2.2.2.2.block⟩⟩)⟩
       case measure=>simp[intOf];omega
    .have kY:decide ((i:Int)<(S.length:Int))=false:=(by simp;omega);have KU:(S.take i).foldl l5 []=mm l:=(by rw[take_of_length_le (by omega)];exact(uh HSR).symm);rw[KU]at hJ ye ⊢;have hKS:(mm l).length<=S.length:=(by omega);have HRT:Hid (wr.ownsRow w.heap.size 182 3 (.slice ra (mm l).length rc) (mm l).length (af (mm l))):=ab (by
      have h1:=DO (uh hJ).1 hKS;rw[rl,(uh hJ).2.2.1]at h1;exact h1)
     have HBT:=ab (uh hJ).2.2.2.2;obtain⟨n,hn⟩:∃n,n=(mm l).length:=⟨_,rfl⟩;rw[<-hn]at HRT hKS ⊢;have hrc:S.length<=rc:=by
      obtain⟨a1,c1,h1,h2,h3⟩:=am (uh hJ).1;simp only[Value.slice.injEq,true_and]at h1;omega
     have q1:(0:Int)<=(n:Int):=(by omega);have q2:(n:Int)<=(rc:Int):=(by omega);have uW:=ab hn;clear KU hJ ye hn HSR;go_wp2_with fail
     go_ret;exact⟨_,rfl,by rw[<-uh uW];exact uh HRT,uh HBT⟩
end
theorem Lm{g:Pr->Pr}{l:List Pr}{k:Nat}(hk:k<l.length)(h:g (l.getD k ay)=l.getD k ay):bI g l (k+1)=bI g l k:=by
 rw[lz hk,h];have h1:=lx (g:=g) hk;rw[<-h1];exact zJ (by rw[jS];exact hk)
section
variable {w:World} {A:Nat} {f:CF} {av ov:Value}
theorem Lu(h:Fm w A f av ov)(ha:f.ap.length<=100000)(ho:f.ow.length<=100000):Calls prog 199 #[.pointer (some ⟨A,0,none⟩)] w λe w'=>e=.returned (.tuple #[])/\∃av' ov',Fm w' A (orF f) av' ov'/\ar (aG A av ov) w (aG A av' ov') w':=by
 have c6:=h.is.c6;have HSO:=ab (xh h.is.ow ho);have H:=ab h;obtain⟨oa,oc,gw,-,-⟩:=am h.is.ow;subst gw;obtain⟨aa,ac,ko,-,-⟩:=am h.is.ap;subst ko;clear h;go_enter func199,ntmps199;go_wp2_with fail
 refine(uh HSO).mono ?_;rintro e w1 ⟨v1,rfl,ur,bz⟩;obtain⟨a1,k1,rfl⟩:=bC ur;have dy:ar (Value.slice oa f.ow.length oc).ownBlock.toList w (Value.slice a1 (mm f.ow).length k1).ownBlock.toList w1:=(ar.ofBw (F:=(Value.slice oa f.ow.length oc).ownBlock.toList) bz).foots (λj hj=>zq1 (ur.lt j (by simpa using hj)).1);obtain⟨gf,oW⟩:=(uh H).newOv (ow':=mm f.ow) dy (v':=.slice a1 (mm f.ow).length k1) (λj hj=>by simpa using hj) (dY ur (zq5 _));have FA:=(uh H).below bz;have d6:=FA.is.c6;have f6:=ownsRow.frozenAt FA.is.ob 6;obtain⟨w2,tj⟩:∃w2,w2=w1.setCell ⟨A,6,none⟩ (.slice a1 (mm f.ow).length k1):=⟨_,rfl⟩;rw[<-tj]at gf oW;have cF:Hid (Fm w2 A { f with ow:=mm f.ow,ap:=bI jd f.ap 0 } (.slice aa f.ap.length ac) (.slice a1 (mm f.ow).length k1)/\ar (aG A (.slice aa f.ap.length ac) (.slice oa f.ow.length oc)) w (aG A (.slice aa f.ap.length ac) (.slice a1 (mm f.ow).length k1)) w2):=ab ⟨by simpa[bI] using gf,oW⟩;clear ur bz dy gf oW FA HSO c6;obtain⟨n1,kq⟩:∃n1,n1=(mm f.ow).length:=⟨_,rfl⟩;rw[<-kq]at tj cF ⊢;have LY:=ab kq;clear kq;go_upto_region 1 with fail;rw[<-tj];clear tj d6 f6;go_wp2_with fail
 go_loopw [2] (λi wx=>∃(k:Nat),k<=f.ap.length/\i=.int .i64 k/\Hid (Fm wx A { f with ow:=mm f.ow,ap:=bI jd f.ap k } (.slice aa f.ap.length ac) (.slice a1 n1 k1)/\ar (aG A (.slice aa f.ap.length ac) (.slice oa f.ow.length oc)) w (aG A (.slice aa f.ap.length ac) (.slice a1 n1 k1)) wx)) (λi _=>f.ap.length-(intOf i).toNat)
 case atStart=>exact⟨0,zq5 _,rfl,cF⟩
 case round =>
  clear cF;obtain⟨k,hk,rfl,hI⟩:=hrel;have fI:=jS jd f.ap k;have c5:=(uh hI).1.is.c5;by_cases au:k<f.ap.length
  .have hd:decide ((k:Int)<(f.ap.length:Int))=true:=(by simp;omega);have bp:wr.ownsRow 0 182 3 (.slice aa f.ap.length ac) f.ap.length (af (bI jd f.ap k)):=by
    have:=(uh hI).1.is.ap;rwa [show({ f with ow:=mm f.ow,ap:=bI jd f.ap k }:CF).ap.length=f.ap.length from fI]at this
   obtain⟨g,cap,dE,-,-,-⟩:=b8 bp (by omega);simp only[Value.slice.injEq,true_and]at dE;obtain⟨rfl,rfl⟩:=dE;have vY:wr.ownsRow 0 182 3 (.slice (some ⟨g,0,none⟩) (bI jd f.ap k).length ac) (bI jd f.ap k).length (af (bI jd f.ap k)):=(by rw[fI];exact bp);obtain⟨x0,x1,x2⟩:=aB vY (i:=k) (by omega);have hmg:=lx (g:=jd) au;rw[hmg]at x0 x1 x2;have hms:=lz (g:=jd) au;have hse:=Lm (g:=jd) au;obtain⟨p,hp⟩:∃p,p=f.ap.getD k ay:=⟨_,rfl⟩;rw[<-hp]at x0 x1 x2 hms hse hmg;have hgA:g≠A:=λe=>(uh hI).1.nds.1 (by rw[e];rfl);obtain⟨W1,d7⟩:∃W1,W1=wr.alloc (.cells #[Value.int .i64 p.k,.int .i64 p.l,.int .i64 p.r] 182):=⟨_,rfl⟩;have ce:Below wr.heap.size wr W1:=(by rw[d7];exact ah wr _);have hX:Bk W1 wr.heap.size 182 [Value.int .i64 p.k,.int .i64 p.l,.int .i64 p.r]:=(by rw[d7];exact Bk.new wr _ _);have gf:=(uh hI).1.below ce;have bT:=(uh hI).2.trans (ar.ofBw ce);have ur:=eY bp ce;obtain⟨X,gV⟩:∃X,X=wr.heap.size:=⟨_,rfl⟩;have hgX:g≠X:=(by have:=(bp.lt g rfl).2;omega);rw[<-gV]at hX;have b1:=hX.cell 1 rfl;have b2:=hX.cell 2 rfl;have e5:=gf.is.c5;have i1:(0:Int)<=(k:Int):=(by omega);have i2:(k:Int)<(f.ap.length:Int):=(by omega);by_cases hsw:p.r<p.l
   .have d1:decide ((p.r:Int)<(p.l:Int))=true:=(by simp;omega);have s1:=(ur.stored (k*3+1) (.int .i64 (p.r:Int))).1;rw[jl (by omega),hmg]at s1;have s2:=(s1.stored (k*3+2) (.int .i64 (p.l:Int))).1;rw[fx (by simp;omega)]at s2;have afJ:((bI jd f.ap k).set k ⟨p.k,p.r,p.r⟩).set k ⟨(((bI jd f.ap k).set k ⟨p.k,p.r,p.r⟩).getD k ay).k,(((bI jd f.ap k).set k ⟨p.k,p.r,p.r⟩).getD k ay).l,p.l⟩=bI jd f.ap (k+1):=by
     rw[hms,set_set];have:((bI jd f.ap k).set k ⟨p.k,p.r,p.r⟩).getD k ay=⟨p.k,p.r,p.r⟩:=by
      rw[getD_eq_getElem?_getD,getElem?_set_self (by omega)];rfl
     rw[this];unfold jd;rw[if_pos hsw]
    rw[afJ]at s2;have gS:ar (Value.slice (some ⟨g,0,none⟩) f.ap.length ac).ownBlock.toList W1 (Value.slice (some ⟨g,0,none⟩) f.ap.length ac).ownBlock.toList ((W1.setCell ⟨g,k*3+1,none⟩ (.int .i64 (p.r:Int))).setCell ⟨g,k*3+2,none⟩ (.int .i64 (p.l:Int))):=((ar.refl _ _).setCell (p:=⟨g,k*3+1,none⟩) (zq0 (by simp[Value.ownBlock])) _).setCell (p:=⟨g,k*3+2,none⟩) (zq0 (by simp[Value.ownBlock])) _;obtain⟨pp,yt⟩:=gf.newRowA (ap':=bI jd f.ap (k+1)) (by rw[jS,show({ f with ow:=mm f.ow,ap:=bI jd f.ap k }:CF).ap.length=f.ap.length from fI]) (by rw[show({ f with ow:=mm f.ow,ap:=bI jd f.ap k }:CF).ap.length=f.ap.length from fI];exact s2) gS;obtain⟨q0,q1,q2⟩:=aB (dY (fI ▸ ur:W1.ownsRow 0 182 3 (.slice (some ⟨g,0,none⟩) (bI jd f.ap k).length ac) (bI jd f.ap k).length (af (bI jd f.ap k))) (zq5 _)) (i:=k) (by omega);have f1:=ur.frozenAt (k*3+1);have f2:=s1.frozenAt (k*3+2);have y2:(W1.setCell ⟨g,k*3+1,none⟩ (.int .i64 (p.r:Int))).cell? ⟨g,k*3+2,none⟩=some (.int .i64 (p.r:Int)):=by
     rw[cell?_setCell_other _ _ _ _ (by simp),q2,hmg]
    have y5:(W1.setCell ⟨g,k*3+1,none⟩ (.int .i64 (p.r:Int))).cell? ⟨A,5,none⟩=some (.slice (some ⟨g,0,none⟩) f.ap.length ac):=by
     rw[cell?_setCell_other _ _ _ _ (by simp only[ne_eq,Addr.mk.injEq,not_and];intro e;exact absurd e hgA)];exact e5
    have yb:(W1.setCell ⟨g,k*3+1,none⟩ (.int .i64 (p.r:Int))).cell? ⟨X,1,none⟩=some (.int .i64 (p.l:Int)):=by
     rw[cell?_setCell_other _ _ _ _ (by simp only[ne_eq,Addr.mk.injEq,not_and];intro e;exact absurd e hgX)];exact b1
    have HN:Hid (Fm ((W1.setCell ⟨g,k*3+1,none⟩ (.int .i64 (p.r:Int))).setCell ⟨g,k*3+2,none⟩ (.int .i64 (p.l:Int))) A { f with ow:=mm f.ow,ap:=bI jd f.ap (k+1) } (.slice (some ⟨g,0,none⟩) f.ap.length ac) (.slice a1 n1 k1)/\ar (aG A (.slice (some ⟨g,0,none⟩) f.ap.length ac) (.slice oa f.ow.length oc)) w (aG A (.slice (some ⟨g,0,none⟩) f.ap.length ac) (.slice a1 n1 k1)) ((W1.setCell ⟨g,k*3+1,none⟩ (.int .i64 (p.r:Int))).setCell ⟨g,k*3+2,none⟩ (.int .i64 (p.l:Int)))):=ab ⟨pp,bT.trans yt⟩;rw[hmg]at q0 q1 q2;clear s1 s2 afJ gS pp yt bp vY hmg hms hse hp ce hX gf bT ur fI hI hgA hgX;go_upto_region 5 with fail;rw[<-d7,<-gV];clear d7 gV;go_wp2_with fail
    go_region
    go_wp2_with fail
    go_region
    go_wp2_with fail
    go_roundw
    case rel=>exact⟨k+1,by omega,by go_num,ab ⟨(uh HN).1.of_eq (λ_ _=>rfl),(uh HN).2.drew.drew⟩⟩
    case measure=>simp[intOf];omega
   .have d1:decide ((p.r:Int)<(p.l:Int))=false:=(by simp;omega);have HN:Hid (Fm W1 A { f with ow:=mm f.ow,ap:=bI jd f.ap (k+1) } (.slice (some ⟨g,0,none⟩) f.ap.length ac) (.slice a1 n1 k1)/\ar (aG A (.slice (some ⟨g,0,none⟩) f.ap.length ac) (.slice oa f.ow.length oc)) w (aG A (.slice (some ⟨g,0,none⟩) f.ap.length ac) (.slice a1 n1 k1)) W1):=ab ⟨by rw[hse (by unfold jd;rw[if_neg hsw])];exact gf,bT⟩;clear bp vY hmg hms hse hp ce hX gf bT ur fI hI hgA hgX;go_upto_region 5 with fail;rw[<-d7,<-gV];clear d7 gV;go_wp2_with fail
    go_roundw
    case rel=>exact⟨k+1,by omega,by go_num,HN⟩
    case measure=>simp[intOf];omega
  .have hd:decide ((k:Int)<(f.ap.length:Int))=false:=(by simp;omega);have kE:bI jd f.ap k=f.ap.map jd:=wt (by omega);rw[kE]at hI;have bp:wr.ownsRow 0 182 3 (.slice aa f.ap.length ac) (f.ap.map jd).length (af (f.ap.map jd)):=(uh hI).1.is.ap;have yF:=ab (xh bp (by simpa using ha));clear kE bp fI;go_wp2_with fail
   refine(uh yF).mono ?_;rintro e w5 ⟨v5,rfl,AG,et⟩;obtain⟨a5,k5,rfl⟩:=bC AG;have qN:ar (Value.slice aa f.ap.length ac).ownBlock.toList wr (Value.slice a5 (mm (f.ap.map jd)).length k5).ownBlock.toList w5:=(ar.ofBw (F:=(Value.slice aa f.ap.length ac).ownBlock.toList) et).foots (λj hj=>zq1 (AG.lt j (by simpa using hj)).1);obtain⟨C2,AI⟩:=(uh hI).1.newAv (ap':=mm (f.ap.map jd)) qN (v':=.slice a5 (mm (f.ap.map jd)).length k5) (λj hj=>by simpa using hj) (dY AG (zq5 _));have FA:=(uh hI).1.below et;have d5:=FA.is.c5;have f5:=ownsRow.frozenAt FA.is.ob 5;have HN:=ab (zq2 C2 ((uh hI).2.trans AI));clear AG et qN C2 AI FA yF c5;go_wp2_with fail
   go_end0
   exact⟨rfl,_,_,(uh HN).1,(uh HN).2⟩
theorem lJ(h:Fm w A f av ov)(hO:aj f)(ha:f.ap.length<=100000):Calls prog 171 #[.pointer (some ⟨A,0,none⟩)] w λe w'=>e=.returned (.tuple #[])/\∃av' ov',Fm w' A (aQ f) av' ov'/\ar (aG A av ov) w (aG A av' ov') w':=by
 have iH:=hO.owLen;have LV:=ab (Fw h ⟨hO.cl,hO.ow,hO.ap⟩ ha (by omega));have HO:=ab hO;clear h hO;go_enter func171,ntmps171;go_wp2_with fail
 refine(uh LV).mono ?_;rintro e w1 ⟨rfl,av1,h1,s1⟩;have EE:(cJ f).ap.length<=100000:=zq3 (length_filter_le _ _) ha;have HRN:=ab (BO h1 (uh HO).fg (λp hp=>iz hp) EE);have cH:=ab s1;clear h1 s1 LV;go_wp2_with fail
 refine(uh HRN).mono ?_;rintro e w2 ⟨rfl,h2,s2⟩;have MN:=ab (Lu h2 (by simpa[wU] using EE) (by
  show((cJ f).ow.map _).length<=100000;rw[length_map];exact zq3 iH (by omega)))
 have dg:=ab ((uh cH).trans s2);clear h2 s2 HRN;go_wp2_with fail
 refine(uh MN).mono ?_;rintro e w3 ⟨rfl,av3,ov3,h3,s3⟩;have HN:=ab (zq2 h3 ((uh dg).trans s3));clear h3 s3 MN;go_wp2_with fail
 go_end0
 exact⟨rfl,_,_,(uh HN).1,(uh HN).2⟩
end
theorem fK.me{bl:List Bool}{s:List Nat}(h:fK bl s){c:Nat}(hc:c<24):fK (bl.set c true) (iS s c):=(h.add hc).congr (λd=>by
 unfold iS;split
 .rename_i hm;rw[mem_cons];exact⟨λh=>by rcases h with rfl|h;exact hm;exact h,zq1⟩
 .rw[mem_cons,mem_append,mem_singleton];exact⟨λh=>h.elim zq1 zq0,λh=>h.elim zq1 zq0⟩)
theorem fK.eq{bl:List Bool}{s:List Nat}(h:fK bl s):bl=(range 24).map (λc=>decide (c∈s)):=by
 refine ext_getElem (by rw[h.1];simp) (λj h1 h2=>?_);have hj:j<24:=by have:=h.1;omega
 have:=h.2 j hj;rw[getD_eq_getElem?_getD,getElem?_eq_getElem h1]at this;simp only[Option.getD_some]at this;rw[getElem_map,getElem_range];cases hb:bl[j] with
 |true=>rw[hb]at this;simp[this.1 rfl]
 |false=>rw[hb]at this;simp;intro hm;exact absurd (this.2 hm) (by simp)
theorem BH(l:List Pr):∀{s:List Nat},s.length<=(l.foldl mM s).length:=by
 induction l with
 |nil=>intro s;exact zq4 _
 |cons p r ih=>intro s;exact zq3 (BJ s p) ih
theorem BI:∀(l:List Pr) (s:List Nat),∃t,l.foldl mM s=s++t
 |[],s=>⟨[],by simp⟩
 |p::r,s=>by
  obtain⟨t,ht⟩:=BI r (mM s p);rw[foldl_cons,ht];unfold mM;split
  .exact⟨[p.r]++t,by rw[append_assoc]⟩
  .exact⟨t,rfl⟩
theorem RZ:(dl (replicate 24 false)).toArray=(replicate 24 (Value.bool false)).toArray:=rfl
theorem infoB24:(prog.info? 240).map (·.size)=some 24:=by kernel_rfl
section
variable {w:World} {A:Nat} {f:CF} {av ov:Value}
theorem nH(h:eP w A f av ov)(hO:aj f):Calls prog 227 #[.pointer (some ⟨A,0,none⟩)] w λe w'=>e=.returned (.agg (dl (EP f)).toArray)/\Below w.heap.size w w':=by
 obtain⟨oa,oc,gw,-,-⟩:=am h.ow;subst gw;have iH:=hO.owLen;obtain⟨w0,mA⟩:∃w0,w0=(w.alloc (.cells (replicate 24 (Value.bool false)).toArray 240)).alloc (.cells (replicate 24 (Value.bool false)).toArray 240):=⟨_,rfl⟩;have tH:Below w.heap.size w w0:=by rw[mA];exact(ah w _).alloc (ah w _).size _
 have Su:Ob w0 240 24 w.heap.size (dl (replicate 24 false)):=by rw[mA,<-RZ];exact(Ar w).alloc _
 have Uh:Ob w0 240 24 (w.heap.size+1) (dl (replicate 24 false)):=by
  rw[mA,<-RZ];have:=Ar (w.alloc (.cells (dl (replicate 24 false)).toArray 240));simpa using this
 obtain⟨R,hR⟩:∃R,R=w.heap.size:=⟨_,rfl⟩;obtain⟨D,hD⟩:∃D,D=R+1:=⟨_,rfl⟩;rw[<-hR,<-hD]at Uh;rw[<-hR]at Su;have H:=ab h;have HO:=ab hO;have HR:=ab hR;have HD:=ab hD;have cF:Hid (Ob w0 240 24 D (dl (replicate 24 false))/\fK (replicate 24 false) (([f.cl.getD 1 0,f.cl.getD 2 0,f.cl.getD 3 0,f.cl.getD 4 0].take 0).foldl iS [])/\Ob w0 240 24 R (dl (replicate 24 false))/\Below w.heap.size w w0):=ab ⟨Uh,CS,Su,tH⟩;clear h hO tH Su Uh;simp only[replicate]at mA;go_enter func227,ntmps227;go_upto_region 2 with fail;rw[<-mA,<-hR,<-hD];clear mA hR hD;go_wp2_with fail
 go_loopw [4] (λi wx=>∃(k:Nat) (bl:List Bool),k<=4/\i=.int .i64 ((k:Int)+1)/\Hid (Ob wx 240 24 D (dl bl)/\fK bl (([f.cl.getD 1 0,f.cl.getD 2 0,f.cl.getD 3 0,f.cl.getD 4 0].take k).foldl iS [])/\Ob wx 240 24 R (dl (replicate 24 false))/\Below w.heap.size w wx)) (λi _=>5-(intOf i).toNat)
 case atStart=>exact⟨0,_,zq5 _,rfl,cF⟩
 case round =>
  clear cF;obtain⟨k,bl,hk,rfl,hI⟩:=hrel;have hDR:D≠R:=by have:=uh HD;omega
  by_cases au:k<4
  .have hd:decide ((k:Int)+1<(5:Int))=true:=(by simp;omega);have hF:=(uh H).below (uh hI).2.2.2;have x:=hF.cls (i:=k+1) (by omega);unfold gZ at x;have aP:([f.cl.getD 1 0,f.cl.getD 2 0,f.cl.getD 3 0,f.cl.getD 4 0].take (k+1)).foldl iS []=iS (([f.cl.getD 1 0,f.cl.getD 2 0,f.cl.getD 3 0,f.cl.getD 4 0].take k).foldl iS []) (f.cl.getD (k+1) 0):=by
    have:k=0\/k=1\/k=2\/k=3:=(by omega);rcases this with rfl|rfl|rfl|rfl <;> rfl
   have hc:=(uh HO).get (k+1);obtain⟨c,hce⟩:∃c,c=f.cl.getD (k+1) 0:=⟨_,rfl⟩;rw[<-hce]at x aP hc;obtain⟨⟨u,hu⟩,hz⟩:=(uh hI).1.some (j:=c) hc;have o1:=(uh hI).1.stored c (.bool true);rw[lW]at o1;have cW:w.heap.size<=D:=(by have:=uh HD;have:=uh HR;omega);have HN:Hid (Ob (wr.setCell ⟨D,c,none⟩ (.bool true)) 240 24 D (dl (bl.set c true))/\fK (bl.set c true) (([f.cl.getD 1 0,f.cl.getD 2 0,f.cl.getD 3 0,f.cl.getD 4 0].take (k+1)).foldl iS [])/\Ob (wr.setCell ⟨D,c,none⟩ (.bool true)) 240 24 R (dl (replicate 24 false))/\Below w.heap.size w (wr.setCell ⟨D,c,none⟩ (.bool true))):=ab ⟨o1,by rw[aP];exact(uh hI).2.1.me hc,(uh hI).2.2.1.of_eq (heap_setCell _ _ _ _ (λe=>hDR e.symm)),(uh hI).2.2.2.setCell (p:=⟨D,c,none⟩) cW _⟩;have i1:(0:Int)<=(k:Int)+1:=(by omega);have i2:(k:Int)+1<(5:Int):=(by omega);have i3:(c:Int)<(24:Int):=(by omega);have i4:((k:Int)+1).toNat=k+1:=(by omega);clear hF aP hce o1 hI cW;go_wp2_with fail
   go_roundw
   case rel=>exact⟨k+1,_,by omega,by go_num,HN⟩
   case measure=>simp[intOf];omega
  .have hd:decide ((k:Int)+1<(5:Int))=false:=(by simp;omega);have xR:k=4:=(by omega);subst xR;have tN:([f.cl.getD 1 0,f.cl.getD 2 0,f.cl.getD 3 0,f.cl.getD 4 0].take 4).foldl iS []=QT f:=rfl;rw[tN]at hI;have fG:Hid (Ob wr 240 24 D (dl bl)/\fK bl (QT f)/\ep (QT f)/\Ob wr 240 24 R (dl (replicate 24 false))/\Below w.heap.size w wr/\LI f 25 (QT f)=jx f):=ab ⟨(uh hI).1,(uh hI).2.1,abw (uh HO).cl,(uh hI).2.2.1,(uh hI).2.2.2,rfl⟩;clear tN hI;rw[show((4:Nat):Int)+1=(5:Int) from rfl];have cW:w.heap.size<=D:=(by have:=uh HD;have:=uh HR;omega);go_wp2_with fail
   go_loopg [5] (26-(QT f).length) (λgn gv wx=>∃(s:List Nat) (bl:List Bool) (n:Nat) (gr:Bool),gv=.bool gr/\gn=(if gr=true then 26-s.length else 0)/\s.length<=24/\Hid (Ob wx 240 24 D (dl bl)/\fK bl s/\ep s/\Ob wx 240 24 R (dl (replicate 24 false))/\Below w.heap.size w wx/\(gr=true->LI f n s=jx f/\24<n+s.length)/\(gr=false->s=jx f)))
   case atStart=>exact⟨QT f,bl,25,true,rfl,rfl,(uh fG).2.2.1.len,ab ⟨(uh fG).1,(uh fG).2.1,(uh fG).2.2.1,(uh fG).2.2.2.1,(uh fG).2.2.2.2.1,λ_=>⟨rfl,by omega⟩,λh=>by cases h⟩⟩
   case round =>
    clear fG;obtain⟨s,bl,n,gr,rfl,hgn,yr,hI⟩:=hrel;obtain⟨G,hG⟩:∃G,G=gk:=⟨_,rfl⟩;cases gr with
    |false =>
     have agK:=(uh hI).2.2.2.2.2.2 rfl;have cK:dl bl=dl (EP f):=(by rw[(uh hI).2.1.eq,agK];rfl);obtain⟨M,hM⟩:∃M,M=dl (EP f):=⟨_,rfl⟩;have fI:M.length=24:=(by rw[hM];simp[dl,EP]);have OF:Ob wr 240 24 D M:=(by rw[hM,<-cK];exact(uh hI).1);have sZ:=(uh hI).2.2.2.1;have hRg:wr.rangeAt D 0 M:=by
      intro j v hj;have fT:=(List.getElem?_eq_some_iff.1 hj).1;rw[Nat.zero_add,ownsRow.cellAt OF j (by omega)];exact hj
     have Cl:wr.there R 0 M.toArray.size:=by
      intro j hj;rw[size_toArray,fI]at hj;obtain⟨⟨u,hu⟩,hz⟩:=sZ.some (j:=j) hj;rw[Nat.zero_add];exact⟨by rw[hu];rfl,hz⟩
     have dV:(prog.info? 240).map (·.size)=some M.length:=(by rw[fI];exact infoB24);have cd:(prog.info? 240).map (·.size)=some M.toArray.size:=(by rw[size_toArray,fI];exact infoB24);have C4:M.toArray.all (·.oneCell')=true:=all_oneCell_toArray (by
      intro v hv;rw[hM]at hv;obtain⟨o,_,rfl⟩:=mem_map.1 hv;rfl)
     have vL:=Ob.setCells M 0 sZ;have aaB:=nJ M [] (dl (replicate 24 false)) [] (by rw[fI];rfl);simp only[nil_append,append_nil,length_nil]at aaB;rw[aaB]at vL;have ZR:w.heap.size<=R:=(by have:=uh HR;omega);have OE:∀(vs:List Value) (o:Nat) (x:World),Below w.heap.size w x->Below w.heap.size w (x.setCells R o vs):=by
      intro vs;induction vs with
      |nil=>intro o x h;exact h
      |cons v r ih=>intro o x h;exact ih (o+1) _ (h.setCell ZR v)
     have lN:=ab (OE M 0 wr (uh hI).2.2.2.2.1);have HM:=ab hM;have HML:=ab fI;have HRg:=ab hRg;have CB:=ab Cl;have fG:=ab dV;have eo:=ab cd;have Si:=ab C4;have J6:=ab vL;clear hRg Cl dV cd C4 vL aaB OE hM fI OF sZ cK agK hI hgn;go_wp2_with (first|refine wpList_load_mid rfl 240 (.tmp 3) rfl D 0 rfl M _ (uh HRg) underlying240 rfl (uh fG) ?_|refine wpList_store_mid rfl 240 (.tmp 2) (.tmp 44) rfl R 0 M.toArray rfl rfl (uh CB) (uh eo) (uh Si) ?_)
     have aaz:(wr.setCells R 0 M).rangeAt R 0 M:=by
      intro j v hj;have fT:=(List.getElem?_eq_some_iff.1 hj).1;rw[uh HML]at fT;rw[Nat.zero_add,ownsRow.cellAt (uh J6) j (by omega)];exact hj
     have hld:=run_loadVar_mid (P:=prog) (wr.setCells R 0 M) R 0 240 M _ aaz underlying240 rfl (uh fG);refine bodyPost_ret (v:=.agg M.toArray) ?_ rfl ⟨by rw[uh HM],uh lN⟩;simp[results,Tryz.results227,Act.put,asAddr,hld]
    |true =>
     have aru:gk=26-s.length:=hgn;obtain⟨hrc,arO⟩:=(uh hI).2.2.2.2.2.1 rfl;have HRC:=ab hrc;have hF:=(uh H).below (uh hI).2.2.2.2.1;have c6:=hF.c6;have eo:Hid (Ob wr 240 24 D (dl bl)/\fK bl ((f.ow.take 0).foldl mM s)/\Ob wr 240 24 R (dl (replicate 24 false))/\Below w.heap.size w wr):=ab ⟨(uh hI).1,(uh hI).2.1,(uh hI).2.2.2.1,(uh hI).2.2.2.2.1⟩;have HMS:=ab (uh hI).2.2.1;clear hgn hrc hF hI;go_wp2_with fail
     go_loopg [5,25] f.ow.length (λgn gv i wx=>∃(j:Nat) (bl:List Bool),j+gn=f.ow.length/\i=.int .i64 j/\gv=.bool (decide (((f.ow.take j).foldl mM s).length≠s.length))/\Hid (Ob wx 240 24 D (dl bl)/\fK bl ((f.ow.take j).foldl mM s)/\Ob wx 240 24 R (dl (replicate 24 false))/\Below w.heap.size w wx))
     case atStart=>exact⟨0,bl,by omega,rfl,by simp,eo⟩
     case round =>
      clear eo c6;obtain⟨j,bl,Co,rfl,rfl,hJ⟩:=hrel;obtain⟨G2,FB⟩:∃G2,G2=gk:=⟨_,rfl⟩;have hF:=(uh H).below (uh hJ).2.2.2;have hDR:D≠R:=(by have:=uh HD;omega);obtain⟨m,hm⟩:∃m,m=(f.ow.take j).foldl mM s:=⟨_,rfl⟩;have m8:s.length<=m.length:=(by rw[hm];exact BH _);by_cases au:j<f.ow.length
      .have hd:decide ((j:Int)<(f.ow.length:Int))=true:=(by simp;omega);obtain⟨g,cap,dE,-,-⟩:=aE hF.ow au;simp only[Value.slice.injEq,true_and]at dE;obtain⟨rfl,rfl⟩:=dE;obtain⟨x0,x1,x2⟩:=aB hF.ow au;obtain⟨kZ,xT⟩:=(uh HO).ow _ (aY au);have qq:=jI (g:=mM) (a:=s) au;obtain⟨p,hp⟩:∃p,p=f.ow.getD j ay:=⟨_,rfl⟩;rw[<-hp]at x0 x1 x2 kZ xT qq;rw[<-hm]at hJ qq ⊢;obtain⟨gr,UB⟩:∃gr,gr=decide (m.length≠s.length):=⟨_,rfl⟩;rw[<-UB];have HGR:=ab UB;obtain⟨W1,d7⟩:∃W1,W1=wr.alloc (.cells #[Value.int .i64 p.k,.int .i64 p.l,.int .i64 p.r] 182):=⟨_,rfl⟩;have ce:Below wr.heap.size wr W1:=(by rw[d7];exact ah wr _);have hX:Bk W1 wr.heap.size 182 [Value.int .i64 p.k,.int .i64 p.l,.int .i64 p.r]:=(by rw[d7];exact Bk.new wr _ _);have b1:=hX.cell 1 rfl;have b2:=hX.cell 2 rfl;have oD:Ob W1 240 24 D (dl bl):=(uh hJ).1.of_eq (ce.block D (ownsRow.lt (uh hJ).1 D rfl).2);have oR:Ob W1 240 24 R (dl (replicate 24 false)):=(uh hJ).2.2.1.of_eq (ce.block R (ownsRow.lt (uh hJ).2.2.1 R rfl).2);have bz:=(uh hJ).2.2.2.trans (ce.mono (uh hJ).2.2.2.size);have Sv:=(uh hJ).2.1;have d1:=(ownsRow.cellAt oD p.l (by omega)).trans (fP (by rw[Sv.1];exact kZ));have d2:=(ownsRow.cellAt oD p.r (by omega)).trans (fP (by rw[Sv.1];exact xT));have fz:=ownsRow.frozenAt oD p.r;have e1:bl.getD p.l false=decide (p.l∈m):=(by have:=Sv.2 p.l kZ;cases hb:bl.getD p.l false <;> simp_all);have e2:bl.getD p.r false=decide (p.r∈m):=(by have:=Sv.2 p.r xT;cases hb:bl.getD p.r false <;> simp_all);rw[e1]at d1;rw[e2]at d2;have o1:=oD.stored p.r (.bool true);rw[lW]at o1;have i1:(0:Int)<=(j:Int):=(by omega);have i2:(j:Int)<(f.ow.length:Int):=(by omega);have i3:(p.l:Int)<(24:Int):=(by omega);have i4:(p.r:Int)<(24:Int):=(by omega);obtain⟨X,gV⟩:∃X,X=wr.heap.size:=⟨_,rfl⟩;rw[<-gV]at b1 b2;have LX:=ab qq;have HNo:Hid (mM m p=m->Ob W1 240 24 D (dl bl)/\fK bl ((f.ow.take (j+1)).foldl mM s)/\Ob W1 240 24 R (dl (replicate 24 false))/\Below w.heap.size w W1):=ab (λe=>⟨oD,by rw[qq,e];exact Sv,oR,bz⟩);have akc:Hid (mM m p=m++[p.r]->Ob (W1.setCell ⟨D,p.r,none⟩ (.bool true)) 240 24 D (dl (bl.set p.r true))/\fK (bl.set p.r true) ((f.ow.take (j+1)).foldl mM s)/\Ob (W1.setCell ⟨D,p.r,none⟩ (.bool true)) 240 24 R (dl (replicate 24 false))/\Below w.heap.size w (W1.setCell ⟨D,p.r,none⟩ (.bool true))):=ab (λe=>⟨o1,by
        rw[qq,e];exact(Sv.add xT).congr (λd=>by simp only[mem_cons,mem_append,not_mem_nil,or_false];exact⟨λh=>h.elim zq1 zq0,λh=>h.elim zq1 zq0⟩),oR.of_eq (heap_setCell _ _ _ _ (λe=>hDR e.symm)),bz.setCell (p:=⟨D,p.r,none⟩) cW _⟩)
       clear ce hX oD oR bz Sv e1 e2 o1 qq hp hm hF hJ UB;by_cases q1:p.l∈m
       .rw[show decide (p.l∈m)=true by simpa using q1]at d1;by_cases q2:p.r∈m
        .rw[show decide (p.r∈m)=true by simpa using q2]at d2;have HE:Hid (mM m p=m):=ab (by unfold mM;rw[if_neg (by rintro⟨-,h⟩;exact h q2)]);clear q1 q2;go_upto_region 12 with fail;rw[<-d7,<-gV];clear d7 gV;go_wp2_with fail
         go_roundg (G2-1)
         case rel=>exact⟨j+1,bl,by omega,by go_num,by rw[uh LX,uh HE,<-uh HGR],ab (uh HNo (uh HE))⟩
         case measure=>omega
        .rw[show decide (p.r∈m)=false by simpa using q2]at d2;have HE:Hid (mM m p=m++[p.r]):=ab (by unfold mM;rw[if_pos ⟨q1,q2⟩]);clear q1 q2;go_upto_region 12 with fail;rw[<-d7,<-gV];clear d7 gV;go_wp2_with fail
         go_roundg (G2-1)
         case rel=>exact⟨j+1,_,by omega,by go_num,by
          rw[uh LX,uh HE,length_append,length_singleton];rw[show decide (m.length+1≠s.length)=true by simp;omega],ab (uh akc (uh HE))⟩
         case measure=>omega
       .rw[show decide (p.l∈m)=false by simpa using q1]at d1;have HE:Hid (mM m p=m):=ab (by unfold mM;rw[if_neg (by rintro⟨h,-⟩;exact q1 h)]);clear q1;go_upto_region 12 with fail;rw[<-d7,<-gV];clear d7 gV;go_wp2_with fail
        go_roundg (G2-1)
        case rel=>exact⟨j+1,bl,by omega,by go_num,by rw[uh LX,uh HE,<-uh HGR],ab (uh HNo (uh HE))⟩
        case measure=>omega
      .have hd:decide ((j:Int)<(f.ow.length:Int))=false:=(by simp;omega);have K9:(f.ow.take j).foldl mM s=wS f s:=(by rw[take_of_length_le (by omega)];rfl);rw[K9]at hJ ⊢;obtain⟨n',rfl⟩:∃n',n=n'+1:=⟨n-1,by omega⟩;have hrn:LI f (n'+1) s=if (wS f s).length=s.length then s else LI f n' (wS f s):=rfl
       have bm:=(GA f.ow (uh HMS) (λp hp=>((uh HO).ow p hp).2)).1;have UH:ep (wS f s):=bm;have yo:=UH.len;have agh:s.length<=(wS f s).length:=BH _;have HJ:Hid (Ob wr 240 24 D (dl bl)/\fK bl (wS f s)/\ep (wS f s)/\Ob wr 240 24 R (dl (replicate 24 false))/\Below w.heap.size w wr):=ab ⟨(uh hJ).1,(uh hJ).2.1,UH,(uh hJ).2.2.1,(uh hJ).2.2.2⟩;by_cases pS:(wS f s).length=s.length
       .have ti:wS f s=s:=by
         obtain⟨t,ht⟩:=BI f.ow s;have h1:wS f s=s++t:=ht;have h2:=congrArg List.length h1;rw[length_append]at h2;have:t=[]:=length_eq_zero_iff.1 (by omega);rw[h1,this,append_nil]
        have HE:Hid (wS f s=jx f):=ab (by
         have h1:=uh HRC;rw[hrn,if_pos pS]at h1;rw[ti];exact h1)
        rw[show decide ((wS f s).length≠s.length)=false by simp[pS]];clear ti pS K9 hrn bm UH hJ agh yo;go_wp2_with fail
        go_roundg 0
        case rel=>exact⟨wS f s,bl,0,false,rfl,rfl,(uh HJ).2.2.1.len,ab ⟨(uh HJ).1,(uh HJ).2.1,(uh HJ).2.2.1,(uh HJ).2.2.2.1,(uh HJ).2.2.2.2,(λh=>by cases h),λ_=>uh HE⟩⟩
        case measure=>omega
       .have HE:Hid (LI f n' (wS f s)=jx f/\24<n'+(wS f s).length):=ab ⟨by
         have h1:=uh HRC;rw[hrn,if_neg pS]at h1;exact h1,by omega⟩
        rw[show decide ((wS f s).length≠s.length)=true by simp[pS]];have b7:26-(wS f s).length<G:=(by omega);clear pS K9 hrn bm UH hJ agh;go_wp2_with fail
        go_roundg (26-(wS f s).length)
        case rel=>exact⟨wS f s,bl,n',true,rfl,rfl,(uh HJ).2.2.1.len,ab ⟨(uh HJ).1,(uh HJ).2.1,(uh HJ).2.2.1,(uh HJ).2.2.2.1,(uh HJ).2.2.2.2,(λ_=>uh HE),λh=>by cases h⟩⟩
        case measure=>omega
end
