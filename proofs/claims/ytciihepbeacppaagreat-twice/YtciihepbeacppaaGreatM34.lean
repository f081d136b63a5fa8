import Derived.Test.YtciihepbeacppaaGreatM33
import Derived.OpenShut
import Derived.ProofKit
import Derived.Test.YtciihepbeacppaaGreatRows
set_option maxRecDepth 100000
set_option maxHeartbeats 0
namespace Go.Proofs.YtciihepbeacppaaGreat
open _root_.Go.Proofs.Tryz Go.RowKit List World Below
set_option linter.unusedVariables false
theorem Oa{s:ByteArray}{A B W:List UInt8}(hs:s.data.toList=A++123::(B++125::W)){k q:Nat}(hk:k=A.length+1)(hq:q=A.length+1+B.length):
  s.extract 0 q++s.extract k q++⟨#[125]⟩=⟨(A++123::(B++(B++[125]))).toArray⟩:=by
 have e1:(s.extract 0 q).data.toList=A++123::B:=by
  rw[<-ByteArray.toList_eq,Lib.extract_toList,hs,hq,drop_zero,show A++123::(B++125::W)=(A++123::B)++125::W by simp,Nat.sub_zero];exact take_left' (by simp;omega)
 have e2:(s.extract k q).data.toList=B:=by
  rw[<-ByteArray.toList_eq,Lib.extract_toList,hs,hq,hk,show A++123::(B++125::W)=(A++[123])++(B++125::W) by simp,drop_left' (by simp)];exact take_left' (by omega)
 have key:∀b:ByteArray,b=⟨b.data.toList.toArray⟩:=λb=>by cases b;simp
 rw[key (s.extract 0 q),key (s.extract k q),e1,e2,show(⟨#[125]⟩:ByteArray)=⟨[125].toArray⟩ from rfl,aaT,aaT];simp
section
variable {w0 w:World} {Y X:Nat} {s:ByteArray} {ws ws2:List ByteArray} {G:List Nat} {A B W:List UInt8}
theorem IS (Ia:ZS w Y X s) (hp:rD w X ws G) (hY:Y ∉ G) (cq:∀k∈G,w0.heap.size<=k) (QE:Below w0.heap.size w0 w) (hA:Pe ws) (iN:(bL ws aJ).nodes.length<=100000) (qj:0<(bL ws aJ).nodes.length)
  (hs:s.data.toList=A++123::(B++125::W)) (hnA:123 ∉ A) (hnW:125 ∉ W) (hz:s.size<=240) (hr:nY (A++123::(B++(B++[125])))=ws2) (hE:(A++123::(B++(B++[125]))).length<=240->lx (A++123::(B++(B++[125])))=0/\Pe ws2)
  (nM:(A++123::(B++(B++[125]))).length<=240->(sI ws).vd≠2->(sI ws2).vd≠2->∀p∈(sI ws).al,p.1≠(bL ws aJ).nodes.length-1->p∈(sI ws2).al) :
  Calls prog 24 #[.pointer (some ⟨Y,0,none⟩)] w λe w'=>e=.returned (.bool true)/\Below w0.heap.size w0 w':=by
 have c0:w.cell? ⟨Y,0,none⟩=some (.pointer (some ⟨X,0,none⟩)):=Ia.cell 0 rfl;have c1:w.cell? ⟨Y,1,none⟩=some (.string s):=Ia.cell 1 rfl;have vI:=ab (GT (s:=s) (A:=A) w hs hnA (by omega));have Il:s.size=A.length+1+B.length+1+W.length:=by rw[<-bP,hs];simp;omega
 obtain⟨k,hk⟩:∃k,k=A.length+1:=⟨_,rfl⟩;obtain⟨q,hq⟩:∃q,q=A.length+1+B.length:=⟨_,rfl⟩;have HTX:=ab (Oa hs hk hq);have hkq:k<=q:=by omega
 have hqs:q<s.size:=by omega
 have HC:Hid ((∀j,q<j->(h:j<s.size)->((s[j].toNat:Int) != 125)=true)/\∀h:q<s.size,((s[q].toNat:Int) != 125)=false):=ab (by
  have hl:s.data.toList.length=s.size:=bP s;have hg:∀j,(h':j<s.size)->s.data.toList[j]?=some s[j]:=λj h'=>by
   have:j<s.data.toList.length:=(by rw[hl];exact h');rw[getElem?_eq_getElem this];rfl
  have e:s.data.toList=(A++123::B)++125::W:=by rw[hs];simp
  have WP:q=(A++123::B).length:=by rw[hq];simp;omega
  refine⟨λj hj h=>?_,λh=>?_⟩
  .have h1:=hg j h;rw[e,getElem?_append_right (by omega)]at h1;obtain⟨i,hi⟩:∃i,j-(A++123::B).length=i+1:=⟨j-q-1,by omega⟩;rw[hi,getElem?_cons_succ]at h1;exact Uk (b:=125) (λe2=>hnW (by rw[<-e2];exact mem_of_getElem? h1))
  .have h1:=hg q h;rw[e,getElem?_append_right (by omega),show q-(A++123::B).length=0 by omega,getElem?_cons_zero]at h1;injection h1 with h1;rw[<-h1];rfl)
 have ek:(A.length:Int)+1=(k:Int):=by omega
 rw[ek]at vI;obtain⟨T,hT⟩:∃T,T=A++123::(B++(B++[125])):=⟨_,rfl⟩;have OT:T.length<=1000:=by rw[hT];simp;omega
 rw[<-hT]at HTX hr hE nM;have H:=ab (zq2 Ia (zq2 hp (zq2 hY (zq2 cq QE))));have HA:=ab hA;have HR:=ab hr;have HEE:=ab hE;have ZT:=ab nM;clear Ia hp hY cq QE hA hr hE nM hs hnA hnW hk hq hT ek Il;go_enter func24,ntmps24;go_wp2_with fail
 refine(uh vI).mono ?_;rintro e w ⟨rfl,rfl⟩;clear vI;go_wp2_with fail
 go_loopg [4] (s.size-1-q) (λgn iv wx=>∃(j:Nat),Hid (j=q+gn)/\j<s.size/\iv=.int .i64 j/\wx=w)
 case atStart=>exact⟨s.size-1,ab (by omega),by omega,by go_num,rfl⟩
 case round =>
  obtain⟨j,hj,hjs,rfl,rfl⟩:=hrel;obtain⟨G1,uF⟩:∃G1,G1=gk:=⟨_,rfl⟩;by_cases ar:q<j
  .have hd:decide ((k:Int)<(j:Int))=true:=(by simp;omega);have aY:=(uh HC).1 j ar hjs;go_wp2_with fail
   go_roundg (G1-1)
   case rel=>exact⟨j-1,ab (by have:=uh hj;omega),by omega,by go_num,rfl⟩
   case measure=>have:=uh hj;omega
  .have hjq:j=q:=(by have:=uh hj;omega);subst hjq;clear hj uF ar;have hp1:(0:Int)<=(j:Int):=(by omega);have WL:(j:Int)<(s.size:Int):=(by omega);have hp3:(0:Int)<=(k:Int):=(by omega);have hp4:(k:Int)<=(j:Int):=(by omega);have aY:=(uh HC).2 hqs;clear HC;by_cases hkj:k<j
   all_goals
    go_wp2_with fail
    go_quiet (fail)
    rw[uh HTX];clear HTX hkj;have hS:S9 w0 wr Y X s ws G:=⟨(uh H).1,(uh H).2.1,(uh H).2.2.1,(uh H).2.2.2.1,(uh H).2.2.2.2⟩;have HV:Hid (∀W',Below wr.heap.size wr W'->W'.cell? ⟨Y,0,none⟩=some (.pointer (some ⟨X,0,none⟩))/\Calls prog 33 #[.pointer (some ⟨X,0,none⟩)] W' λe w'=>e=.returned (.int .i64 ((sI ws).vd:Nat))/\∃G',S9 w0 w' Y X s ws G'):=ab (λW' hb=>⟨(hS.below hb).dk.cell 0 rfl,by
     refine((hS.below hb).p.verdict (uh HA)).mono ?_;rintro e w' ⟨he,G',ha⟩;exact⟨he,G',(hS.below hb).ask ha⟩⟩)
    clear hS H c1;obtain⟨vd,hvd⟩:∃vd,vd=(sI ws).vd:=⟨_,rfl⟩;rw[<-hvd]at HV;have HVD:=ab hvd;clear hvd;go_wp2_with fail
    refine(uh HV _ (ey wr _)).2.mono ?_;rintro e w2 ⟨rfl,G2,bO⟩;have cj:=ab bO;clear bO HV c0;by_cases amL:240<T.length
    .have d0:decide ((240:Int)<(T.length:Int))=true:=(by simp;omega);have HN:=ab (uh cj).bw;clear cj;go_wp2_with fail
     go_ret;exact⟨rfl,uh HN⟩
    .have d0:decide ((240:Int)<(T.length:Int))=false:=(by simp;omega);by_cases wE:vd=2
     .subst wE;have HN:=ab (uh cj).bw;clear cj;go_wp2_with fail
      go_ret;exact⟨rfl,uh HN⟩
     .have dv:((vd:Int)==(2:Int))=false:=(by simp;omega);obtain⟨hE0,Tp⟩:=uh HEE (by omega);have YV:=ab (Bc ⟨T.toArray⟩ w2 (by show T.toArray.size<=20000;simp;omega));have Z3:=ab hE0;have j8:=ab Tp;have HV2:=ab wE;clear hE0 Tp HEE wE;go_wp2_with fail
      refine(uh YV).mono ?_;rintro e w3 ⟨cU,⟨ahQ,-⟩|⟨-,X2,rfl,hL⟩⟩
      .exact absurd (uh Z3) ahQ
      .rw[uh HR]at hL;have hSr:r8 T=bL ws2 aJ:=(by unfold r8;rw[uh HR]);rw[hSr]at hL;obtain⟨G3,Zf,QI⟩:=hL.prg;have hD:Uq w0 w3 Y X X2 s ws ws2 G2 G3:=by
        have h0:=uh cj;have h1:=h0.below cU;exact⟨h1.dk,h1.p,Zf,h1.y,λhm=>by have:=QI _ hm;have:=Bk.lt h0.dk;omega,λk hk ll=>by have:=QI _ ll;have:=h0.p.lt k hk;omega,h1.b,λk hk=>by have:=QI k hk;have:=h0.bw.size;omega,h1.bw⟩
       have UQ:=ab (hD.p2.verdict (uh j8));obtain⟨vd2,Xa⟩:∃vd2,vd2=(sI ws2).vd:=⟨_,rfl⟩;rw[<-Xa]at UQ;have aaE:=ab Xa;have HD:=ab hD;clear cU hL hSr Zf QI hD YV cj HR Z3 Xa d0;go_wp2_with fail
       refine(uh UQ).mono ?_;rintro e w4 ⟨rfl,G4,ha⟩;have hD4:=(uh HD).ask2 ha;have zM:=ab hD4;clear hD4 ha UQ HD;by_cases WZ:vd2=2
       .subst WZ;have HN:=ab (uh zM).bw;clear zM;go_wp2_with fail
        go_ret;exact⟨rfl,uh HN⟩
       .have dv2:((vd2:Int)==(2:Int))=false:=(by simp;omega);have GE:=ab (uh ZT (by omega) (by rw[<-uh HVD];exact uh HV2) (by rw[<-uh aaE];exact WZ));have c4:w4.cell? ⟨Y,0,none⟩=some (.pointer (some ⟨X,0,none⟩)):=(uh zM).dk.cell 0 rfl;have HX:=ab ((uh zM).p1.alarms (uh HA));clear WZ ZT HVD aaE HV2;go_wp2_with fail
        refine(uh HX).mono ?_;rintro e w5 ⟨v1,rfl,rQ,-,G5,ha⟩;have Ts:=(uh zM).ask1 ha;have abO:X2<w4.heap.size:=(uh zM).p2.lt X2 (uh zM).p2.mem;have HY:=ab (Ts.p2.alarms (uh j8));have HD5:=ab (zq2 Ts rQ);clear Ts rQ ha HX zM c4;go_wp2_with fail
        refine(uh HY).mono ?_;rintro e w6 ⟨v2,rfl,ja,-,G6,ha⟩;have rQ:=R3 (uh HD5).2 abO ha.st;have hD6:=(uh HD5).1.ask2 ha;have c6:w6.cell? ⟨Y,0,none⟩=some (.pointer (some ⟨X,0,none⟩)):=hD6.dk.cell 0 rfl;have HN6:=ab hD6.p1.nodes;have Z1:=ab (zq2 hD6.bw (zq2 rQ ja));clear hD6 rQ ja ha HY HD5 abO;go_wp2_with fail
        refine(uh HN6).mono ?_;rintro e w7 ⟨rfl,n7,rfl⟩;have Wh:Below w0.heap.size w0 (w6.drewN n7):=(uh Z1).1.trans ((ey w6 n7).mono (uh Z1).1.size);have Mk:=eQ (uh Z1).2.1 (ey w6 n7);have Ml:=eQ (uh Z1).2.2 (ey w6 n7);obtain⟨W7,hW7⟩:∃W7,W7=w6.drewN n7:=⟨_,rfl⟩;rw[<-hW7]at Wh Mk Ml ⊢;obtain⟨N,hN⟩:∃N,N=(bL ws aJ).nodes.length:=⟨_,rfl⟩;obtain⟨a,ha⟩:∃a,a=(sI ws).al:=⟨_,rfl⟩;obtain⟨b,hb⟩:∃b,b=(sI ws2).al:=⟨_,rfl⟩;rw[<-ha]at Mk GE;rw[<-hb]at Ml GE;rw[<-hN]at iN qj GE ⊢;obtain⟨aa,ac,rfl,ha1,E1⟩:=aj Mk;obtain⟨ba,bc,rfl,bB,aR⟩:=aj Ml;have HB7:=ab Wh;have HAr:=ab Mk;have HBr:=ab Ml;clear Wh Mk Ml hW7 HN6 Z1 c6 hN ha hb;go_wp2_with fail
        go_loopg [13] a.length (λgn iv wx=>∃(j:Nat),j+gn=a.length/\iv=.int .i64 j/\Hid (∃n,wx=W7.drewN n))
        case atStart=>exact⟨0,by omega,rfl,ab ⟨0,rfl⟩⟩
        case round =>
         obtain⟨j,yc,rfl,hI⟩:=hrel;obtain⟨G1,uF⟩:∃G1,G1=gk:=⟨_,rfl⟩;obtain⟨n,rfl⟩:=uh hI;by_cases ar:j<a.length
         .have hd:decide ((j:Int)<(a.length:Int))=true:=(by simp;omega);obtain⟨g,cap,c9,-,-⟩:=bT (uh HAr) (by omega);simp only[Value.slice.injEq,true_and]at c9;obtain⟨rfl,rfl⟩:=c9;have x0:W7.cell? ⟨g,j*2,none⟩=some (.int .i64 (a[j].1:Int)):=((uh HAr).cellAt (j*2) (by omega)).trans (mi ar).1;have x1:W7.cell? ⟨g,j*2+1,none⟩=some (.int .i64 (a[j].2:Int)):=((uh HAr).cellAt (j*2+1) (by omega)).trans (mi ar).2;have HP:=ab (uh GE a[j] (getElem_mem ar));obtain⟨p,hp⟩:∃p,p=a[j]:=⟨_,rfl⟩;rw[<-hp]at x0 x1 HP;obtain⟨p1,p2⟩:=p;simp only at x0 x1;have k1:(0:Int)<=(j:Int):=(by omega);have k2:(j:Int)<(a.length:Int):=(by omega);clear hp hI;go_wp2_with fail
          go_loopg [14,15] b.length (λgm tv iv wx=>∃(i:Nat) (t:Bool),i+gm=b.length/\iv=.int .i64 i/\tv=.bool t/\Hid ((∃n,wx=W7.drewN n)/\(t=true↔p1=N-1\/(p1,p2)∈b.take i)))
          case atStart=>exact⟨0,_,by omega,rfl,rfl,ab ⟨⟨_,rfl⟩,by simp;omega⟩⟩
          case round =>
           obtain⟨i,t,rh,rfl,rfl,hJ⟩:=hrel;obtain⟨H2,hH2⟩:∃H2,H2=gk:=⟨_,rfl⟩;obtain⟨⟨n',rfl⟩,AF⟩:=uh hJ;by_cases ya:i<b.length
           .have jk:decide ((i:Int)<(b.length:Int))=true:=(by simp;omega);obtain⟨g2,cap2,cO,-,-⟩:=bT (uh HBr) (by omega);simp only[Value.slice.injEq,true_and]at cO;obtain⟨rfl,rfl⟩:=cO;have y0:W7.cell? ⟨g2,i*2,none⟩=some (.int .i64 (b[i].1:Int)):=((uh HBr).cellAt (i*2) (by omega)).trans (mi ya).1;have y1:W7.cell? ⟨g2,i*2+1,none⟩=some (.int .i64 (b[i].2:Int)):=((uh HBr).cellAt (i*2+1) (by omega)).trans (mi ya).2;obtain⟨q,hq⟩:∃q,q=b[i]:=⟨_,rfl⟩;rw[<-hq]at y0 y1;have cI:Hid (b.take (i+1)=b.take i++[q]):=ab (by rw[take_succ_eq_append_getElem ya,hq]);obtain⟨q1,q2⟩:=q;simp only at y0 y1;have j1:(0:Int)<=(i:Int):=(by omega);have j2:(i:Int)<(b.length:Int):=(by omega);have hgd:=VL;have LF:∀W:World,(binOp .eql 82 (.agg #[.int .i64 (p1:Int),.int .i64 (p2:Int)]) (.agg #[.int .i64 (q1:Int),.int .i64 (q2:Int)])).run prog W=.ok (.bool (decide ((p1,p2)=(q1,q2)))) W:=λW=>by
             rw[agv];congr 2;rw[Bool.eq_iff_iff];simp;omega
            have HIF:=ab AF;clear hq hJ AF;cases t with
            |true =>
             have HN:Hid (true=true↔p1=N-1\/(p1,p2)∈b.take (i+1)):=ab (by
              rw[uh cI,mem_append];have:=uh HIF;constructor
              .intro h;rcases this.1 h with h|h;exact zq0 h;exact zq1 (zq0 h)
              .intro _;rfl)
             clear HIF cI LF;go_wp2_with fail
             go_quiet (fail)
             go_wp2_with fail
             go_roundg (H2-1)
             case rel=>exact⟨i+1,true,by omega,by go_num,rfl,ab ⟨by first|exact⟨_,rfl⟩|exact⟨_,drewN_drewN _ _ _⟩,by have h9:=uh HN;simpa using h9⟩⟩
             case measure=>omega
            |false =>
             have HN:Hid (decide ((p1,p2)=(q1,q2))=true↔p1=N-1\/(p1,p2)∈b.take (i+1)):=ab (by
              rw[uh cI,mem_append,mem_singleton,decide_eq_true_iff];have:=uh HIF;constructor
              .intro h;exact zq1 (zq1 h)
              .rintro(h|h|h)
               .exact absurd (this.2 (zq0 h)) (by simp)
               .exact absurd (this.2 (zq1 h)) (by simp)
               .exact h)
             obtain⟨dv,hdv⟩:∃dv,dv=decide ((p1,p2)=(q1,q2)):=⟨_,rfl⟩;rw[<-hdv]at HN;simp only[<-hdv]at LF;clear HIF cI hdv;go_wp2_with fail
             go_quiet (fail)
             go_wp2_with fail
             go_roundg (H2-1)
             case rel=>exact⟨i+1,dv,by omega,by go_num,rfl,ab ⟨by first|exact⟨_,rfl⟩|exact⟨_,drewN_drewN _ _ _⟩,uh HN⟩⟩
             case measure=>omega
           .have jk:decide ((i:Int)<(b.length:Int))=false:=(by simp;omega);have ht:t=true:=AF.2 (by
             by_cases h1:p1=N-1
             .exact zq0 h1
             .right;rw[take_of_length_le (by omega)];exact uh HP h1)
            subst ht;clear AF hJ HP x0 x1;go_wp2_with fail
            go_roundg (G1-1)
            case rel=>exact⟨j+1,by omega,by go_num,ab ⟨_,rfl⟩⟩
            case measure=>omega
         .have hd:decide ((j:Int)<(a.length:Int))=false:=(by simp;omega);have HN:=ab ((uh HB7).trans ((ey W7 n).mono (uh HB7).size));clear hI;go_wp2_with fail
          go_ret;exact⟨rfl,uh HN⟩
end
open Go.ChangeShapes Go.WideShapes Go.ChangeAt Go.RowKit Go.ChangeMaps
set_option linter.unusedVariables false
theorem zU{l:List UInt8}{ws:List ByteArray}(h:lx l=0)(e:nY l=ws):Pe ws:=by
 subst e;exact Ep h
theorem own:ownKnob prog.godebug=none:=by kernel_rfl
theorem walk(s:ByteArray)(w:World):Calls prog 12 #[.string s] w λe w'=>e=.returned (.bool true)/\Below w.heap.size w w':=by
 have HD:=ab (Kn s w);go_enter func12,ntmps12;go_wp2_with fail
 refine(uh HD).mono ?_;rintro e w1 ⟨hb,⟨-,rfl⟩|⟨hs,hE,Y,X,G,rfl,h1,h2,h3,h4,h5⟩⟩
 .have HB:=ab hb;clear hb HD;go_wp2_with fail
  go_ret;exact⟨rfl,uh HB⟩
 .have hA:=Ep hE;obtain⟨A,B,W,f,b,k,hc,hf,aR,hw⟩:=X8 hE;obtain⟨t1,t2⟩:=PW hc hf aR hE hw;have HAG:=ab (IS (w0:=w) (ws2:=ay f (b++b)) h1 h4 h3 h5 hb hA hA.l hA.p hc.e hc.a hc.w (by omega) t1 (λhl=>⟨t2 hl,zU (t2 hl) t1⟩) (λdb v1 v2 p hp Cb=>by
   rw[hw]at v1 hp Cb;have Tp:Pe (ay f (b++b)):=zU (t2 db) t1;have hA1:Pe (ay f b):=(by rw[<-hw];exact hA);obtain⟨g1,g2⟩:=DV hf aR hA1 Tp v1 v2;exact g2 p hp (by rw[g1]at Cb;simpa using Cb)))
  clear hb HD h1 h2 h3 h4 h5 hA hE;go_wp2_with fail
  refine(uh HAG).mono ?_;rintro e w2 ⟨rfl,aR⟩;have HB:=ab aR;clear aR HAG;go_wp2_with fail
  go_ret;exact⟨rfl,uh HB⟩
theorem lifted(os:Go.Os)(started:os.Started)(H:Type)(enc:TypeId × Value->H):
  ReturnsInHanded {} Tryz.checked os 12 .any (Rows.twiceSpec.pre6 enc prog Tryz.f12 Rows.twiceRow.domain false) (Rows.twiceSpec.post enc prog Tryz.f12 false true false false):=by
 refine returnsInHanded_of_change (C:=Tryz.checked) own started (by kernel_rfl) func12
  (ChangeSpec.witness6 (enc:=enc) (C:=Tryz.checked) false ⟨#[],#[.string ⟨#[]⟩],[]⟩ 8 (by kernel_rfl) (by kernel_rfl) (by kernel_rfl) (by kernel_rfl)) ?_
 intro W base args ds gs before adk hW anh _;have adj:∀(j:Nat) t v,Tryz.f12.params[j]?=some t->args[j]?=some v->Value.okWide prog W .any base t v:=adk;have hW':=hW;obtain⟨p,q,zA,hV,rfl,Zu,dV⟩:=hW;have hA:DataW.TrodAll enc prog W 0 (λ_=>true) true Tryz.f12.params.toList args.toList ds p:=zA;rw[Tryz.params12]at hA adj;obtain⟨v0,vs0,d0,ds0,p0,q0,akR,rfl,rfl,h0,r0⟩:=trodAll_cons hA;obtain⟨rfl,rfl,rfl⟩:=trodAll_nil r0;obtain rfl:args=#[v0]:=by cases args;simp_all
 obtain⟨rfl,rfl⟩:=trodVars_none hV;obtain⟨s,rfl,rfl,rfl,hs⟩:=open_string underlying9 (adj 0 9 v0 rfl rfl) h0;clear zA;simp only[append_nil]at hW';refine(walk s W).mono λe W' ⟨he,hb⟩=>?_;subst he;exact⟨_,rfl,_,_,_,[],[],[],hW',trodAll_cons_mk (shut_bool underlying4 _) trodAll_mk0,trodAll_cons_mk (shut_string underlying9 hs) trodAll_mk0,rfl,hb.frame _,λh=>by cases h⟩
theorem over:Rows.twiceRow.holds Tryz.pinned (OpenSpec.ofChange Rows.twiceSpec) :=
 OpenClaim.holds_of_wide 12 Tryz.f12 rfl rfl rfl rfl rfl rfl rfl ⟨rfl,rfl,rfl,rfl,rfl⟩ rfl rfl rfl rfl rfl (by kernel_rfl) func12 (by kernel_rfl)
  (of_decide_eq_true (by kernel_rfl)) (by unfold Func.isWrapper;first|(rw[if_pos (by decide +kernel)];kernel_rfl)|(rw[if_neg (by decide +kernel)];exact⟨rfl,rfl⟩))
  (λos started H enc _=>lifted os started H enc)
theorem twice_proved:Rows.TwiceSaid:=over
#print axioms twice_proved
