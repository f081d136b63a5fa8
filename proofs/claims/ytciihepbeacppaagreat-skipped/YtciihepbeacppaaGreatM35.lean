import Derived.Test.YtciihepbeacppaaGreatM34
import Derived.OpenShut
import Derived.ProofKit
import Derived.Test.YtciihepbeacppaaGreatRows
set_option maxRecDepth 100000
set_option maxHeartbeats 0
namespace Go.Proofs.YtciihepbeacppaaGreat
open _root_.Go.Proofs.Tryz Go.RowKit List
set_option linter.unusedVariables false
structure R4(w0 w:World)(Y X1 X2:Nat)(s:ByteArray)(ws1 ws2:List ByteArray)(G1 G2:List Nat):Prop where
 dk:Dsk w Y X1 s
 p1:vf w X1 ws1 G1
 p2:vf w X2 ws2 G2
 y1:Y ∉ G1
 y2:Y ∉ G2
 dj:∀k∈G1,k ∉ G2
 b1:∀k∈G1,w0.heap.size<=k
 b2:∀k∈G2,w0.heap.size<=k
 bw:Below w0.heap.size w0 w
theorem VS{w w':World}{X base n sz:Nat}{e:TypeId}{v:Value}{xs:List Value}(hr:w.ownsRow base e sz v n xs)(hX:X<base)(st:ar [X] w [X] w'):w'.ownsRow base e sz v n xs :=
 ae hr (λk hk=>st.block k (hr.lt k hk).2 (by have:=(hr.lt k hk).1;simp;omega))
section
variable {w0 w w':World} {Y X1 X2:Nat} {s:ByteArray} {ws1 ws2:List ByteArray} {G1 G2 G':List Nat}
theorem R4.below(h:R4 w0 w Y X1 X2 s ws1 ws2 G1 G2)(hb:Below w.heap.size w w'):R4 w0 w' Y X1 X2 s ws1 ws2 G1 G2 :=
 ⟨Bk.below h.dk hb,h.p1.below hb,h.p2.below hb,h.y1,h.y2,h.dj,h.b1,h.b2,h.bw.trans (hb.mono h.bw.size)⟩
theorem R4.ask1(h:R4 w0 w Y X1 X2 s ws1 ws2 G1 G2)(a:Ask w X1 ws1 G1 G' w'):R4 w0 w' Y X1 X2 s ws1 ws2 G' G2:=by
 have Xl:Y<w.heap.size:=Bk.lt h.dk;have hX:=h.p1.mem;refine⟨Bk.stp h.dk a.st (by simp only[mem_singleton];intro e;exact h.y1 (by rw[e];exact hX)),a.pg,h.p2.of_eq (λk hk=>a.st.block k (h.p2.lt k hk) (by simp only[mem_singleton];intro e;exact h.dj X1 hX (by rw[<-e];exact hk))),λhk=>?_,h.y2,λk hk mK=>?_,λk hk=>?_,h.b2,?_⟩
 .rcases a.gr Y hk with hk|hk
  .exact h.y1 hk
  .omega
 .rcases a.gr k hk with hk|hk
  .exact h.dj k hk mK
  .have:=h.p2.lt k mK;omega
 .rcases a.gr k hk with hk|hk
  .exact h.b1 k hk
  .have:=h.bw.size;omega
 .exact h.bw.trans (a.st.below h.bw.size (λk hk=>by rw[mem_singleton.1 hk];exact h.b1 X1 hX))
theorem R4.ask2(h:R4 w0 w Y X1 X2 s ws1 ws2 G1 G2)(a:Ask w X2 ws2 G2 G' w'):R4 w0 w' Y X1 X2 s ws1 ws2 G1 G':=by
 have Xl:Y<w.heap.size:=Bk.lt h.dk;have hX:=h.p2.mem;refine⟨Bk.stp h.dk a.st (by simp only[mem_singleton];intro e;exact h.y2 (by rw[e];exact hX)),h.p1.of_eq (λk hk=>a.st.block k (h.p1.lt k hk) (by simp only[mem_singleton];intro e;exact h.dj k hk (by rw[e];exact hX))),a.pg,h.y1,λhk=>?_,λk hk mK=>?_,h.b1,λk hk=>?_,?_⟩
 .rcases a.gr Y hk with hk|hk
  .exact h.y2 hk
  .omega
 .rcases a.gr k mK with mK|mK
  .exact h.dj k hk mK
  .have:=h.p1.lt k hk;omega
 .rcases a.gr k hk with hk|hk
  .exact h.b2 k hk
  .have:=h.bw.size;omega
 .exact h.bw.trans (a.st.below h.bw.size (λk hk=>by rw[mem_singleton.1 hk];exact h.b2 X2 hX))
end
theorem YR{wr:List (List Bool)}:∀p∈Hj wr,p.1<wr.length:=by
 intro p hp;unfold Hj at hp;obtain⟨n,hn,hp⟩:=mem_flatMap.1 hp;obtain⟨k,-,rfl⟩:=mem_map.1 hp;exact mem_range.1 hn
theorem YS{ws:List ByteArray}:∀p∈(vp ws).al,p.1<(fy ws bt).nodes.length:=by
 unfold vp ya Cy;split
 .intro p hp;simp at hp
 .intro p hp;have:=YR p hp;rw[Hm]at this;exact this
theorem aeC{s:ByteArray}{A R:List UInt8}{c:UInt8}(hs:s.data.toList=A++c::R):A.length<s.size/\(∀k,(h:k<A.length)->(h':k<s.size)->s[k]=A[k])/\∀h':A.length<s.size,s[A.length]=c:=by
 have hl:s.data.toList.length=s.size:=bU s;have h1:A.length<s.size:=by rw[<-hl,hs];simp
 have hg:∀k,(h':k<s.size)->s.data.toList[k]?=some s[k]:=λk h'=>by
  have:k<s.data.toList.length:=by rw[hl];exact h'
  rw[getElem?_eq_getElem this];rfl
 refine⟨h1,λk h h'=>?_,λh'=>?_⟩
 .have:=hg k h';rw[hs,getElem?_append_left h,getElem?_eq_getElem h]at this;injection this with this;exact this.symm
 .have:=hg A.length h';rw[hs,getElem?_append_right (zq4 _)]at this;simp at this;exact this.symm
theorem ahz{a b:UInt8}(h:a≠b):((a.toNat:Int) != (b.toNat:Int))=true:=by
 rw[bne_iff_ne];intro e;exact h (UInt8.toNat_inj.1 (by omega))
theorem Kh{s:ByteArray}{A R:List UInt8}(w:World)(hs:s.data.toList=A++123::R)(hA:123 ∉ A)(hz:s.size<=1000000):
  Calls prog 44 #[.string s] w λe w'=>e=.returned (.int .i64 ((A.length:Int)+1))/\w'=w:=by
 obtain⟨h1,h2,h3⟩:=aeC hs;have H2:Hid (∀k,(h:k<A.length)->(h':k<s.size)->((s[k].toNat:Int) != 123)=true):=ab (λk h h'=>by
  rw[h2 k h h'];exact ahz (b:=123) (λe=>hA (by rw[<-e];exact getElem_mem h)))
 have H3:Hid (∀h':A.length<s.size,((s[A.length].toNat:Int) != 123)=false):=ab (λh'=>by rw[h3 h'];rfl);obtain⟨a,ha⟩:∃a,a=A.length:=⟨_,rfl⟩;rw[<-ha]at h1 H2 ⊢;have H3:Hid (∀h':a<s.size,((s[a].toNat:Int) != 123)=false):=by subst ha;exact H3
 clear h2 h3 hs hA ha;go_enter func44,ntmps44;go_wp2_with fail
 go_loopg [3] a (λgn iv wx=>∃(k:Nat),k+gn=a/\iv=.int .i64 k/\wx=w)
 case atStart=>exact⟨0,by omega,rfl,rfl⟩
 case round =>
  obtain⟨k,gu,rfl,rfl⟩:=hrel;obtain⟨G1,ze⟩:∃G1,G1=gk:=⟨_,rfl⟩;by_cases au:k<a
  .have hk:k<s.size:=(by omega);have hd:decide ((k:Int)<(s.size:Int))=true:=(by simp;omega);have aH:=uh H2 k au hk;go_wp2_with fail
   go_roundg (G1-1)
   case rel=>exact⟨k+1,by omega,by go_num,rfl⟩
   case measure=>omega
  .have hka:k=a:=(by omega);subst hka;have hd:decide ((k:Int)<(s.size:Int))=true:=(by simp;omega);have aH:=uh H3 h1;go_wp2_with fail
   go_ret;exact⟨rfl,rfl⟩
def V3(c:UInt8):Bool:=iX c.toNat
def shU(k:Nat)(c:UInt8):UInt8:=UInt8.ofNat (97+(c.toNat-97+k)%26)
theorem V4{c:UInt8}:V3 c=true↔97<=c.toNat/\c.toNat<=122:=by
 unfold V3 iX;rw[Bool.and_eq_true,decide_eq_true_eq,decide_eq_true_eq];omega
theorem VW(k:Nat)(c:UInt8):(shU k c).toNat=97+(c.toNat-97+k)%26:=by
 unfold shU;have:(c.toNat-97+k)%26<26:=Nat.mod_lt _ (by omega);rw[UInt8.toNat_ofNat'];exact Nat.mod_eq_of_lt (by omega)
theorem abP(k:Nat)(c:UInt8):V3 (shU k c)=true:=by
 rw[V4,VW];have:(c.toNat-97+k)%26<26:=Nat.mod_lt _ (by omega);omega
def rnL(k:Nat)(f:Bool)(x:List UInt8):List UInt8 :=
 match x with
 |[c]=>if V3 c&&!f then [shU k c] else [c]
 |x=>x
def rnW(k:Nat):Bool->List (List UInt8)->List (List UInt8)
 |_,[]=>[]
 |f,x::r=>rnL k f x::rnW k (decide (x=[46])) r
def rnB(k:Nat)(ws:List ByteArray):List ByteArray:=(rnW k false (ws.map (·.data.toList))).map (λx=>⟨x.toArray⟩)
def rnS(k:Nat)(s:PS):PS:={ s with vars:=s.vars.map (shU k) }
theorem JD(k:Nat):∀(L:List (List UInt8)) (f:Bool) (i:Nat),(rnW k f L)[i]?=(L[i]?).map (rnL k (if i=0 then f else decide (L[i-1]?=some [46])))
 |[],f,i=>by simp[rnW]
 |x::r,f,0=>by simp[rnW]
 |x::r,f,i+1=>by
  simp only[rnW,getElem?_cons_succ];rw[JD k r];cases i with
  |zero=>simp
  |succ i=>simp
def ptB(ws:List ByteArray)(s:PS):Bool:=if s.pos=0 then false else decide ((ws.map (·.data.toList))[s.pos-1]?=some [46])
theorem ahq(k:Nat)(ws:List ByteArray)(s:PS):(pk (rnB k ws) (rnS k s)).data.toList=rnL k (ptB ws s) (pk ws s).data.toList:=by
 unfold pk;rw[show(rnS k s).failed=s.failed from rfl,show(rnS k s).pos=s.pos from rfl];split
 .rfl
 .unfold rnB;rw[getElem?_map,JD];unfold ptB;rw[show(List.map (λx:ByteArray=>x.data.toList) ws)[s.pos]?=(ws[s.pos]?).map (λx:ByteArray=>x.data.toList) from getElem?_map ..];cases hw:ws[s.pos]? with
  |none=>rfl
  |some x=>rfl
theorem VR{k:Nat}{f:Bool}{x key:List UInt8}(hk:∀c,key=[c]->V3 c=false):rnL k f x=key↔x=key:=by
 unfold rnL;split
 .rename_i c;split
  .rename_i h;have hc:V3 c=true:=(by rw[Bool.and_eq_true]at h;exact h.1);constructor
   .intro e;have:=hk _ e.symm;rw[abP]at this;cases this
   .intro e;have:=hk _ e.symm;rw[hc]at this;cases this
  .exact Iff.rfl
 .exact Iff.rfl
def Key(w:ByteArray):Prop:=(∀c,w.data.toList=[c]->V3 c=false)/\w.data.toList≠[46]
section
variable {k:Nat} {ws:List ByteArray} {s:PS}
theorem He{key:ByteArray}:bK ws key s=true↔(pk ws s).data.toList=key.data.toList:=by
 unfold bK;rw[beq_iff_eq,ByteArray.toList_eq,ByteArray.toList_eq]
theorem YQ{key:ByteArray}(hk:∀c,key.data.toList=[c]->V3 c=false):bK (rnB k ws) key (rnS k s)=bK ws key s:=by
 rw[Bool.eq_iff_iff,He,He,ahq,VR hk]
structure RnI(ws:List ByteArray)(s:PS):Prop where
 nd:s.failed=true\/ptB ws s=false
 sv:∀c∈s.vars,V3 c=true
def aaO(w:ByteArray):Bool:=(match w.data.toList with|[c]=>!V3 c|_=>true)&&!(w.data.toList==[46])&&!(w.data.toList==[])
theorem aaP{w:ByteArray}(h:aaO w=true):Key w/\w.data.toList≠[]:=by
 unfold aaO at h;rw[Bool.and_eq_true,Bool.and_eq_true]at h;obtain⟨⟨h1,h2⟩,h3⟩:=h;refine⟨⟨λc hc=>?_,λe=>?_⟩,λe=>?_⟩
 .rw[hc]at h1;simpa using h1
 .rw[e]at h2;exact absurd h2 (by decide)
 .rw[e]at h3;exact absurd h3 (by decide)
theorem ke{key:ByteArray}(hk:aaO key=true):bK (rnB k ws) key (rnS k s)=bK ws key s:=YQ (aaP hk).1.1
def Sb(k:Nat)(ws:List ByteArray)(b' b:PS->PS):Prop:=∀s,RnI ws s->b' (rnS k s)=rnS k (b s)/\RnI ws (b s)
variable {b' b:PS->PS}
end
structure Sol(w0 w:World)(Y X:Nat)(s:ByteArray)(ws:List ByteArray)(G:List Nat):Prop where
 dk:Dsk w Y X s
 p:vf w X ws G
 y:Y ∉ G
 b:∀k∈G,w0.heap.size<=k
 bw:Below w0.heap.size w0 w
section
variable {w0 w w':World} {Y X:Nat} {s:ByteArray} {ws:List ByteArray} {G G':List Nat}
theorem Sol.below(h:Sol w0 w Y X s ws G)(hb:Below w.heap.size w w'):Sol w0 w' Y X s ws G :=
 ⟨Bk.below h.dk hb,h.p.below hb,h.y,h.b,h.bw.trans (hb.mono h.bw.size)⟩
end
theorem V2{s:ByteArray}{A R:List UInt8}(hs:s.data.toList=A++123::R){k n:Nat}(hk:k=A.length+1)(hn:n=s.size):
  s.extract 0 k++⟨#[115,107,105,112,59]⟩++s.extract k n=⟨(A++123::(JG++R)).toArray⟩:=by
 have hl:s.size=A.length+1+R.length:=by rw[<-bU,hs];simp;omega
 have e1:(s.extract 0 k).data.toList=A++[123]:=by
  rw[<-ByteArray.toList_eq,Lib.extract_toList,hs,hk,drop_zero,Nat.sub_zero,show A++123::R=(A++[123])++R by simp];exact take_left' (by simp)
 have e2:(s.extract k n).data.toList=R:=by
  rw[<-ByteArray.toList_eq,Lib.extract_toList,hs,hk,hn,hl,show A++123::R=(A++[123])++R by simp,drop_left' (by simp)];exact take_of_length_le (by omega)
 have key:∀b:ByteArray,b=⟨b.data.toList.toArray⟩:=λb=>by cases b;simp
 rw[key (s.extract 0 k),key (s.extract k n),e1,e2,show(⟨#[115,107,105,112,59]⟩:ByteArray)=⟨[115,107,105,112,59].toArray⟩ from rfl,aey,aey];unfold JG;simp
section
variable {w0 w:World} {Y X:Nat} {s:ByteArray} {ws ws2:List ByteArray} {G:List Nat} {A R:List UInt8}
theorem D8 (hS:Sol w0 w Y X s ws G) (hA:SU ws) (jO:(fy ws bt).nodes.length<=100000) (hs:s.data.toList=A++123::R) (hnA:123 ∉ A) (hz:s.size<=240) (hr:qe (A++123::(JG++R))=ws2)
  (hE:(A++123::(JG++R)).length<=240->mP (A++123::(JG++R))=0/\SU ws2/\(fy ws2 bt).nodes.length=(fy ws bt).nodes.length+1/\((vp ws).vd≠2->(vp ws2).vd≠2->(vp ws2).al=BQ 1 (vp ws).al/\(vp ws2).vd=(vp ws).vd)) :
  Calls prog 21 #[.pointer (some ⟨Y,0,none⟩)] w λe w'=>e=.returned (.bool true)/\Below w0.heap.size w0 w':=by
 have c1:w.cell? ⟨Y,1,none⟩=some (.string s):=hS.dk.cell 1 rfl;have yr:s.size=A.length+1+R.length:=by rw[<-bU,hs];simp;omega
 obtain⟨k,hk⟩:∃k,k=A.length+1:=⟨_,rfl⟩;have hkz:k<=s.size:=by omega
 have ek:(A.length:Int)+1=(k:Int):=by omega
 have yC:=ab (Kh (s:=s) (A:=A) w hs hnA (by omega));rw[ek]at yC;have HTX:=ab (V2 (n:=s.size) hs hk rfl);obtain⟨T,hT⟩:∃T,T=A++123::(JG++R):=⟨_,rfl⟩;have Sz:T.length<=1000:=by rw[hT];unfold JG;simp;omega
 rw[<-hT]at HTX hr hE;have HSD:Hid (∀n,Sol w0 (w.drewN n) Y X s ws G):=ab (λn=>hS.below (dJ w n));have HA:=ab hA;have HR:=ab hr;have HEE:=ab hE;clear hS hA hr hE hs hnA hk hT ek yr;go_enter func21,ntmps21;go_wp2_with fail
 refine(uh yC).mono ?_;rintro e w ⟨rfl,rfl⟩;clear yC;have q1:(0:Int)<=(k:Int):=by omega
 have q2:(k:Int)<=(s.size:Int):=by omega
 go_wp2_with fail
 go_quiet (fail)
 rw[uh HTX];clear HTX c1;by_cases aqN:240<T.length
 .have d0:decide ((240:Int)<(T.length:Int))=true:=by simp;omega
  have HB:Hid (∀n,Below w0.heap.size w0 (w.drewN n)):=ab (λn=>(uh HSD n).bw);clear HEE HSD;go_wp2_with fail
  go_ret;exact⟨rfl,uh HB _⟩
 .have d0:decide ((240:Int)<(T.length:Int))=false:=by simp;omega
  obtain⟨hE0,Ue,hnn,agJ⟩:=uh HEE (by omega);have HLD:Hid (∀W,_):=ab (λW=>DF ⟨T.toArray⟩ W (by show T.toArray.size<=20000;simp;omega));have HE0:=ab hE0;have lM:=ab Ue;have uW:=ab hnn;have HSY:=ab agJ;clear hE0 Ue HEE hnn agJ;go_wp2_with fail
  refine(uh HLD _).mono ?_;rintro e w3 ⟨dx,⟨alG,-⟩|⟨-,X2,rfl,hL⟩⟩
  .exact absurd (uh HE0) alG
  .rw[uh HR]at hL;have hSr:uI T=fy ws2 bt:=(by unfold uI;rw[uh HR]);rw[hSr]at hL;obtain⟨G3,hG3,Uz⟩:=hL.prg;have hD:R4 w0 w3 Y X X2 s ws ws2 G G3:=by
    have h0:=uh HSD nq;have h1:=h0.below dx;exact⟨h1.dk,h1.p,hG3,h1.y,λhm=>by have:=Uz _ hm;have:=Bk.lt h0.dk;omega,λk hk mK=>by have:=Uz _ mK;have:=h0.p.lt k hk;omega,h1.b,λk hk=>by have:=Uz k hk;have:=h0.bw.size;omega,h1.bw⟩
   have c3:w3.cell? ⟨Y,0,none⟩=some (.pointer (some ⟨X,0,none⟩)):=hD.dk.cell 0 rfl;have HV:=ab (hD.p1.verdict (uh HA));obtain⟨vd,hvd⟩:∃vd,vd=(vp ws).vd:=⟨_,rfl⟩;rw[<-hvd]at HV HSY;have HD:=ab hD;clear dx hL hSr hG3 Uz hD HLD HR HE0 HSD d0 hvd;go_wp2_with fail
   refine(uh HV).mono ?_;rintro e w4 ⟨rfl,G4,ha⟩;have hD4:=(uh HD).ask1 ha;have YB:=ab (hD4.p2.verdict (uh lM));obtain⟨vd2,agZ⟩:∃vd2,vd2=(vp ws2).vd:=⟨_,rfl⟩;rw[<-agZ]at YB HSY;have MH:=ab hD4;clear hD4 ha HV HD c3 agZ;go_wp2_with fail
   refine(uh YB).mono ?_;rintro e w5 ⟨rfl,G5,ha⟩;have Ui:=(uh MH).ask2 ha;have c5:w5.cell? ⟨Y,0,none⟩=some (.pointer (some ⟨X,0,none⟩)):=Ui.dk.cell 0 rfl;have Yb:=ab (Ui.p1.alarms (uh HA));have HD5:=ab Ui;clear Ui ha YB MH;go_wp2_with fail
   refine(uh Yb).mono ?_;rintro e w6 ⟨v1,rfl,ur,-,G6,ha⟩;have hD6:=(uh HD5).ask1 ha;have afv:X2<w5.heap.size:=(uh HD5).p2.lt X2 (uh HD5).p2.mem;have ady:=ab (hD6.p2.alarms (uh lM));have HD6:=ab (zq2 hD6 ur);clear hD6 ur ha Yb HD5 c5;go_wp2_with fail
   refine(uh ady).mono ?_;rintro e w7 ⟨v2,rfl,j9,-,G7,ha⟩;have ur:=VS (uh HD6).2 afv ha.st;have ZB:=(uh HD6).1.ask2 ha;have c7:w7.cell? ⟨Y,0,none⟩=some (.pointer (some ⟨X,0,none⟩)):=ZB.dk.cell 0 rfl;have HN7:=ab ZB.p1.nodes;have Yi:=ab (zq2 ZB (zq2 ur j9));clear ZB ur j9 ha ady HD6 afv;go_wp2_with fail
   refine(uh HN7).mono ?_;rintro e w8 ⟨rfl,n8,rfl⟩;have hD8:=(uh Yi).1.below (dJ w7 n8);have aav:=eY (uh Yi).2.1 (dJ w7 n8);have aax:=eY (uh Yi).2.2 (dJ w7 n8);obtain⟨W8,ZX⟩:∃W8,W8=w7.drewN n8:=⟨_,rfl⟩;rw[<-ZX]at hD8 aav aax ⊢;have HN8:=ab hD8.p2.nodes;have HD8:=ab (zq2 hD8 (zq2 aav aax));clear hD8 aav aax ZX HN7 Yi c7;go_wp2_with fail
   refine(uh HN8).mono ?_;rintro e w9 ⟨rfl,n9,rfl⟩;have hD9:=(uh HD8).1.below (dJ W8 n9);have aaw:=eY (uh HD8).2.1 (dJ W8 n9);have aay:=eY (uh HD8).2.2 (dJ W8 n9);obtain⟨W9,hW9⟩:∃W9,W9=W8.drewN n9:=⟨_,rfl⟩;rw[<-hW9]at hD9 aaw aay ⊢;obtain⟨N,hN⟩:∃N,N=(fy ws bt).nodes.length:=⟨_,rfl⟩;obtain⟨M,hM⟩:∃M,M=(fy ws2 bt).nodes.length:=⟨_,rfl⟩;have hMN:M=N+1:=(by rw[hM,hN];exact uh uW);have yF:=ab (wY 1 (by omega) aaw aay (λp hp=>by have:=YS p hp;omega));rw[<-hN]at jO ⊢;rw[<-hM];have J1:=ab hD9;have dm:((M:Int)==(N:Int)+1)=true:=(by simp;omega);clear hD9 aaw aay hW9 HN8 HD8 hN hM hMN uW;by_cases hv:vd=2
   .subst hv;have HN:=ab (uh J1).bw;clear yF HSY J1;go_wp2_with fail
    go_ret;exact⟨by simp,uh HN⟩
   .by_cases AJ:vd2=2
    .subst AJ;have dv:((vd:Int)==(2:Int))=false:=(by simp;omega);have HN:=ab (uh J1).bw;clear yF HSY J1;go_wp2_with fail
     go_ret;exact⟨by simp,uh HN⟩
    .have dv:((vd:Int)==(2:Int))=false:=(by simp;omega);have dv2:((vd2:Int)==(2:Int))=false:=(by simp;omega);obtain⟨g1,g2⟩:=uh HSY hv AJ;subst g2;have HN:Hid (∀n,Below w0.heap.size w0 (W9.drewN n)):=ab (λn=>((uh J1).below (dJ W9 n)).bw);rw[g1,decide_eq_true rfl]at yF;clear HSY J1 g1;go_wp2_with fail
     refine(uh yF).mono ?_;rintro e w10 ⟨rfl,n10,rfl⟩;have ad3:=ab (uh HN n10);obtain⟨W10,qF⟩:∃W10,W10=W9.drewN n10:=⟨_,rfl⟩;rw[<-qF]at ad3 ⊢;clear yF HN qF;go_wp2_with fail
     go_ret;exact⟨by simp,uh ad3⟩
end
open Go.ChangeShapes Go.WideShapes Go.ChangeAt Go.RowKit Go.ChangeMaps
set_option linter.unusedVariables false
theorem M0{l:List UInt8}{ws:List ByteArray}(h:mP l=0)(e:qe l=ws):SU ws:=by
 subst e;exact Hl h
theorem own:ownKnob prog.godebug=none:=by kernel_rfl
theorem walk(s:ByteArray)(w:World):Calls prog 9 #[.string s] w λe w'=>e=.returned (.bool true)/\Below w.heap.size w w':=by
 have HD:=ab (NK s w);go_enter func9,ntmps9;go_wp2_with fail
 refine(uh HD).mono ?_;rintro e w1 ⟨hb,⟨-,rfl⟩|⟨hs,hE,Y,X,G,rfl,h1,h2,h3,h4,h5⟩⟩
 .have HB:=ab hb;clear hb HD;go_wp2_with fail
  go_ret;exact⟨rfl,uh HB⟩
 .have hA:=Hl hE;obtain⟨A,B,W,f,b,k,hc,hf,aW,hw⟩:=abE hE;obtain⟨t1,t2⟩:=TH hc hf aW hE hw;have HAG:=ab (D8 (w0:=w) (ws2:=bM f (aD::fE::b)) (R:=B++125::W) ⟨h1,h4,h3,h5,hb⟩ hA hA.l hc.e hc.a (by omega) t1 (λhl=>by
   have Ue:SU (bM f (aD::fE::b)):=M0 (t2 hl) t1;have hA1:SU (bM f b):=(by rw[<-hw];exact hA);obtain⟨g1,g2⟩:=Rn hf aW hA1 Ue;rw[<-hw]at g1 g2;exact⟨t2 hl,Ue,g1,g2⟩))
  clear hb HD h1 h2 h3 h4 h5 hA hE;go_wp2_with fail
  refine(uh HAG).mono ?_;rintro e w2 ⟨rfl,aW⟩;have HB:=ab aW;clear aW HAG;go_wp2_with fail
  go_ret;exact⟨rfl,uh HB⟩
theorem lifted(os:Go.Os)(started:os.Started)(H:Type)(enc:TypeId × Value->H):
  ReturnsInHanded {} Tryz.checked os 9 .any (Rows.skippedSpec.pre6 enc prog Tryz.f9 Rows.skippedRow.domain false) (Rows.skippedSpec.post enc prog Tryz.f9 false true false false):=by
 refine returnsInHanded_of_change (C:=Tryz.checked) own started (by kernel_rfl) func9
  (ChangeSpec.witness6 (enc:=enc) (C:=Tryz.checked) false ⟨#[],#[.string ⟨#[]⟩],[]⟩ 8 (by kernel_rfl) (by kernel_rfl) (by kernel_rfl) (by kernel_rfl)) ?_
 intro W base args ds gs before agY hW arn _;have agX:∀(j:Nat) t v,Tryz.f9.params[j]?=some t->args[j]?=some v->Value.okWide prog W .any base t v:=agY;have hW':=hW;obtain⟨p,q,Ch,hV,rfl,hfz,dF⟩:=hW;have hA:DataW.TrodAll enc prog W 0 (λ_=>true) true Tryz.f9.params.toList args.toList ds p:=Ch;rw[Tryz.params9]at hA agX;obtain⟨v0,vs0,d0,ds0,p0,q0,aoO,rfl,rfl,h0,r0⟩:=trodAll_cons hA;obtain⟨rfl,rfl,rfl⟩:=trodAll_nil r0;obtain rfl:args=#[v0]:=by cases args;simp_all
 obtain⟨rfl,rfl⟩:=trodVars_none hV;obtain⟨s,rfl,rfl,rfl,hs⟩:=open_string underlying9 (agX 0 9 v0 rfl rfl) h0;clear Ch;simp only[append_nil]at hW';refine(walk s W).mono λe W' ⟨he,hb⟩=>?_;subst he;exact⟨_,rfl,_,_,_,[],[],[],hW',trodAll_cons_mk (shut_bool underlying4 _) trodAll_mk0,trodAll_cons_mk (shut_string underlying9 hs) trodAll_mk0,rfl,hb.frame _,λh=>by cases h⟩
theorem over:Rows.skippedRow.holds Tryz.pinned (OpenSpec.ofChange Rows.skippedSpec) :=
 OpenClaim.holds_of_wide 9 Tryz.f9 rfl rfl rfl rfl rfl rfl rfl ⟨rfl,rfl,rfl,rfl,rfl⟩ rfl rfl rfl rfl rfl (by kernel_rfl) func9 (by kernel_rfl)
  (of_decide_eq_true (by kernel_rfl)) (by unfold Func.isWrapper;first|(rw[if_pos (by decide +kernel)];kernel_rfl)|(rw[if_neg (by decide +kernel)];exact⟨rfl,rfl⟩))
  (λos started H enc _=>lifted os started H enc)
theorem skipped_proved:Rows.SkippedSaid:=over
#print axioms skipped_proved
