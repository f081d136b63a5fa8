import Derived.Test.YtciihepbeacppaaGreatWX
import Derived.Laws.OwnMore
set_option maxRecDepth 100000
set_option maxHeartbeats 0
namespace Go.Proofs.YtciihepbeacppaaGreat
open Tryz Go.RowKit List World Below
set_option linter.unusedVariables false
def TN(p:Pr):List Value:=[.int .i64 p.k,.int .i64 p.l,.int .i64 p.r]
def aj(l:List Pr):List Value:=l.flatMap TN
def eH:Option Nat->Int
 |none=>-1
 |some n=>n
def aW(l:List (Option Nat)):List Value:=l.map (λo=>Value.int .i64 (eH o))
theorem ec(a b:List Pr):aj (a++b)=aj a++aj b:=by simp[aj]
theorem OE{l:List Pr}{k:Nat}(h:k<l.length):(aj l)[k*3]?=some (.int .i64 l[k].k)/\(aj l)[k*3+1]?=some (.int .i64 l[k].l)/\(aj l)[k*3+2]?=some (.int .i64 l[k].r):=by
 induction l generalizing k with
 |nil=>simp at h
 |cons x l ih =>
  have hx:aj (x::l)=[Value.int .i64 x.k,.int .i64 x.l,.int .i64 x.r]++aj l:=rfl;cases k with
  |zero=>rw[hx];simp
  |succ k =>
   have:=ih (k:=k) (by simpa using h);rw[hx,show(k+1)*3=k*3+3 by omega];simp only[getElem_cons_succ];refine⟨?_,?_,?_⟩
   .rw[getElem?_append_right (by simp)];simpa using this.1
   .rw[getElem?_append_right (by simp)];simpa[show k*3+3+1-3=k*3+1 by omega] using this.2.1
   .rw[getElem?_append_right (by simp)];simpa[show k*3+3+2-3=k*3+2 by omega] using this.2.2
theorem bn{w:World}{B:Nat}{v:Value}{l:List Pr}(h:w.ownsRow B 182 3 v l.length (aj l)):
  ∃ao cap,v=.slice ao l.length cap/\cap<=maxLen/\l.length<=cap/\(l≠[]->∃g,ao=some ⟨g,0,none⟩/\∀j,(h:j<l.length)->w.cell? ⟨g,j*3,none⟩=some (.int .i64 l[j].k)/\w.cell? ⟨g,j*3+1,none⟩=some (.int .i64 l[j].l)/\w.cell? ⟨g,j*3+2,none⟩=some (.int .i64 l[j].r)):=by
 have hw:=h;rcases h.2 with⟨rfl,h0⟩|⟨g,cap,cur,rfl,_,_,hn,hm,_,_⟩
 .have:l=[]:=eq_nil_of_length_eq_zero h0;subst this;exact⟨_,_,rfl,by simp,by simp,λh=>absurd rfl h⟩
 .refine⟨_,_,rfl,hm,hn,λ_=>⟨g,rfl,λj hj=>?_⟩⟩;have hg:=OE hj;exact⟨(hw.cellAt _ (by omega)).trans hg.1,(hw.cellAt _ (by omega)).trans hg.2.1,(hw.cellAt _ (by omega)).trans hg.2.2⟩
def eR(f:CF)(i:Nat):Value:=.int .i64 ((f.cl.getD i 0:Nat):Int)
def gP(f:CF)(av ov:Value):List Value:=[eR f 0,eR f 1,eR f 2,eR f 3,eR f 4,av,ov]
def Ob(w:World)(T n A:Nat)(xs:List Value):Prop:=w.ownsRow 0 T n (.slice (some ⟨A,0,none⟩) 1 1) 1 xs
structure dm(w:World)(A:Nat)(f:CF)(av ov:Value):Prop where
 ob:Ob w 179 7 A (gP f av ov)
 ap:w.ownsRow 0 182 3 av f.ap.length (aj f.ap)
 ow:w.ownsRow 0 182 3 ov f.ow.length (aj f.ow)
def aG(A:Nat)(av ov:Value):List Nat:=A::(av.ownBlock.toList++ov.ownBlock.toList)
theorem Ob.of_eq{w w':World}{T n A:Nat}{xs:List Value}(h:Ob w T n A xs)(he:w'.heap[A]?=w.heap[A]?):Ob w' T n A xs :=
 ae h (λk hk=>by cases hk;exact he)
theorem dm.of_eq{w w':World}{A:Nat}{f:CF}{av ov:Value}(h:dm w A f av ov)(he:∀k∈aG A av ov,w'.heap[k]?=w.heap[k]?):dm w' A f av ov :=
 ⟨h.ob.of_eq (he A (by simp[aG])),ae h.ap (λk hk=>he k (by simp[aG,hk])),ae h.ow (λk hk=>he k (by simp[aG,hk]))⟩
theorem dm.lt{w:World}{A:Nat}{f:CF}{av ov:Value}(h:dm w A f av ov):∀k∈aG A av ov,k<w.heap.size:=by
 intro k hk;simp only[aG,mem_cons,mem_append,Option.mem_toList]at hk;rcases hk with rfl|hk|hk
 .exact(ownsRow.lt h.ob _ rfl).2
 .exact(h.ap.lt k hk).2
 .exact(h.ow.lt k hk).2
theorem dm.drewN{w:World}{A:Nat}{f:CF}{av ov:Value}(h:dm w A f av ov)(n:Nat):dm (w.drewN n) A f av ov:=h.of_eq (λ_ _=>by simp)
theorem dm.alloc{w:World}{A:Nat}{f:CF}{av ov:Value}(h:dm w A f av ov)(o:Obj):dm (w.alloc o) A f av ov:=h.of_eq (λk hk=>heap_alloc _ _ _ (h.lt k hk))
theorem dm.cls{w:World}{A:Nat}{f:CF}{av ov:Value}(h:dm w A f av ov){i:Nat}(hi:i<5):w.cell? ⟨A,i,none⟩=some (eR f i):=by
 have:=ownsRow.cellAt h.ob i (by omega);rw[this];have hk:i=0\/i=1\/i=2\/i=3\/i=4:=by omega
 rcases hk with rfl|rfl|rfl|rfl|rfl <;> rfl
theorem dm.c5{w:World}{A:Nat}{f:CF}{av ov:Value}(h:dm w A f av ov):w.cell? ⟨A,5,none⟩=some av:=ownsRow.cellAt h.ob 5 (by omega)
theorem dm.c6{w:World}{A:Nat}{f:CF}{av ov:Value}(h:dm w A f av ov):w.cell? ⟨A,6,none⟩=some ov:=ownsRow.cellAt h.ob 6 (by omega)
theorem Q6{l:List Pr}{c k:Nat}(hk:k<l.length)(hn:∀j,(hj:j<l.length)->j<k->l[j].l≠c)(h:l[k].l=c):dJ l c=some k:=by
 induction l generalizing k with
 |nil=>simp at hk
 |cons x r ih =>
  cases k with
  |zero=>simp only[getElem_cons_zero]at h;simp[dJ,h]
  |succ k =>
   have h0:x.l≠c:=hn 0 (by simp) (by omega);simp only[dJ,if_neg h0];rw[ih (k:=k) (by simpa using hk) (λj hj CU=>hn (j+1) (by simpa using hj) (by omega)) (by simpa using h)];rfl
theorem Ld{l:List Pr}{c:Nat}(hn:∀j,(hj:j<l.length)->l[j].l≠c):dJ l c=none:=by
 induction l with
 |nil=>rfl
 |cons x r ih =>
  have h0:x.l≠c:=hn 0 (by simp);simp only[dJ,if_neg h0];rw[ih (λj hj=>hn (j+1) (by simpa using hj))];rfl
theorem aU{a b:Nat}:((a:Int)==(b:Int))=decide (a=b):=by
 rw[Bool.eq_iff_iff,beq_iff_eq,decide_eq_true_eq];omega
theorem cj{w:World}{A:Nat}{f:CF}{av ov:Value}(c:Nat)(h:dm w A f av ov):
  Calls prog 208 #[.pointer (some ⟨A,0,none⟩),.int .i64 c] w λe w'=>e=.returned (.int .i64 (eH (dJ f.ow c)))/\w'=w:=by
 obtain⟨ao,cap,dB,hm,wV,hc⟩:=bn h.ow;have h6:=h.c6;rw[dB]at h6;have HC:=ab hc;clear hc h dB;unfold maxLen at hm;go_enter func208,ntmps208;go_wp2_with fail
 go_loop [5] (λi=>∃k:Nat,k<=f.ow.length/\i=.int .i64 k/\Hid (∀j,(hj:j<f.ow.length)->j<k->f.ow[j].l≠c)) (λi=>f.ow.length-(intOf i).toNat)
 case atStart=>exact⟨0,zq5 _,rfl,λ_ _ h=>absurd h (by omega)⟩
 case round =>
  obtain⟨k,hk,rfl,cP⟩:=hrel;by_cases ar:k<f.ow.length
  .obtain⟨g,jm,aq⟩:=uh HC (by intro h;rw[h]at ar;simp at ar);have uK:=(aq k ar).2.1;clear aq;rw[jm]at h6;cases he:((f.ow[k].l:Int)==(c:Int)) with
   |true =>
    go_wp2_with fail
    go_ret;exact⟨aQ (by rw[Q6 ar cP.out (by rw[aU]at he;simpa using he)];rfl),rfl⟩
   |false =>
    go_wp2_with fail
    go_round
    case rel =>
     refine⟨k+1,by omega,by go_num,λj hj CU=>?_⟩;by_cases YK:j=k
     .subst YK;intro e;rw[aU]at he;simp[e]at he
     .exact cP.out j hj (by omega)
    case measure=>simp[intOf];omega
  .have hd:decide ((k:Int)<(f.ow.length:Int))=false:=(by simp;omega);go_wp2_with fail
   go_ret;exact⟨aQ (by rw[Ld (λj hj=>cP.out j hj (by omega))];rfl),rfl⟩
theorem pX(o:Option Nat):decide ((0:Int)<=eH o)=o.isSome:=by cases o <;> simp[eH]
theorem ww{w:World}{A:Nat}{f:CF}{av ov:Value}(a b:Nat)(h:dm w A f av ov):
  Calls prog 222 #[.pointer (some ⟨A,0,none⟩),.int .i64 a,.int .i64 b] w λe w'=>e=.returned (.bool (qJ f a b))/\w'=w:=by
 have HA:=ab (cj a h);have HB:=ab (cj b h);have h0:=h.cls (i:=0) (by omega);unfold eR at h0;obtain⟨c0,rI⟩:∃c0,c0=f.cl.getD 0 0:=⟨_,rfl⟩;rw[<-rI]at h0;have HC:=ab rI;clear h rI;go_enter func222,ntmps222;go_wp2_with fail
 refine(uh HA).mono ?_;rintro e w1 ⟨rfl,rfl⟩;have wT:=pX (dJ f.ow a);cases h1:(dJ f.ow a).isSome <;> rw[h1]at wT
 all_goals
  go_wp2_with fail
  refine(uh HB).mono ?_;rintro e w1 ⟨rfl,rfl⟩;have Qd:=pX (dJ f.ow b);cases h2:(dJ f.ow b).isSome <;> rw[h2]at Qd
 .go_wp2_with fail
  go_ret;exact⟨by unfold qJ;rw[h1,h2];rfl,rfl⟩
 .cases h3:((a:Int)==(c0:Int)) <;>
  .go_wp2_with fail
   go_ret;exact⟨by unfold qJ;rw[h1,h2,<-uh HC];rw[aU]at h3;simp at h3;simp[h3],rfl⟩
 .cases h3:((b:Int)==(c0:Int)) <;>
  .go_wp2_with fail
   go_ret;exact⟨by unfold qJ;rw[h1,h2,<-uh HC];rw[aU]at h3;simp at h3;simp[h3],rfl⟩
 .go_wp2_with fail
  go_ret;exact⟨by unfold qJ;rw[h1,h2];rfl,rfl⟩
def AJ(a b:Nat)(p:Pr):Bool:=(p.l==a&&p.r==b)||(p.l==b&&p.r==a)
theorem LH{f:CF}{a b k:Nat}(aM:a≠b)(hk:k<f.ap.length)(h:AJ a b f.ap[k]=true):ew f a b=true:=by
 unfold ew;rw[if_neg aM];have:f.ap.any (AJ a b)=true:=any_eq_true.2 ⟨_,getElem_mem hk,h⟩;show(f.ap.any (AJ a b)||qJ f a b)=true;rw[this];rfl
theorem LI{f:CF}{a b:Nat}(aM:a≠b)(h:∀j,(hj:j<f.ap.length)->AJ a b f.ap[j]=false):ew f a b=qJ f a b:=by
 unfold ew;rw[if_neg aM];have:f.ap.any (AJ a b)=false:=by
  rw[any_eq_false];intro p hp;obtain⟨j,hj,rfl⟩:=mem_iff_getElem.1 hp;rw[h j hj];simp
 show(f.ap.any (AJ a b)||qJ f a b)=_;rw[this];rfl
theorem jW{w:World}{A:Nat}{f:CF}{av ov:Value}(a b:Nat)(h:dm w A f av ov):
  Calls prog 245 #[.pointer (some ⟨A,0,none⟩),.int .i64 a,.int .i64 b] w λe w'=>e=.returned (.bool (ew f a b))/\Below w.heap.size w w':=by
 by_cases qo:a=b
 .subst qo;have he:((a:Int)==(a:Int))=true:=by simp
  go_enter func245,ntmps245;go_wp2_with fail
  go_ret;exact⟨by unfold ew;simp,Below.refl _ _⟩
 .have aM:((a:Int)==(b:Int))=false:=by rw[aU];simpa using qo
  obtain⟨ao,cap,eS,hm,wV,hc⟩:=bn h.ap;have h5:=h.c5;rw[eS]at h5;have HC:=ab hc;have HF:=ab h;clear hc eS h;unfold maxLen at hm;go_enter func245,ntmps245;go_wp2_with fail
  go_loopw [17] (λi wr=>∃k:Nat,k<=f.ap.length/\i=.int .i64 k/\Hid (∀j,(hj:j<f.ap.length)->j<k->AJ a b f.ap[j]=false)/\Below w.heap.size w wr) (λi _=>f.ap.length-(intOf i).toNat)
  case atStart=>exact⟨0,zq5 _,rfl,λ_ _ h=>absurd h (by omega),Below.refl _ _⟩
  case round =>
   obtain⟨k,hk,rfl,cP,bP⟩:=hrel;by_cases ar:k<f.ap.length
   .obtain⟨g,jm,aq⟩:=uh HC (by intro h;rw[h]at ar;simp at ar);subst jm;obtain⟨Aa,rK,vI⟩:=aq k ar;have c0:=(bP.cell (block_lt_of_cell? w _ Aa)).trans Aa;have c1:=(bP.cell (block_lt_of_cell? w _ rK)).trans rK;have c2:=(bP.cell (block_lt_of_cell? w _ vI)).trans vI;clear aq Aa rK vI;have HB:=ab bP;obtain⟨p,hp⟩:∃p,p=f.ap[k]:=⟨_,rfl⟩;rw[<-hp]at c0 c1 c2;have HP:=ab hp;clear bP hp;have HR:Hid (AJ a b p=true->ew f a b=true):=ab (λh=>LH qo ar (by rw[<-uh HP];exact h));have HN:Hid (AJ a b p=false->∀j,(hj:j<f.ap.length)->j<k+1->AJ a b f.ap[j]=false):=ab (λh j hj CU=>by
     by_cases e:j=k
     .subst e;rw[<-uh HP];exact h
     .exact cP.out j hj (by omega))
    have round:AJ a b p=false->(∃k_1:Nat,k_1<=f.ap.length/\Value.int IntKind.i64 ((k:Int)+1)=Value.int IntKind.i64 k_1/\Hid (∀(j:Nat) (hj:j<f.ap.length),j<k_1->AJ a b f.ap[j]=false)/\Below w.heap.size w (wr.alloc (Obj.cells #[Value.int IntKind.i64 p.k,Value.int IntKind.i64 p.l,Value.int IntKind.i64 p.r] 182)))/\f.ap.length-(intOf (Value.int IntKind.i64 ((k:Int)+1))).toNat<f.ap.length-(intOf (Value.int IntKind.i64 (k:Int))).toNat:=λh =>
     ⟨⟨k+1,by omega,by go_num,ab (uh HN h),(uh HB).alloc (uh HB).size _⟩,by simp[intOf];omega⟩
    have HRo:=ab round;clear round;cases h1:((p.l:Int)==(a:Int)) with
    |true =>
     have Qg:Hid (p.l=a):=ab (by rw[aU]at h1;simpa using h1);cases h2:((p.r:Int)==(b:Int)) with
     |true =>
      have Ek:Hid (p.r=b):=ab (by rw[aU]at h2;simpa using h2);go_wp2_with fail
      go_ret;exact⟨by rw[uh HR (by simp[AJ,uh Qg,uh Ek])];rfl,(uh HB).alloc (uh HB).size _⟩
     |false =>
      have h3:((p.l:Int)==(b:Int))=false:=(by rw[uh Qg];exact aM);have Ek:Hid (p.r≠b):=ab (by rw[aU]at h2;simpa using h2);go_wp2_with fail
      exact uh HRo (by simp[AJ,uh Qg,uh Ek,qo])
    |false =>
     have Qg:Hid (p.l≠a):=ab (by rw[aU]at h1;simpa using h1);cases h3:((p.l:Int)==(b:Int)) with
     |true =>
      have SF:Hid (p.l=b):=ab (by rw[aU]at h3;simpa using h3);cases h4:((p.r:Int)==(a:Int)) with
      |true =>
       have hra:Hid (p.r=a):=ab (by rw[aU]at h4;simpa using h4);go_wp2_with fail
       go_ret;exact⟨by rw[uh HR (by simp[AJ,uh SF,uh hra])];rfl,(uh HB).alloc (uh HB).size _⟩
      |false =>
       have hra:Hid (p.r≠a):=ab (by rw[aU]at h4;simpa using h4);go_wp2_with fail
       exact uh HRo (by simp[AJ,uh Qg,uh hra])
     |false =>
      have SF:Hid (p.l≠b):=ab (by rw[aU]at h3;simpa using h3);go_wp2_with fail
      exact uh HRo (by simp[AJ,uh Qg,uh SF])
   .have hd:decide ((k:Int)<(f.ap.length:Int))=false:=(by simp;omega);go_wp2_with fail
    refine(ww a b ((uh HF).of_eq (λk hk=>bP.block k ((uh HF).lt k hk)))).mono ?_;rintro e w1 ⟨rfl,rfl⟩;go_wp2_with fail
    go_ret;exact⟨by rw[LI qo (λj hj=>cP.out j hj (by omega))];rfl,bP⟩
def Xw(V:CF):List Nat->Nat->Nat->Prop
 |[],_,_=>False
 |[i],a,e=>(V.ow.getD i az).l=a/\(V.ow.getD i az).r=e
 |i::j::r,a,e=>(V.ow.getD i az).l=a/\Xw V (j::r) (V.ow.getD i az).r e
def ic(V T:CF)(b:Nat->Option Nat):List Nat->List Nat->Prop
 |[],fr=>fr=[]
 |k::ks,fr=>∃L rest,fr.Perm (L++rest)/\(∃a e,b (T.ow.getD k az).l=some a/\b (T.ow.getD k az).r=some e/\Xw V L a e)/\((T.ow.getD k az).k≠4->∃i,L=[i]/\(V.ow.getD i az).k≠4)/\ic V T b ks rest
theorem ic.swap{V T:CF}{b:Nat->Option Nat}{j k:Nat}{ks fr:List Nat}(h:ic V T b (j::k::ks) fr):ic V T b (k::j::ks) fr:=by
 obtain⟨L,rest,h1,h2,h3,L2,rest2,h4,h5,h6,h7⟩:=h;refine⟨L2,L++rest2,?_,h5,h6,L,rest2,List.Perm.refl _,h2,h3,h7⟩;refine h1.trans ((List.Perm.append_left L h4).trans ?_);rw[<-append_assoc,<-append_assoc];exact List.Perm.append_right rest2 perm_append_comm
theorem ic.cons{V T:CF}{b:Nat->Option Nat}{k:Nat}{ks ks':List Nat}(h:∀fr,ic V T b ks fr->ic V T b ks' fr){fr:List Nat}(hd:ic V T b (k::ks) fr):ic V T b (k::ks') fr:=by
 obtain⟨L,rest,h1,h2,h3,h4⟩:=hd;exact⟨L,rest,h1,h2,h3,h _ h4⟩
theorem ic.permK{V T:CF}{b:Nat->Option Nat}{ks ks':List Nat}(h:ks.Perm ks'):∀{fr:List Nat},ic V T b ks fr->ic V T b ks' fr:=by
 induction h with
 |nil=>intro fr h;exact h
 |cons k _ ih=>intro fr hd;exact ic.cons (λ_ h=>ih h) hd
 |swap j k r=>intro fr hd;exact ic.swap hd
 |trans _ _ h1 h2=>intro fr hd;exact h2 (h1 hd)
def qm(s:SS):List Nat:=(range s.ot.length).filter (λi=>(s.ot.getD i none).isNone)
def uP(s:SS):List Nat:=(range s.pl.length).filter (λk=>!s.pl.getD k false)
structure Wf(V T:CF)(s:SS):Prop where
 lo:s.ot.length=V.ow.length
 lp:s.pl.length=T.ow.length
 lb:s.bd.length=24
 un:s.un=(qm s).length
theorem bS{α:Type}(l:List α)(i j:Nat)(x d:α)(h:i<l.length):(l.set i x).getD j d=if i=j then x else l.getD j d:=by
 simp only[getD_eq_getElem?_getD,getElem?_set];by_cases e:i=j
 .subst e;simp[h]
 .simp[e]
theorem iK{α:Type}(l:List α)(i:Nat)(d:α):l.set i (l.getD i d)=l:=by
 apply ext_getElem?;intro n;by_cases hn:i=n
 .subst hn;by_cases h:i<l.length
  .simp[h]
  .simp[h]
 .simp[hn]
theorem iS{p q:Nat->Bool}{l:List Nat}{i:Nat}(hl:l.Nodup)(hi:i∈l)(hp:p i=true)(hq:q i=false)(h:∀j,j≠i->q j=p j):(l.filter p).Perm (i::l.filter q):=by
 induction l with
 |nil=>cases hi
 |cons a l ih =>
  have hn:=nodup_cons.1 hl;by_cases e:a=i
  .subst e;have:l.filter q=l.filter p:=filter_congr (λj hj=>h j (λe=>hn.1 (e ▸ hj)));simp[hp,hq,this]
  .have hm:i∈l:=by
    rcases mem_cons.1 hi with h|h
    .exact absurd h.symm e
    .exact h
   have h2:=h a e;cases SP:p a with
   |true =>
    rw[filter_cons_of_pos SP,filter_cons_of_pos (by rw[h2,SP])];exact(List.Perm.cons a (ih hn.2 hm)).trans (List.Perm.swap i a _)
   |false =>
    rw[filter_cons_of_neg (by simp[SP]),filter_cons_of_neg (by simp[h2,SP])];exact ih hn.2 hm
theorem AU{s:SS}{i k:Nat}(hi:i<s.ot.length)(hn:s.ot.getD i none=none){s':SS}(h:s'.ot=s.ot.set i (some k)):(qm s).Perm (i::qm s'):=by
 unfold qm;rw[h,length_set];refine iS nodup_range (mem_range.2 hi) (by rw[hn];rfl) (by rw[bS _ _ _ _ _ hi];simp) (λj hj=>?_);rw[bS _ _ _ _ _ hi,if_neg (λe=>hj e.symm)]
theorem Hv{s:SS}{k:Nat}(hk:k∈uP s){s':SS}(h:s'.pl=s.pl.set k true):(uP s).Perm (k::uP s'):=by
 have h1:=mem_filter.1 hk;have hi:=mem_range.1 h1.1;unfold uP;rw[h,length_set];refine iS nodup_range h1.1 h1.2 (by rw[bS _ _ _ _ _ hi];simp) (λj hj=>?_);rw[bS _ _ _ _ _ hi,if_neg (λe=>hj e.symm)]
def Ext(s s':SS):Prop:=∀c a,s.b c=some a->s'.b c=some a
theorem jr{l:List Pr}{c i:Nat}(h:dJ l c=some i):i<l.length/\(l.getD i az).l=c:=by
 induction l generalizing i with
 |nil=>cases h
 |cons p r ih =>
  simp only[dJ]at h;split at h
  .cases h;exact⟨by simp,by simpa⟩
  .obtain⟨j,hj,rfl⟩:=Option.map_eq_some_iff.1 h;have:=ih hj;exact⟨by simp;omega,by simpa using this.2⟩
theorem Lh{T:CF}{s:SS}:∀{l:List Nat} {o:Option Nat} {k:Nat},PY T s l o=some k->(k∈l/\s.pl.getD k false=false)\/o=some k:=by
 intro l;induction l with
 |nil=>intro o k h;exact zq1 h
 |cons a l ih =>
  intro o k h;simp only[PY]at h;split at h
  .rcases ih h with h1|h1
   .exact zq0 ⟨by simp[h1.1],h1.2⟩
   .exact zq1 h1
  .rename_i hp;split at h
   .cases h;exact zq0 ⟨by simp,by simpa using hp⟩
   .rcases ih h with h1|h1
    .exact zq0 ⟨by simp[h1.1],h1.2⟩
    .split at h1
     .exact zq1 h1
     .cases h1;exact zq0 ⟨by simp,by simpa using hp⟩
theorem AC{T:CF}{s:SS}{k:Nat}(h:Xx T s=some k):k∈uP s:=by
 rcases Lh h with h1|h1
 .exact mem_filter.2 ⟨h1.1,by rw[h1.2];rfl⟩
 .cases h1
def Rm(T:CF):Prop:=∀p∈T.ow,p.l<24/\p.r<24
theorem Rm.at{T:CF}(h:Rm T)(k:Nat):(T.ow.getD k az).l<24/\(T.ow.getD k az).r<24:=by
 by_cases hk:k<T.ow.length
 .have:T.ow.getD k az=T.ow[k]:=by simp[hk]
  rw[this];exact h _ (getElem_mem hk)
 .simp[getD_eq_getElem?_getD,getElem?_eq_none (Nat.le_of_not_lt hk),az]
def Xl(V T:CF)(W:SS->Nat->Nat->Nat->Bool × SS):Prop :=
 ∀s k at_ count,Wf V T s->k∈uP s->(uP s).length+count=T.ow.length->∀b s',W s k at_ count=(b,s') ->
  (b=false->s'={ s with st:=s'.st }) /\
  (b=true->Ext s s'/\Ka V T s'=true/\s'.bd.length=24/\∃L rest,(qm s).Perm (L++rest)/\(∃e,s'.b (T.ow.getD k az).r=some e/\Xw V L at_ e)/\((T.ow.getD k az).k≠4->∃i,L=[i]/\(V.ow.getD i az).k≠4)/\ic V T s'.b ((uP s).erase k) rest)
def Xh(V T:CF)(P:SS->Nat->Bool × SS):Prop :=
 ∀s count,Wf V T s->(uP s).length+count=T.ow.length->∀b s',P s count=(b,s') ->
  (b=false->s'={ s with st:=s'.st }) /\
  (b=true->Ext s s'/\Ka V T s'=true/\s'.bd.length=24/\ic V T s'.b (uP s) (qm s))
theorem sP{V T:CF}{b:Nat->Option Nat}{U fr L rest:List Nat}{k a:Nat}(hk:k∈U)(h1:fr.Perm (L++rest))(ha:b (T.ow.getD k az).l=some a)(h2:∃e,b (T.ow.getD k az).r=some e/\Xw V L a e)(h3:(T.ow.getD k az).k≠4->∃i,L=[i]/\(V.ow.getD i az).k≠4)(h4:ic V T b (U.erase k) rest):ic V T b U fr:=by
 refine ic.permK (perm_cons_erase hk).symm ⟨L,rest,h1,?_,h3,h4⟩;obtain⟨e,he,hc⟩:=h2;exact⟨a,e,ha,he,hc⟩
theorem ZO{V T:CF}{W:SS->Nat->Nat->Nat->Bool × SS}(hW:Xl V T W){k left count:Nat}(hl:left<24)(iA:left=(T.ow.getD k az).l):∀(l:List Pr) (s:SS),Wf V T s->k∈uP s->(uP s).length+count=T.ow.length->∀b s',EM W k left count l s=(b,s') ->
  (b=false->s'={ s with st:=s'.st,bd:=s.bd.set left none }) /\
  (b=true->(∀c a,c≠left->s.b c=some a->s'.b c=some a)/\Ka V T s'=true/\s'.bd.length=24/\ic V T s'.b (uP s) (qm s)):=by
 intro l;induction l with
 |nil =>
  intro s hw hk hc b s' h;simp only[EM]at h;cases h
  exact⟨λ_=>rfl,λh=>by cases h⟩
 |cons p r ih =>
  intro s hw hk hc b s' h;simp only[EM]at h;have lQ:Wf V T { s with bd:=s.bd.set left (some p.l) }:=⟨hw.lo,hw.lp,by simpa using hw.lb,hw.un⟩;cases hr:W { s with bd:=s.bd.set left (some p.l) } k p.l count with
  |mk b2 s2 =>
   rw[hr]at h;have hx:=hW _ _ _ _ lQ hk hc _ _ hr;cases b2 with
   |true =>
    cases h
    refine⟨λh=>(by cases h),λ_=>?_⟩;obtain⟨he,fQ,CL,L,rest,h1,h2,h3,h4⟩:=hx.2 rfl;have cf:∀c,({ s with bd:=s.bd.set left (some p.l) }:SS).b c=if left=c then some p.l else s.b c:=λc=>bS _ _ _ _ _ (by rw[hw.lb];exact hl)
    refine⟨λc a de ha=>he c a (by rw[cf,if_neg (λe=>de e.symm)];exact ha),fQ,CL,?_⟩;exact sP hk h1 (by rw[<-iA];exact he left p.l (by rw[cf,if_pos rfl])) h2 h3 h4
   |false =>
    have h5:=hx.1 rfl;have e2:(uP s2)=uP s:=(by rw[h5];rfl);have e3:(qm s2)=qm s:=(by rw[h5];rfl);have Bw:Wf V T s2:=(by rw[h5];exact⟨hw.lo,hw.lp,by simpa using hw.lb,hw.un⟩);have hy:=ih s2 Bw (by rw[e2];exact hk) (by rw[e2];exact hc) _ _ h;refine⟨λhb=>?_,λhb=>?_⟩
    .have h6:=hy.1 hb;rw[h6,h5];simp
    .obtain⟨g1,g2,g3,g4⟩:=hy.2 hb;rw[e2,e3]at g4;refine⟨λc a de ha=>g1 c a de ?_,g2,g3,g4⟩;rw[h5];show(s.bd.set left (some p.l)).getD c none=some a;rw[bS _ _ _ _ _ (by rw[hw.lb];exact hl),if_neg (λe=>de e.symm)];exact ha
theorem zh{V T:CF}(hT:Rm T){W:SS->Nat->Nat->Nat->Bool × SS}(hW:Xl V T W):Xh V T (xq W V T):=by
 intro s count hw hc b s' h;unfold xq at h;by_cases h0:T.ow.length=count
 .rw[if_pos h0]at h;cases h
  refine⟨λ_=>rfl,λhb=>?_⟩;simp only[Bool.and_eq_true,decide_eq_true_eq]at hb;have hu:uP s=[]:=eq_nil_of_length_eq_zero (by omega);have hf:qm s=[]:=eq_nil_of_length_eq_zero (by rw[<-hw.un];exact hb.1);exact⟨λ_ _ h=>h,hb.2,hw.lb,by rw[hu,hf];rfl⟩
 .rw[if_neg h0]at h;by_cases h1:s.un<T.ow.length-count
  .rw[if_pos h1]at h;cases h;exact⟨λ_=>rfl,λhb=>by cases hb⟩
  .rw[if_neg h1]at h;cases qR:Xx T s with
   |none=>rw[qR]at h;cases h;exact⟨λ_=>rfl,λhb=>by cases hb⟩
   |some k =>
    rw[qR]at h;dsimp only at h;have hk:=AC qR;cases hb:s.b (T.ow.getD k az).l with
    |some a =>
     rw[hb]at h;have hx:=hW _ _ _ _ hw hk hc _ _ h;refine⟨hx.1,λCS=>?_⟩;obtain⟨he,fQ,CL,L,rest,g1,g2,g3,g4⟩:=hx.2 CS;exact⟨he,fQ,CL,sP hk g1 (he _ _ hb) g2 g3 g4⟩
    |none =>
     rw[hb]at h;have hx:=ZO hW (hT.at k).1 rfl _ _ hw hk hc _ _ h;refine⟨λVC=>?_,λCS=>?_⟩
     .have h6:=hx.1 VC;rw[h6];have:s.bd.set (T.ow.getD k az).l none=s.bd:=by
       have:=iK s.bd (T.ow.getD k az).l none;rw[show s.bd.getD (T.ow.getD k az).l none=none from hb]at this;exact this
      rw[this]
     .obtain⟨g1,g2,g3,g4⟩:=hx.2 CS;refine⟨λc a ha=>g1 c a (λe=>?_) ha,g2,g3,g4⟩;rw[e,hb]at ha;cases ha
theorem LQ{V T:CF}(hT:Rm T){P:SS->Nat->Bool × SS}(hP:Xh V T P){s:SS}{k at_ count:Nat}(hw:Wf V T s)(hk:k∈uP s)(hc:(uP s).length+count=T.ow.length){b:Bool}{s':SS}(h:DA P T s k at_ count=(b,s')):
  (b=false->s'={ s with st:=s'.st })/\(b=true->Ext s s'/\Ka V T s'=true/\s'.bd.length=24/\s'.b (T.ow.getD k az).r=some at_/\ic V T s'.b ((uP s).erase k) (qm s)):=by
 unfold DA at h;by_cases h0:s.b (T.ow.getD k az).r≠none/\s.b (T.ow.getD k az).r≠some at_
 .rw[if_pos h0]at h;cases h;exact⟨λ_=>rfl,λhb=>by cases hb⟩
 .rw[if_neg h0]at h;have lQ:Wf V T { s with bd:=s.bd.set (T.ow.getD k az).r (some at_),pl:=s.pl.set k true }:=⟨hw.lo,by simpa using hw.lp,by simpa using hw.lb,hw.un⟩;have Jp:=Hv (s:=s) hk (s':={ s with bd:=s.bd.set (T.ow.getD k az).r (some at_),pl:=s.pl.set k true }) rfl;have iA:=Jp.length_eq;rw[length_cons]at iA;have cf:∀c,({ s with bd:=s.bd.set (T.ow.getD k az).r (some at_),pl:=s.pl.set k true }:SS).b c=if (T.ow.getD k az).r=c then some at_ else s.b c:=λc=>bS _ _ _ _ _ (by rw[hw.lb];exact(hT.at k).2)
  cases hr:P { s with bd:=s.bd.set (T.ow.getD k az).r (some at_),pl:=s.pl.set k true } (count+1) with
  |mk b2 s2 =>
   rw[hr]at h;have hx:=hP _ _ lQ (by omega) _ _ hr;cases b2 with
   |true =>
    cases h
    refine⟨λh=>(by cases h),λ_=>?_⟩;obtain⟨he,fQ,CL,hd⟩:=hx.2 rfl;refine⟨λc a ha=>he c a ?_,fQ,CL,he _ _ (by rw[cf,if_pos rfl]),ic.permK ?_ hd⟩
    .rw[cf];by_cases e:(T.ow.getD k az).r=c
     .rw[if_pos e];subst e;by_cases e2:a=at_
      .rw[e2]
      .exact absurd ⟨by rw[ha];simp,by rw[ha];simpa using e2⟩ h0
     .rw[if_neg e];exact ha
    .exact(perm_cons k).1 (Jp.symm.trans (perm_cons_erase hk))
   |false =>
    cases h
    refine⟨λ_=>?_,λh=>by cases h⟩;have h5:=hx.1 rfl;rw[h5];have e1:(s.bd.set (T.ow.getD k az).r (some at_)).set (T.ow.getD k az).r (s.b (T.ow.getD k az).r)=s.bd:=by
     rw[set_set];exact iK _ _ _
    have e2:(s.pl.set k true).set k false=s.pl:=by
     rw[set_set];have:=iK s.pl k false;rwa [show s.pl.getD k false=false by simpa using (mem_filter.1 hk).2]at this
    simp only[e1,e2]
theorem Li{V:CF}{i:Nat}{L:List Nat}{e:Nat}(h:Xw V L (V.ow.getD i az).r e):Xw V (i::L) (V.ow.getD i az).l e:=by
 cases L with
 |nil=>exact h.elim
 |cons j r=>exact⟨rfl,h⟩
theorem Cu{V T:CF}(hT:Rm T):∀m,Xl V T (wk V T m):=by
 intro m;induction m with
 |zero =>
  intro s k at_ count hw hk hc b s' h;simp only[wk]at h;cases h
  exact⟨λ_=>rfl,λhb=>by cases hb⟩
 |succ m ih =>
  intro s k at_ count hw hk hc b s' h;simp only[wk]at h;by_cases h0:wrap64 (s.st-1)<0
  .rw[if_pos h0]at h;cases h;exact⟨λ_=>rfl,λhb=>by cases hb⟩
  .rw[if_neg h0]at h;cases po:dJ V.ow at_ with
   |none=>rw[po]at h;cases h;exact⟨λ_=>rfl,λhb=>by cases hb⟩
   |some i =>
    rw[po]at h;dsimp only at h;obtain⟨hi,kG⟩:=jr po;by_cases h1:s.ot.getD i none≠none
    .rw[if_pos h1]at h;cases h;exact⟨λ_=>rfl,λhb=>by cases hb⟩
    .rw[if_neg h1]at h;have hn:s.ot.getD i none=none:=Classical.byContradiction h1;by_cases h2:(T.ow.getD k az).k≠4/\(V.ow.getD i az).k=4
     .rw[if_pos h2]at h;cases h;exact⟨λ_=>rfl,λhb=>by cases hb⟩
     .rw[if_neg h2]at h;have VM:i<s.ot.length:=(by rw[hw.lo];exact hi);obtain⟨s1,cN⟩:∃s1:SS,s1={ s with st:=wrap64 (s.st-1),ot:=s.ot.set i (some k),un:=s.un-1 }:=⟨_,rfl⟩;rw[<-cN]at h;have f7:(qm s).Perm (i::qm s1):=AU VM hn (by rw[cN]);have jN:=f7.length_eq;rw[length_cons]at jN;have qx:Wf V T s1:=by
       refine⟨by rw[cN];simpa using hw.lo,by rw[cN];exact hw.lp,by rw[cN];exact hw.lb,?_⟩;have h3:s1.un=s.un-1:=(by rw[cN]);have h4:=hw.un;omega
      have hu1:uP s1=uP s:=(by rw[cN];rfl);have aea:(T.ow.getD k az).k≠4->(V.ow.getD i az).k≠4:=λa b=>h2 ⟨a,b⟩;cases hr:DA (xq (wk V T m) V T) T s1 k (V.ow.getD i az).r count with
      |mk b2 s2 =>
       rw[hr]at h;have hx:=LQ hT (zh hT ih) qx (by rw[hu1];exact hk) (by rw[hu1];exact hc) hr;cases b2 with
       |true =>
        cases h
        refine⟨λh=>(by cases h),λ_=>?_⟩;obtain⟨he,fQ,CL,hbr,hd⟩:=hx.2 rfl;rw[hu1]at hd;refine⟨λc a ha=>he c a (by rw[cN];exact ha),fQ,CL,[i],qm s1,f7,⟨_,hbr,kG,rfl⟩,λpp=>⟨i,rfl,aea pp⟩,hd⟩
       |false =>
        dsimp only at h;have h5:=hx.1 rfl;have hu2:uP s2=uP s:=(by rw[h5];exact hu1);have kF:qm s2=qm s1:=(by rw[h5];rfl);have lQ:Wf V T s2:=(by rw[h5];exact⟨qx.lo,qx.lp,qx.lb,qx.un⟩);have Ba:∀s3:SS,s3={ s1 with st:=s3.st }->({ s3 with ot:=s3.ot.set i none,un:=s3.un+1 }:SS)={ s with st:=s3.st }:=by
         intro s3 h3;rw[h3,cN];have e1:(s.ot.set i (some k)).set i none=s.ot:=by
          rw[set_set];have:=iK s.ot i none;rwa [hn]at this
         have e2:s.un-1+1=s.un:=(by have:=hw.un;omega);simp only[e1,e2]
        by_cases pp:(T.ow.getD k az).k=4
        .rw[if_pos pp]at h;cases Gr:wk V T m s2 k (V.ow.getD i az).r count with
         |mk b3 s3 =>
          rw[Gr]at h;have hy:=ih _ _ _ _ lQ (by rw[hu2];exact hk) (by rw[hu2];exact hc) _ _ Gr;cases b3 with
          |true =>
           cases h
           refine⟨λh=>(by cases h),λ_=>?_⟩;obtain⟨he,fQ,CL,L,rest,g1,⟨e,g2,g2'⟩,_,g4⟩:=hy.2 rfl;rw[hu2]at g4;rw[kF]at g1;refine⟨λc a ha=>he c a (by rw[h5,cN];exact ha),fQ,CL,i::L,rest,f7.trans (List.Perm.cons i g1),⟨e,g2,by rw[<-kG];exact Li g2'⟩,λZc=>absurd pp Zc,g4⟩
          |false =>
           cases h
           refine⟨λ_=>?_,λh=>by cases h⟩;have h6:=hy.1 rfl;have h7:s3={ s1 with st:=s3.st }:=(by rw[h6,h5]);exact Ba s3 h7
        .rw[if_neg pp]at h;cases h
         exact⟨λ_=>Ba s2 h5,λh=>by cases h⟩
def Wi(A:Nat):Value:=.pointer (some ⟨A,0,none⟩)
def fK(F0 T0:Nat)(an:List (Option Nat)):List Value:=[Wi F0,Wi T0]++aW an
def G8(V0:Nat)(s:SS)(ov pv:Value):List Value:=[Wi V0,ov,.int .i64 (s.un:Int),pv,.int .i64 s.st]
def lz(F0 T0 V0:Nat)(an:List (Option Nat))(s:SS)(ov pv:Value):List Value:=fK F0 T0 an++(aW s.bd++G8 V0 s ov pv)
def DK(Q:Nat)(ov pv:Value):List Nat:=Q::(ov.ownBlock.toList++pv.ownBlock.toList)
structure py where
 q:Nat
 f:Nat
 t:Nat
 v:Nat
 an:List (Option Nat)
 tav:Value
 tov:Value
 vav:Value
 vov:Value
 ov:Value
 pv:Value
def py.fp(y:py):List Nat:=DK y.q y.ov y.pv
structure Sw(w:World)(y:py)(T V:CF)(s:SS):Prop where
 ob:Ob w 202 55 y.q (lz y.f y.t y.v y.an s y.ov y.pv)
 la:y.an.length=24
 lb:s.bd.length=24
 ow:w.ownsRow 0 3 1 y.ov s.ot.length (aW s.ot)
 pl:w.ownsRow 0 4 1 y.pv s.pl.length (s.pl.map Value.bool)
 nd:y.fp.Nodup
 ft:dm w y.t T y.tav y.tov
 fv:dm w y.v V y.vav y.vov
 dt:∀k∈aG y.t y.tav y.tov,k ∉ y.fp
 dv:∀k∈aG y.v y.vav y.vov,k ∉ y.fp
section
variable {w w':World} {y:py} {T V:CF} {s s':SS}
theorem aL(l:List (Option Nat)):(aW l).length=l.length:=by simp[aW]
theorem eP(h:Sw w y T V s):(fK y.f y.t y.an).length=26:=by simp[fK,aL,h.la]
theorem Sw.qlt(h:Sw w y T V s):∀k∈y.fp,k<w.heap.size:=by
 intro k hk;simp only[py.fp,DK,mem_cons,mem_append,Option.mem_toList]at hk;rcases hk with rfl|hk|hk
 .exact(ownsRow.lt h.ob _ rfl).2
 .exact(h.ow.lt k hk).2
 .exact(h.pl.lt k hk).2
theorem Sw.frz(h:Sw w y T V s)(j:Nat):w.frozen? ⟨y.q,j,none⟩=false:=ownsRow.frozenAt h.ob j
theorem Sw.c1(h:Sw w y T V s):w.cell? ⟨y.q,1,none⟩=some (.pointer (some ⟨y.t,0,none⟩)):=by rw[ownsRow.cellAt h.ob 1 (by omega)];rfl
theorem Sw.tail(h:Sw w y T V s){j:Nat}(hj:j<5):w.cell? ⟨y.q,50+j,none⟩=(G8 y.v s y.ov y.pv)[j]?:=by
 rw[ownsRow.cellAt h.ob (50+j) (by omega)];unfold lz;rw[getElem?_append_right (by rw[eP h];omega),eP h,getElem?_append_right (by rw[aL,h.lb];omega),aL,h.lb];rw[show 50+j-26-24=j by omega]
theorem Sw.cv(h:Sw w y T V s):w.cell? ⟨y.q,50,none⟩=some (.pointer (some ⟨y.v,0,none⟩)):=h.tail (j:=0) (by omega)
theorem Sw.co(h:Sw w y T V s):w.cell? ⟨y.q,51,none⟩=some y.ov:=h.tail (j:=1) (by omega)
theorem Sw.cu(h:Sw w y T V s):w.cell? ⟨y.q,52,none⟩=some (.int .i64 (s.un:Int)):=h.tail (j:=2) (by omega)
theorem Sw.cp(h:Sw w y T V s):w.cell? ⟨y.q,53,none⟩=some y.pv:=h.tail (j:=3) (by omega)
theorem Sw.cs(h:Sw w y T V s):w.cell? ⟨y.q,54,none⟩=some (.int .i64 s.st):=h.tail (j:=4) (by omega)
theorem Sw.cb(h:Sw w y T V s){r:Nat}(hr:r<24):w.cell? ⟨y.q,26+r,none⟩=some (.int .i64 (eH (s.b r))):=by
 rw[ownsRow.cellAt h.ob (26+r) (by omega)];unfold lz;rw[getElem?_append_right (by rw[eP h];omega),eP h,getElem?_append_left (by rw[aL,h.lb];omega)];rw[show 26+r-26=r by omega];have hl:r<s.bd.length:=by rw[h.lb];exact hr
 simp[aW,SS.b,hl]
theorem Sw.setQ(h:Sw w y T V s){j:Nat}{u:Value}(hq:(lz y.f y.t y.v y.an s y.ov y.pv).set j u=lz y.f y.t y.v y.an s' y.ov y.pv)(h1:s'.bd.length=24)(h2:s'.ot=s.ot)(h3:s'.pl=s.pl):Sw (w.setCell ⟨y.q,j,none⟩ u) y T V s':=by
 have m7:=(ownsRow.stored h.ob j u).1;rw[hq]at m7;have hn:=h.nd;simp only[py.fp,DK,nodup_cons,mem_append,Option.mem_toList,not_or]at hn;have gl:∀k,k≠y.q->(w.setCell ⟨y.q,j,none⟩ u).heap[k]?=w.heap[k]?:=λk hk=>heap_setCell _ _ _ _ (λe=>hk e);refine⟨m7,h.la,h1,?_,?_,h.nd,?_,?_,h.dt,h.dv⟩
 .rw[h2];exact ae h.ow (λk hk=>gl k (by rintro rfl;exact hn.1.1 hk))
 .rw[h3];exact ae h.pl (λk hk=>gl k (by rintro rfl;exact hn.1.2 hk))
 .exact h.ft.of_eq (λk hk=>gl k (by rintro rfl;exact h.dt _ hk (by simp[py.fp,DK])))
 .exact h.fv.of_eq (λk hk=>gl k (by rintro rfl;exact h.dv _ hk (by simp[py.fp,DK])))
theorem Sw.setB(h:Sw w y T V s){r:Nat}(hr:r<24)(o:Option Nat):Sw (w.setCell ⟨y.q,26+r,none⟩ (.int .i64 (eH o))) y T V { s with bd:=s.bd.set r o }:=by
 refine h.setQ ?_ (by simpa using h.lb) rfl rfl;unfold lz;rw[set_append_right (26+r) _ (by rw[eP h];omega),eP h,show 26+r-26=r by omega,set_append_left r _ (by rw[aL,h.lb];exact hr)];congr 2;simp[aW,map_set]
theorem Sw.setT(h:Sw w y T V s){j:Nat}{u:Value}(h1:(G8 y.v s y.ov y.pv).set j u=G8 y.v s' y.ov y.pv)(hb:s'.bd=s.bd)(h2:s'.ot=s.ot)(h3:s'.pl=s.pl):Sw (w.setCell ⟨y.q,50+j,none⟩ u) y T V s':=by
 refine h.setQ ?_ (by rw[hb];exact h.lb) h2 h3;unfold lz;rw[set_append_right (50+j) _ (by rw[eP h];omega),eP h,set_append_right (50+j-26) _ (by rw[aL,h.lb];omega),aL,h.lb,show 50+j-26-24=j by omega,h1,hb]
theorem Sw.setUn(h:Sw w y T V s)(n:Nat):Sw (w.setCell ⟨y.q,52,none⟩ (.int .i64 (n:Int))) y T V { s with un:=n }:=h.setT (j:=2) rfl rfl rfl rfl
theorem Sw.setSt(h:Sw w y T V s)(n:Int):Sw (w.setCell ⟨y.q,54,none⟩ (.int .i64 n)) y T V { s with st:=n }:=h.setT (j:=4) rfl rfl rfl rfl
theorem Sw.own(h:Sw w y T V s)(hn:s.ot≠[]):∃O cap,y.ov=.slice (some ⟨O,0,none⟩) s.ot.length cap/\s.ot.length<=cap/\cap<=maxLen/\(∀i,i<s.ot.length->w.cell? ⟨O,i,none⟩=some (.int .i64 (eH (s.ot.getD i none))))/\(∀j,w.frozen? ⟨O,j,none⟩=false):=by
 have ho:=h.ow;rcases h.ow.2 with⟨_,h0⟩|⟨O,cap,cur,hv,_,_,wV,hm,_⟩
 .exact absurd (eq_nil_of_length_eq_zero h0) hn
 .rw[hv]at ho;refine⟨O,cap,hv,wV,hm,λi hi=>?_,λj=>ho.frozenAt j⟩;rw[ho.cellAt i (by omega)];simp[aW,hi]
theorem Sw.plc(h:Sw w y T V s)(hn:s.pl≠[]):∃L cap,y.pv=.slice (some ⟨L,0,none⟩) s.pl.length cap/\s.pl.length<=cap/\cap<=maxLen/\(∀i,i<s.pl.length->w.cell? ⟨L,i,none⟩=some (.bool (s.pl.getD i false)))/\(∀j,w.frozen? ⟨L,j,none⟩=false):=by
 have ho:=h.pl;rcases h.pl.2 with⟨_,h0⟩|⟨O,cap,cur,hv,_,_,wV,hm,_⟩
 .exact absurd (eq_nil_of_length_eq_zero h0) hn
 .rw[hv]at ho;refine⟨O,cap,hv,wV,hm,λi hi=>?_,λj=>ho.frozenAt j⟩;rw[ho.cellAt i (by omega)];simp[hi]
theorem Sw.setO(h:Sw w y T V s){O cap:Nat}(hv:y.ov=.slice (some ⟨O,0,none⟩) s.ot.length cap)(i:Nat)(o:Option Nat):Sw (w.setCell ⟨O,i,none⟩ (.int .i64 (eH o))) y T V { s with ot:=s.ot.set i o }:=by
 have ho:=h.ow;rw[hv]at ho;have aE:=(ho.stored i (.int .i64 (eH o))).1;have hm:O∈y.fp:=by simp[py.fp,DK,hv,Value.ownBlock]
 have hn:=h.nd;simp only[py.fp,DK,nodup_cons,mem_append,Option.mem_toList,not_or,nodup_append]at hn;have m7:y.ov.ownBlock=some O:=by rw[hv];rfl
 have gl:∀k,k≠O->(w.setCell ⟨O,i,none⟩ (.int .i64 (eH o))).heap[k]?=w.heap[k]?:=λk hk=>heap_setCell _ _ _ _ (λe=>hk e);refine⟨h.ob.of_eq (gl _ (λe=>hn.1.1 (by rw[m7,e]))),h.la,h.lb,?_,?_,h.nd,?_,?_,h.dt,h.dv⟩
 .rw[hv];have e:(aW s.ot).set i (.int .i64 (eH o))=aW (s.ot.set i o):=by simp[aW,map_set]
  rw[e]at aE;simpa using aE
 .exact ae h.pl (λk hk=>gl k (by rintro rfl;exact hn.2.2.2 _ m7 _ hk rfl))
 .exact h.ft.of_eq (λk hk=>gl k (by rintro rfl;exact h.dt _ hk hm))
 .exact h.fv.of_eq (λk hk=>gl k (by rintro rfl;exact h.dv _ hk hm))
theorem Sw.setP(h:Sw w y T V s){O cap:Nat}(hv:y.pv=.slice (some ⟨O,0,none⟩) s.pl.length cap)(i:Nat)(o:Bool):Sw (w.setCell ⟨O,i,none⟩ (.bool o)) y T V { s with pl:=s.pl.set i o }:=by
 have ho:=h.pl;rw[hv]at ho;have aE:=(ho.stored i (.bool o)).1;have hm:O∈y.fp:=by simp[py.fp,DK,hv,Value.ownBlock]
 have hn:=h.nd;simp only[py.fp,DK,nodup_cons,mem_append,Option.mem_toList,not_or,nodup_append]at hn;have m7:y.pv.ownBlock=some O:=by rw[hv];rfl
 have gl:∀k,k≠O->(w.setCell ⟨O,i,none⟩ (.bool o)).heap[k]?=w.heap[k]?:=λk hk=>heap_setCell _ _ _ _ (λe=>hk e);refine⟨h.ob.of_eq (gl _ (λe=>hn.1.2 (by rw[m7,e]))),h.la,h.lb,?_,?_,h.nd,?_,?_,h.dt,h.dv⟩
 .exact ae h.ow (λk hk=>gl k (by rintro rfl;exact hn.2.2.2 _ hk _ m7 rfl))
 .rw[hv];have e:(s.pl.map Value.bool).set i (.bool o)=(s.pl.set i o).map Value.bool:=by simp[map_set]
  rw[e]at aE;simpa using aE
 .exact h.ft.of_eq (λk hk=>gl k (by rintro rfl;exact h.dt _ hk hm))
 .exact h.fv.of_eq (λk hk=>gl k (by rintro rfl;exact h.dv _ hk hm))
theorem Sw.of_eq(h:Sw w y T V s)(he:∀k,k<w.heap.size->w'.heap[k]?=w.heap[k]?):Sw w' y T V s :=
 ⟨h.ob.of_eq (he _ (ownsRow.lt h.ob _ rfl).2),h.la,h.lb,ae h.ow (λk hk=>he k (h.ow.lt k hk).2),ae h.pl (λk hk=>he k (h.pl.lt k hk).2),h.nd,
  h.ft.of_eq (λk hk=>he k (h.ft.lt k hk)),h.fv.of_eq (λk hk=>he k (h.fv.lt k hk)),h.dt,h.dv⟩
theorem Sw.below(h:Sw w y T V s)(hb:Below w.heap.size w w'):Sw w' y T V s:=h.of_eq (λk hk=>hb.block k hk)
theorem Sw.memQ(y:py):y.q∈y.fp:=by simp[py.fp,DK]
theorem Sw.memO{O n cap:Nat}(hv:y.ov=.slice (some ⟨O,0,none⟩) n cap):O∈y.fp:=by simp[py.fp,DK,hv,Value.ownBlock]
theorem Sw.memP{O n cap:Nat}(hv:y.pv=.slice (some ⟨O,0,none⟩) n cap):O∈y.fp:=by simp[py.fp,DK,hv,Value.ownBlock]
end
def PlC(y:py)(T V:CF)(m:Nat)(P:SS->Nat->Bool × SS):Prop :=
 ∀(w:World) (s:SS) (count:Nat),Sw w y T V s->Wf V T s->s.un<m->(uP s).length+count=T.ow.length ->
  Calls prog 177 #[.pointer (some ⟨y.q,0,none⟩),.int .i64 count] w λe w'=>e=.returned (.bool (P s count).1)/\Sw w' y T V (P s count).2/\am y.fp w y.fp w'
def WkC(y:py)(T V:CF)(m:Nat)(W:SS->Nat->Nat->Nat->Bool × SS):Prop :=
 ∀(w:World) (s:SS) (k at_ count:Nat),Sw w y T V s->Wf V T s->s.un<m->k∈uP s->(uP s).length+count=T.ow.length ->
  Calls prog 207 #[.pointer (some ⟨y.q,0,none⟩),.int .i64 k,.int .i64 at_,.int .i64 count] w λe w'=>e=.returned (.bool (W s k at_ count).1)/\Sw w' y T V (W s k at_ count).2/\am y.fp w y.fp w'
theorem E7{s:SS}{k:Nat}(h:k∈uP s):k<s.pl.length/\s.pl.getD k false=false:=by
 obtain⟨h1,h2⟩:=mem_filter.1 h;exact⟨mem_range.1 h1,by simpa using h2⟩
theorem iI{l:List Pr}{k:Nat}(h:k<l.length):l.getD k az=l[k]:=by simp[h]
theorem lW(o:Option Nat):(eH o != (-1:Int))=o.isSome:=by
 cases o with
 |none=>rfl
 |some n=>simp[eH]
theorem Rx{y:py}{T V:CF}(hT:Rm T){m:Nat}{P:SS->Nat->Bool × SS}(hP:PlC y T V m P)(hPk:Xh V T P){w:World}{s:SS}{k at_ count:Nat}(h:Sw w y T V s)(hw:Wf V T s)(hm:s.un<m)(hk:k∈uP s)(hc:(uP s).length+count=T.ow.length):
  Calls prog 246 #[.pointer (some ⟨y.q,0,none⟩),.int .i64 k,.int .i64 at_,.int .i64 count] w λe w'=>e=.returned (.bool (DA P T s k at_ count).1)/\Sw w' y T V (DA P T s k at_ count).2/\am y.fp w y.fp w':=by
 obtain⟨gy,hkp⟩:=E7 hk;have hkT:k<T.ow.length:=by rw[<-hw.lp];exact gy
 obtain⟨ao,tcap,dB,V3,V4,htc⟩:=bn h.ft.ow;obtain⟨g,jm,aq⟩:=htc (by intro e;rw[e]at hkT;simp at hkT);have hr:=(aq k hkT).2.2;have IU:=h.ft.c6;rw[dB,jm]at IU;have SV:=h.c1;obtain⟨right,hri⟩:∃right,right=(T.ow.getD k az).r:=⟨_,rfl⟩;have Ej:right<24:=by rw[hri];exact(hT.at k).2
 rw[<-iI hkT,<-hri]at hr;have I1:=h.cb Ej;obtain⟨bef,P7⟩:∃bef,bef=s.b right:=⟨_,rfl⟩;rw[<-P7]at I1;have ST:s.pl≠[]:=by intro e;rw[e]at gy;simp at gy
 obtain⟨L,lcap,dL,hlc,VO,hpc,hpf⟩:=h.plc ST;have dg:=hw.lp;have de:count<T.ow.length:=by
  have:=length_pos_of_mem hk;omega
 have YG:=h.frz (26+right);have HS:=ab h;have HW:=ab hw;have HK:=ab hk;have HC:=ab hc;have U0:=ab hP;have HPK:=ab hPk;have HRI:=ab hri;have nJ:=ab P7;have u7:=ab dL;have HM:=ab hm
 -- behind the two stores
 have bC:=ab (h.setB Ej (some at_));have hq7:=(uh bC).cp;rw[dL]at hq7;have aj3:(w.setCell ⟨y.q,26+right,none⟩ (.int .i64 (eH (some at_)))).frozen? ⟨L,k,none⟩=false:=by
  obtain⟨L',c',e',_,_,_,h2⟩:=(uh bC).plc ST;rw[dL]at e';cases e'
  exact h2 k
 have aj2:(w.setCell ⟨y.q,26+right,none⟩ (.int .i64 (eH (some at_)))).cell? ⟨L,k,none⟩=some (.bool false):=by
  obtain⟨L',c',e',_,_,h2,_⟩:=(uh bC).plc ST;rw[dL]at e';cases e'
  have:=h2 k gy;rw[this];exact congrArg some (congrArg Value.bool hkp)
 have bz:=ab ((uh bC).setP (i:=k) (o:=true) dL);rw[show(eH (some at_))=(at_:Int) from rfl]at hq7 aj3 aj2 bz bC;have aqf:lcap<=9223372036854775807:=by unfold maxLen at VO;omega
 have aqK:tcap<=9223372036854775807:=by unfold maxLen at V3;omega
 clear V3 VO;have hs2u:({ s with bd:=s.bd.set right (some at_),pl:=s.pl.set k true }:SS).un<m:=hm;have lQ:Wf V T { s with bd:=s.bd.set right (some at_),pl:=s.pl.set k true }:=⟨hw.lo,by simpa using hw.lp,by simpa using hw.lb,hw.un⟩;have Jp:=Hv (s:=s) hk (s':={ s with bd:=s.bd.set right (some at_),pl:=s.pl.set k true }) rfl;have iA:=Jp.length_eq;rw[length_cons]at iA;have tf:(uP { s with bd:=s.bd.set right (some at_),pl:=s.pl.set k true }).length+(count+1)=T.ow.length:=by omega
 have UO:=ab (hP _ _ (count+1) (uh bz) lQ hs2u tf);have kj:=ab (hPk _ (count+1) lQ tf _ _ rfl)
 -- what end answers
 obtain⟨r,Qk⟩:∃r,r=P { s with bd:=s.bd.set right (some at_),pl:=s.pl.set k true } (count+1):=⟨_,rfl⟩;rw[<-Qk]at UO kj;have HEn:Hid ((bef=none\/bef=some at_)->DA P T s k at_ count=(if r.1=true then (true,r.2) else (false,{ r.2 with pl:=r.2.pl.set k false,bd:=r.2.bd.set right bef }))):=ab (λhb=>by
  unfold DA;rw[<-hri,<-P7,if_neg (by rintro⟨a,b⟩;rcases hb with hb|hb;exact a hb;exact b hb),<-Qk];obtain⟨b1,s1⟩:=r;cases b1 <;> rfl)
 have HEf:Hid (¬ (bef=none\/bef=some at_)->DA P T s k at_ count=(false,s)):=ab (λhb=>by
  unfold DA;rw[<-hri,<-P7,if_pos ⟨λe=>hb (zq0 e),λe=>hb (zq1 e)⟩])
 have aca:Hid (am y.fp w y.fp ((w.setCell ⟨y.q,26+right,none⟩ (.int .i64 (at_:Int))).setCell ⟨L,k,none⟩ (.bool true))):=ab (((am.refl y.fp w).setCell (zq0 (Sw.memQ y)) _).setCell (zq0 (Sw.memP dL)) _);clear Qk lQ hs2u tf iA Jp;clear h hw hk hc hP hPk hri P7 dL aq htc hpc hpf hm dB jm hkp;have main:∀(MQ:Hid (bef=none\/bef=some at_)) (x:Int) (hx:w.cell? ⟨y.q,26+right,none⟩=some (.int .i64 x)) (V7:Hid (x=eH bef)) (rK:(x != (-1:Int))=false\/((x != (-1:Int))=true/\(x != (at_:Int))=false)),Calls prog 246 #[.pointer (some ⟨y.q,0,none⟩),.int .i64 k,.int .i64 at_,.int .i64 count] w λe w'=>e=.returned (.bool (DA P T s k at_ count).1)/\Sw w' y T V (DA P T s k at_ count).2/\am y.fp w y.fp w':=by
  intro MQ x hx V7 rK;have abA:=ab (uh HEn (uh MQ));clear I1 MQ;rcases rK with rK|⟨rK,vI⟩
  all_goals
   go_enter func246,ntmps246;go_wp2_with fail
   rw[show((count:Int)+1)=((count+1:Nat):Int) by omega];refine(uh UO).mono ?_;rintro e w3 ⟨rfl,cd,nC⟩;obtain⟨b,s3⟩:=r;cases b with
   |true =>
    have dd:=ab cd;have sm:=ab nC;clear cd nC;go_wp2_with fail
    go_ret;rw[uh abA];exact⟨rfl,uh dd,(uh aca).trans (uh sm)⟩
   |false =>
    have dP:=(uh kj).1 rfl;dsimp only at cd dP;have SR:s3.pl=s.pl.set k true:=(by rw[dP]);have VV:s3.pl≠[]:=by
     rw[SR];intro e;have:=congrArg List.length e;simp at this;exact ST this
    have hc3:=cd.cp;rw[uh u7]at hc3;obtain⟨L',lc',e',_,_,aeC,aeD⟩:=cd.plc VV;rw[uh u7]at e';have eL:L=L':=(by injection e' with e1 _ _;injection e1 with e1;injection e1);subst eL;have hx3:=aeC k (by rw[SR];simpa using gy);have hy3:=aeD k;have Nf:s3.pl.length=s.pl.length:=(by rw[SR];simp);have dW:=ab (cd.setP (i:=k) (o:=false) (by rw[Nf];exact uh u7));have ap0:=(uh dW).frz (26+right);have gN:=ab ((uh dW).setB Ej bef);have J7:Hid (am y.fp w y.fp ((w3.setCell ⟨L,k,none⟩ (.bool false)).setCell ⟨y.q,26+right,none⟩ (.int .i64 (eH bef)))):=ab (((uh aca).trans ((nC.setCell (zq0 (Sw.memP (uh u7))) _).setCell (zq0 (Sw.memQ y)) _)));rw[<-uh V7]at gN J7;have adE:∃u,(w3.setCell ⟨L,k,none⟩ (.bool false)).cell? ⟨y.q,26+right,none⟩=some u:=⟨_,(uh dW).cb Ej⟩;obtain⟨u4,adE⟩:=adE;clear cd nC aeC aeD dP SR VV Nf;go_wp2_with fail
    go_ret;rw[uh abA];exact⟨rfl,uh gN,uh J7⟩
 have HCb:=ab I1;have HM:=ab main;clear main;cases bef with
 |none=>exact uh HM (ab (zq0 rfl)) (-1) I1 (ab rfl) (zq0 rfl)
 |some b0 =>
  by_cases e:b0=at_
  .refine uh HM (ab (zq1 (by rw[e]))) (b0:Int) I1 (ab rfl) (zq1 ⟨lW (some b0),?_⟩);rw[e];simp
  .have aM:((b0:Int) != (at_:Int))=true:=(by rw[bne_iff_ne];omega);have jg:((b0:Int) != (-1:Int))=true:=lW (some b0);have apR:w.cell? ⟨y.q,26+right,none⟩=some (.int .i64 (b0:Int)):=I1;have ahl:=ab (uh HEf (by rintro(h|h);cases h;exact e (Option.some.inj h)));clear I1;go_enter func246,ntmps246;go_wp2_with fail
   go_ret;rw[uh ahl];exact⟨rfl,uh HS,am.refl _ _⟩
