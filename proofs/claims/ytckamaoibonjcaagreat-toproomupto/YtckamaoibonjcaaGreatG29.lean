/- What is proved here: plain facts and contracts that the claimed theorem stands on. No condition but those that each names. -/
import Derived.Test.YtckamaoibonjcaaGreatG28
namespace Go.Proofs.YtckamaoibonjcaaGreat
open Go.RowKit Go.Maps
set_option maxRecDepth 100000
set_option maxHeartbeats 2000000
variable {base n N:Nat} {wp:BL} {mo:Option Nat} {f:Int×Int->List (Tm N)} {sl:Int×Int->Value} {w:World}
def Me(base:Nat)(wp:BL)(mo:Option Nat)(n N:Nat)(f:Int×Int->List (Tm N))(sl:Int×Int->Value)(k:Int×Int)(l:List (Tm N))(w w':World):Prop:=
 ∃a c,gI base wp a (n+1) N (gH f k l) c w'/\bi (qR wp mo sl) w w'/\∀b,qR wp a c b->qR wp mo sl b\/w.heap.size<=b
theorem Fg:(Tryz.prog.info? 30).map (λi=>(i.zero,i.size,i.bytes))=some (some (.agg #[.int .i64 0,.int .i64 0,.string ⟨#[]⟩,.slice none 0 0]),4,56):=by kernel_rfl
theorem Kw(a:Nat)(W:World):(binOp .eql 63 (.map (some a)) (.map none)).run Tryz.prog W=.ok (.bool false) W:=by kernel_rfl
theorem Kv(W:World):(binOp .eql 63 (.map none) (.map none)).run Tryz.prog W=.ok (.bool true) W:=by kernel_rfl
theorem eS{S:Nat->Prop}{W a:World}(c:bi S W a){b:Nat}(e:b<W.heap.size)(d:¬S b):∀o v,W.cell? ⟨b,o,none⟩=some v->a.cell? ⟨b,o,none⟩=some v:=λo _ f=>(c.cell o e d).trans f
theorem DC(wp:BL)(f:Nat)(j k:Int)(y0 y1:Int)(ys:ByteArray)(ya:Option Addr)(yl yc L sc:Nat)(sa:Option Addr)(xs:List Value)(base:Nat)(w wr:World)(az:World->Nat->World->Prop)(ap:World->Prop)(be:L<1000)(bg:base<=w.heap.size)(ao:wp.b<w.heap.size)(a5:(f<w.heap.size/\wp.b≠f/\wr=(w.alloc (.cells #[.int .i64 j,.int .i64 k] 164)).alloc (.cells #[.int .i64 y0,.int .i64 y1,.string ys,.slice ya yl yc] 30)/\(∀b,(Value.slice sa L sc).ownBlock=some b->b<w.heap.size/\b≠wp.b)/\Hid (w.cell? ⟨wp.b,wp.o,none⟩=some (.map (some f))))\/(f=w.heap.size+1+1/\wr=(((w.alloc (.cells #[.int .i64 j,.int .i64 k] 164)).alloc (.cells #[.int .i64 y0,.int .i64 y1,.string ys,.slice ya yl yc] 30)).alloc (.map #[] 0)).setCell ⟨wp.b,wp.o,none⟩ (.map (some f))/\(∀b,(Value.slice sa L sc).ownBlock=some b->b<w.heap.size/\b≠wp.b)/\Hid (sB wp none w)))(aW:Hid (∀W,bi (λb=>b=f) wr W->W.ownsRow base 30 4 (.slice sa L sc) L xs))(aO:Hid (∀W,ag wr W->∃(A:Nat)(d:World),(Instr.mapEntry 63 (.map (some f)) (pk (j,k))).run Tryz.prog W=.ok (.tuple #[.slice sa L sc,goInt A]) d/\(bi (λb=>b=f) W d/\d.heap.size=W.heap.size/\az W A d)))(aX:Hid (∀W A d ab i g c,az W A d->ag wr W->bi (λb=>b=f) W d->d.heap.size=W.heap.size->ag d ab->ab.grownBy i (Value.slice sa L sc).ownBlock->i.ownsRow base 30 4 (.slice (some ⟨g,0,none⟩) (L+1) c) (L+1) (xs++ [.int .i64 y0,.int .i64 y1,.string ys,.slice ya yl yc])->((Value.slice sa L sc).ownBlock=some g\/g=ab.heap.size)-> ∃m,(Instr.entryStore 63 (.map (some f)) (goInt A) (.slice (some ⟨g,0,none⟩) (L+1) c)).run Tryz.prog i=.ok () m/\(ap m/\bi (λb=>b=f) i m/\m.heap.size=i.heap.size))):ah 145 #[.pointer (some ⟨wp.b,wp.o,none⟩),.agg #[.int .i64 j,.int .i64 k],.agg #[.int .i64 y0,.int .i64 y1,.string ys,.slice ya yl yc]] w λe w'=>e=.returned (.tuple #[])/\ap w':=by
 obtain⟨E,aF,aL,aM,aN⟩:=bO Fg;have N:Hid (Tryz.prog.info? 30=some E/\E.zero=some (.agg #[.int .i64 0,.int .i64 0,.string ⟨#[]⟩,.slice none 0 0])/\E.size=4/\E.bytes=56):=⟨aF,aL,aM,aN⟩;clear aF aL aM aN;rcases a5 with⟨am,an,n,U,B⟩|⟨am,n,U,B⟩
 case' inl=>
  have ad:=B.out;have aP:=Kw f;have P:Hid (∃h a,h=w.heap.size/\a=w.heap.size+1):=⟨_,_,rfl,rfl⟩;go_enter Tryz.func145,Tryz.ntmps145;go_wp2_with fail;obtain⟨h,a,y,z⟩:=P.out;rw[<-n,<-z,<-y];have aK:wr.heap.size=w.heap.size+2:=by rw[n];simp
  have aq:Hid (ag w wr):=by
   rw[n];exact((ak _ _).alloc (ai _) _).alloc (by simp) _
  have Z:Hid (wr.heap[h]?=some (.cells #[.int .i64 j,.int .i64 k] 164)):=by
   rw[n,y];exact(((ak _ _).alloc (ai _) _).block w.heap.size (by simp)).trans (ax w _)
  have aa:Hid (wr.heap[a]?=some (.cells #[.int .i64 y0,.int .i64 y1,.string ys,.slice ya yl yc] 30)):=by
   rw[n,z];have u:=ax (w.alloc (.cells #[.int .i64 j,.int .i64 k] 164)) (.cells #[.int .i64 y0,.int .i64 y1,.string ys,.slice ya yl yc] 30);have e:(w.alloc (.cells #[.int .i64 j,.int .i64 k] 164)).heap.size=w.heap.size+1:=by simp
   rwa [e]at u
  have X:Hid (wr.cell? ⟨wp.b,wp.o,none⟩=some (.map (some f))):=(aq.out.cell (p:=⟨wp.b,wp.o,none⟩) ao).trans ad;clear aq
 case' inr=>
  have ad:w.cell? ⟨wp.b,wp.o,none⟩=some (.map none):=B.out.cell.1;have ae:sB wp none (((w.alloc (.cells #[.int .i64 j,.int .i64 k] 164)).alloc (.cells #[.int .i64 y0,.int .i64 y1,.string ys,.slice ya yl yc] 30)).alloc (.map #[] 0)):=B.out.kept (((((ak w.heap.size w).alloc (ai _) _).alloc (by simp) _).alloc (by simp;omega) _).block wp.b ao);have bc:(((w.alloc (.cells #[.int .i64 j,.int .i64 k] 164)).alloc (.cells #[.int .i64 y0,.int .i64 y1,.string ys,.slice ya yl yc] 30)).alloc (.map #[] 0)).frozen? ⟨wp.b,wp.o,none⟩=false:=ae.cell.2 _;have bd:(((w.alloc (.cells #[.int .i64 j,.int .i64 k] 164)).alloc (.cells #[.int .i64 y0,.int .i64 y1,.string ys,.slice ya yl yc] 30)).alloc (.map #[] 0)).cell? ⟨wp.b,wp.o,none⟩=some (.map none):=ae.cell.1;clear ae;have an:wp.b≠f:=by omega
  have aP:=Kv;have bh:= @run_makeMap Tryz.prog;have P:Hid (∃h a,h=w.heap.size/\a=w.heap.size+1):=⟨_,_,rfl,rfl⟩;go_enter Tryz.func145,Tryz.ntmps145;go_wp2_with fail;obtain⟨h,a,y,z⟩:=P.out;rw[<-am,<-n,<-z,<-y];have aK:wr.heap.size=w.heap.size+3:=by rw[n];simp[World.setCell]
  have af:∀b,b≠wp.b->wr.heap[b]?=(((w.alloc (.cells #[.int .i64 j,.int .i64 k] 164)).alloc (.cells #[.int .i64 y0,.int .i64 y1,.string ys,.slice ya yl yc] 30)).alloc (.map #[] 0)).heap[b]? :=λb D=>by
   rw[n];have:wp.b≠b:=λe=>D e.symm;simp[World.setCell,bC,this]
  have Z:Hid (wr.heap[h]?=some (.cells #[.int .i64 j,.int .i64 k] 164)):=by
   rw[af h (by omega),y];exact((((ak _ _).alloc (ai _) _).alloc (by simp) _).block w.heap.size (by simp)).trans (ax w _)
  have aa:Hid (wr.heap[a]?=some (.cells #[.int .i64 y0,.int .i64 y1,.string ys,.slice ya yl yc] 30)):=by
   rw[af a (by omega),z];have u:=ax (w.alloc (.cells #[.int .i64 j,.int .i64 k] 164)) (.cells #[.int .i64 y0,.int .i64 y1,.string ys,.slice ya yl yc] 30);have e:(w.alloc (.cells #[.int .i64 j,.int .i64 k] 164)).heap.size=w.heap.size+1:=by simp
   rw[e]at u;exact(((ak _ _).alloc (ai _) _).block (w.heap.size+1) (by simp)).trans u
  have X:Hid (wr.cell? ⟨wp.b,wp.o,none⟩=some (.map (some f))):=by
   rw[n];exact(sB.set (mo':=some f) (B.out.kept (((((ak w.heap.size w).alloc (ai _) (.cells #[.int .i64 j,.int .i64 k] 164)).alloc (by simp) (.cells #[.int .i64 y0,.int .i64 y1,.string ys,.slice ya yl yc] 30)).alloc (by simp;omega) (.map #[] 0)).block wp.b ao))).cell.1
  clear af
 all_goals
  have aG:h<wr.heap.size:=by omega
  have aH:a<wr.heap.size:=by omega
  have aI:wp.b<wr.heap.size:=by omega
  have a7:f<wr.heap.size:=by omega
  have bf:base<=wr.heap.size:=by omega
  have T:h≠f:=by omega
  have x:a≠f:=by omega
  have V:∀b,(Value.slice sa L sc).ownBlock=some b->b≠h/\b≠a/\b≠wp.b:=λb D=>⟨by have:=(U b D).1;omega,by have:=(U b D).1;omega,(U b D).2⟩;have O:Hid (∀W,ag wr W->W.cell? ⟨wp.b,wp.o,none⟩=some (.map (some f))/\(W.cell? ⟨h,0,none⟩=some (.int .i64 j)/\W.cell? ⟨h,1,none⟩=some (.int .i64 k))/\(W.cell? ⟨a,0,none⟩=some (.int .i64 y0)/\W.cell? ⟨a,1,none⟩=some (.int .i64 y1)/\W.cell? ⟨a,2,none⟩=some (.string ys)/\W.cell? ⟨a,3,none⟩=some (.slice ya yl yc))):=by
   intro W q;have aB:=(q.block h aG).trans Z.out;have R:=(q.block a aH).trans aa.out;exact⟨(q.cell (p:=⟨wp.b,wp.o,none⟩) aI).trans X.out,⟨by simp[World.cell?,aB],by simp[World.cell?,aB]⟩,by simp[World.cell?,R],by simp[World.cell?,R],by simp[World.cell?,R],by simp[World.cell?,R]⟩
  have Y:Hid (∀C W d,bi C W d->wr.heap.size<=W.heap.size->¬C wp.b->¬C h->¬C a->(W.cell? ⟨wp.b,wp.o,none⟩=some (.map (some f))/\(W.cell? ⟨h,0,none⟩=some (.int .i64 j)/\W.cell? ⟨h,1,none⟩=some (.int .i64 k))/\(W.cell? ⟨a,0,none⟩=some (.int .i64 y0)/\W.cell? ⟨a,1,none⟩=some (.int .i64 y1)/\W.cell? ⟨a,2,none⟩=some (.string ys)/\W.cell? ⟨a,3,none⟩=some (.slice ya yl yc)))->
    d.cell? ⟨wp.b,wp.o,none⟩=some (.map (some f))/\(d.cell? ⟨h,0,none⟩=some (.int .i64 j)/\d.cell? ⟨h,1,none⟩=some (.int .i64 k))/\(d.cell? ⟨a,0,none⟩=some (.int .i64 y0)/\d.cell? ⟨a,1,none⟩=some (.int .i64 y1)/\d.cell? ⟨a,2,none⟩=some (.string ys)/\d.cell? ⟨a,3,none⟩=some (.slice ya yl yc))):=by
   rintro C W d l bj a9 ba bb ⟨F,⟨G,H⟩,I,J,K,M⟩;have a0:=eS l (b:=wp.b) (by omega) a9;have aA:=eS l (b:=h) (by omega) ba;have Q:=eS l (b:=a) (by omega) bb;exact⟨a0 _ _ F,⟨aA _ _ G,aA _ _ H⟩,Q _ _ I,Q _ _ J,Q _ _ K,Q _ _ M⟩
  have au:Hid (∀W d,ag wr W->bi (λb=>b=f) W d->d.cell? ⟨wp.b,wp.o,none⟩=some (.map (some f))/\(d.cell? ⟨h,0,none⟩=some (.int .i64 j)/\d.cell? ⟨h,1,none⟩=some (.int .i64 k))/\(d.cell? ⟨a,0,none⟩=some (.int .i64 y0)/\d.cell? ⟨a,1,none⟩=some (.int .i64 y1)/\d.cell? ⟨a,2,none⟩=some (.string ys)/\d.cell? ⟨a,3,none⟩=some (.slice ya yl yc))):=
   λW d q l=>Y.out _ W d l q.size an T x (O.out W q)
  have aV:Hid (∀W d i,ag wr W->bi (λb=>b=f) W d->d.grownBy i (Value.slice sa L sc).ownBlock->i.cell? ⟨wp.b,wp.o,none⟩=some (.map (some f))/\(i.cell? ⟨h,0,none⟩=some (.int .i64 j)/\i.cell? ⟨h,1,none⟩=some (.int .i64 k))/\(i.cell? ⟨a,0,none⟩=some (.int .i64 y0)/\i.cell? ⟨a,1,none⟩=some (.int .i64 y1)/\i.cell? ⟨a,2,none⟩=some (.string ys)/\i.cell? ⟨a,3,none⟩=some (.slice ya yl yc))):=
   λW d i q l a6=>Y.out _ d i (dP a6) (aw q.size l.size) (λe=>(V _ e).2.2 rfl) (λe=>(V _ e).1 rfl) (λe=>(V _ e).2.1 rfl) (au.out W d q l)
  have r:Hid (ag wr (wr.alloc (.cells #[.int .i64 y0,.int .i64 y1,.string ys,.slice ya yl yc] 30)).drew):=(show Below _ _ _ by go_grown);have ay:Hid ((wr.alloc (.cells #[.int .i64 y0,.int .i64 y1,.string ys,.slice ya yl yc] 30)).drew.heap.size=wr.heap.size+1):=(show _=_ by simp[World.drew]);have aQ:Hid (∀d,bi (λb=>b=f) (wr.alloc (.cells #[.int .i64 y0,.int .i64 y1,.string ys,.slice ya yl yc] 30)).drew d->bi (λb=>b=f) wr d):=λd l=>bi.trans (aE r.out _) l λ_ _ e=>e
  have aR:Hid (∀d,bi (λb=>b=f) (wr.alloc (.cells #[.int .i64 y0,.int .i64 y1,.string ys,.slice ya yl yc] 30)).drew d->d.heap[wr.heap.size]?=some (.cells #[.int .i64 y0,.int .i64 y1,.string ys,.slice ya yl yc] 30)):=
   λd l=>(l.block wr.heap.size (by rw[ay.out];omega) (by omega)).trans (ax wr _)
  have aU:Hid (∀i m,(i.cell? ⟨wp.b,wp.o,none⟩=some (.map (some f))/\(i.cell? ⟨h,0,none⟩=some (.int .i64 j)/\i.cell? ⟨h,1,none⟩=some (.int .i64 k))/\(i.cell? ⟨a,0,none⟩=some (.int .i64 y0)/\i.cell? ⟨a,1,none⟩=some (.int .i64 y1)/\i.cell? ⟨a,2,none⟩=some (.string ys)/\i.cell? ⟨a,3,none⟩=some (.slice ya yl yc)))->bi (λb=>b=f) i m->(m.cell? ⟨wp.b,wp.o,none⟩=some (.map (some f))/\(m.cell? ⟨h,0,none⟩=some (.int .i64 j)/\m.cell? ⟨h,1,none⟩=some (.int .i64 k))/\(m.cell? ⟨a,0,none⟩=some (.int .i64 y0)/\m.cell? ⟨a,1,none⟩=some (.int .i64 y1)/\m.cell? ⟨a,2,none⟩=some (.string ys)/\m.cell? ⟨a,3,none⟩=some (.slice ya yl yc)))):=by
   rintro i m ⟨F,⟨G,H⟩,I,J,K,M⟩ l;have lt:=λ(b o:Nat)(v:Value)(u:i.cell? ⟨b,o,none⟩=some v)=>jj i ⟨b,o,none⟩ u;exact⟨eS l (lt _ _ _ F) an _ _ F,⟨eS l (lt _ _ _ G) T _ _ G,eS l (lt _ _ _ H) T _ _ H⟩,eS l (lt _ _ _ I) x _ _ I,eS l (lt _ _ _ J) x _ _ J,eS l (lt _ _ _ K) x _ _ K,eS l (lt _ _ _ M) x _ _ M⟩
  obtain⟨F,⟨G,H⟩,I,J,K,M⟩:=O.out wr (ak _ _);obtain⟨A,d,a3,S⟩:=aO.out _ r.out;have s:=aj S;have aS:=aj (au.out _ _ r.out S.1);have aZ:=aj (S.2.1.trans ay.out);simp only[pk,goInt]at a3;clear S;clear am y z n P aK X Z aa Y ad aG aH aI a7 T x V;go_wp2_with fail
  go_region_held3 (λW=>W.cell? ⟨wp.b,wp.o,none⟩=some (.map (some f))/\(W.cell? ⟨h,0,none⟩=some (.int .i64 j)/\W.cell? ⟨h,1,none⟩=some (.int .i64 k))/\(W.cell? ⟨a,0,none⟩=some (.int .i64 y0)/\W.cell? ⟨a,1,none⟩=some (.int .i64 y1)/\W.cell? ⟨a,2,none⟩=some (.string ys)/\W.cell? ⟨a,3,none⟩=some (.slice ya yl yc)))
   (first|(go_keep;done)|exact O.out _ (ak _ _).drew|exact O.out _ r.out|exact aS.out|exact ar.out|exact aT.out) ((first
    | (refine step_append_lies _ rfl _ _ 28 rfl base 30 E _ 4 56 Tryz.underlying28 N.out.1 N.out.2.1 N.out.2.2.1 N.out.2.2.2 rfl (by decide) (.slice sa L sc) L xs (by simp[Act.eval]) (aW.out _ (aQ.out _ s.out.1)) ⟨wr.heap.size,0,none⟩ 1 1 [.int .i64 y0,.int .i64 y1,.string ys,.slice ya yl yc] (by simp[Act.eval]) rfl (World.news_of_block (cs:= #[.int .i64 y0,.int .i64 y1,.string ys,.slice ya yl yc]) (t:=30) (fr:=(0,0)) (aR.out _ s.out.1)) (by simp[Value.oneCell']) (by decide) (by unfold maxLen;omega) (by omega) (by have:=aZ.out;omega) _ rfl ?_;intro a2 a1 i aJ al aD a8;have aY:=aX.out _ _ _ _ _ a2 a1 s.out.2.2 r.out s.out.1 s.out.2.1 (ak _ _) al aJ aD;obtain⟨m,a4,aC⟩:=aY;have av:=aj aC;simp only[goInt]at a4;have ar:=aj (aV.out _ _ _ r.out s.out.1 al);have aT:=aj (aU.out _ _ ar.out av.out.2.1);clear aJ al aD a8 aC)))
  exact dM (v:=.tuple #[]) (by simp[results]) rfl ⟨rfl,av.out.1⟩
variable {base n N:Nat} {wp:BL} {mo:Option Nat} {f:Int×Int->List (Tm N)} {sl:Int×Int->Value} {w:World}
theorem ng.at{v:Value}{l:List (Tm N)}(d:ng base N v l w):∃a c,v=.slice a l.length c/\w.ownsRow base 30 4 (.slice a l.length c) l.length (dc N l):=by
 obtain⟨a,c,b⟩:=d.sliced;refine⟨a,c,b,?_⟩;rw[<-b];exact d
theorem Ep(y:Tm (N+1)):ur (fQ (N+1) y)=[.int .i64 y.1.1,.int .i64 y.1.2.1,.string y.1.2.2,.slice y.2.1.1 y.2.2.length y.2.1.2]:=rfl
theorem uY{e:Nat}(h:gI base wp (some e) n N f sl w):wp.b≠e:=by
 intro g;obtain⟨_,i,c⟩:=h;rcases c with⟨c,_⟩|⟨m,a,j⟩
 ·cases c
 ·injection a with a;subst a g;obtain⟨k,⟨es,l,d,_⟩,_⟩:=j.map;rw[i.2]at d;cases d
theorem yP(c:gI base wp mo n N f sl w){k:Int×Int}(g:I2 k):(sl k).ownBlock≠some wp.b:=by
 intro d;obtain⟨h,a⟩:=dQ (c.row g) wp.b d;rw[c.2.1.2]at a;injection a with a;injection a with _ e _;exact c.2.1.1.2 e
theorem J6{f:Int×Int->List (Tm (N+1))}(d:gI base wp mo n (N+1) f sl w){k:Int×Int}(i:I2 k)(y:Tm (N+1))(ad:n<999999)(W:(f k).length<1000):ah 145 #[.pointer (some ⟨wp.b,wp.o,none⟩),pk k,dd (N+1) y] w λe w'=>e=.returned (.tuple #[])/\Me base wp mo n (N+1) f sl k (f k++ [y]) w w':=by
 have v:=d.lt wp.b (ae rfl);rcases d.2.2 with⟨rfl,rfl,rfl⟩|⟨m,rfl,D⟩
 ·obtain⟨wr,j⟩:∃wr,wr=(((w.alloc (.cells #[.int .i64 k.1,.int .i64 k.2] 164)).alloc (.cells #[.int .i64 y.1.1,.int .i64 y.1.2.1,.string y.1.2.2,.slice y.2.1.1 y.2.2.length y.2.1.2] 30)).alloc (.map #[] 0)).setCell ⟨wp.b,wp.o,none⟩ (.map (some (w.heap.size+1+1))):=⟨_,rfl⟩;have Y:wr.heap.size=w.heap.size+3:=by rw[j];simp[World.setCell]
  have T:bi (λb=>b=wp.b) w wr:=by
   rw[j];refine bi.trans (aE (((((ak w.heap.size w).alloc (ai _) _).alloc (by simp) _).alloc (by simp;omega) _)) _) (bt _ wp.b wp.o _) λ_ _ e=>e
  have Z:sB wp (some (w.heap.size+1+1)) wr:=by
   rw[j];exact(d.2.1.kept (((((ak w.heap.size w).alloc (ai _) (.cells #[.int .i64 k.1,.int .i64 k.2] 164)).alloc (by simp) (.cells #[.int .i64 y.1.1,.int .i64 y.1.2.1,.string y.1.2.2,.slice y.2.1.1 y.2.2.length y.2.1.2] 30)).alloc (by simp;omega) (.map #[] 0)).block wp.b v.2)).set
  have l:GM base (w.heap.size+1+1) n (N+1) (λ_=> []) (λ_=>lK) wr:=by
   have P:=GM.new ((w.alloc (.cells #[.int .i64 k.1,.int .i64 k.2] 164)).alloc (.cells #[.int .i64 y.1.1,.int .i64 y.1.2.1,.string y.1.2.2,.slice y.2.1.1 y.2.2.length y.2.1.2] 30)) (N+1);have e:((w.alloc (.cells #[.int .i64 k.1,.int .i64 k.2] 164)).alloc (.cells #[.int .i64 y.1.1,.int .i64 y.1.2.1,.string y.1.2.2,.slice y.2.1.1 y.2.2.length y.2.1.2] 30)).heap.size=w.heap.size+1+1:=by simp
   rw[e]at P
   have Q:=(P.kee (bt _ wp.b wp.o (.map (some (w.heap.size+1+1)))) λb a e=>by
    rcases a with a|⟨x,_,a⟩
    ·omega
    ·simp[lK,Value.ownBlock]at a)
   rw[<-j]at Q;exact(Q.rebase (by omega)).mono (aB _)
  refine(DC wp (w.heap.size+1+1) k.1 k.2 y.1.1 y.1.2.1 y.1.2.2 y.2.1.1 y.2.2.length y.2.1.2 0 0 none [] base w wr (λh r p=>LY base (w.heap.size+1+1) n (N+1) (λ_=> []) (λ_=>lK) k r h p) (λw'=>Me base wp none n (N+1) (λ_=> []) (λ_=>lK) k ([]++ [y]) w w') (by omega) (by omega) v.2 (af ⟨rfl,j,λb a=>by simp[Value.ownBlock]at a,d.2.1⟩) ?_ ?_ ?_).mono λe w' d=>d
  ·intro h g;exact⟨rfl,ae ⟨rfl,rfl⟩⟩
  ·intro h g;exact l.open i (by omega) g
  ·intro h r p R ab S c C g F J B t H s;obtain⟨O,I,E,G,K⟩:=LY.done l i C g F J B t (y:=y) (L:=0) rfl (by simpa [dc,ch,Ep]using H) s;refine⟨O,I,?_,G,K⟩;obtain⟨aa,z,q,A⟩:=E;have M:¬LI (w.heap.size+1+1) (λ_=>lK) wp.b:=by
    rintro (e|⟨x,_,e⟩)
    ·omega
    ·simp[lK,Value.ownBlock]at e
   refine⟨some (w.heap.size+1+1),_,⟨d.1,Z.kept (q.block wp.b (by omega) M),af ⟨_,rfl,z⟩⟩,?_,λb a=>?_⟩
   ·refine bi.trans (T.mono λb _ e=>ae e) q λb a e=>?_;rcases e with e|⟨x,_,e⟩
    ·omega
    ·simp[lK,Value.ownBlock]at e
   ·rcases a with a|a|a
    ·exact ae (ae a)
    ·injection a with a;exact af (by omega)
    ·rcases A b (af a)with(e|⟨x,_,e⟩)|e
     ·exact af (by omega)
     ·simp[lK,Value.ownBlock]at e
     ·exact af (by omega)
 ·obtain⟨sa,sc,u,aj⟩:=(D.row k i).at;have X:=D.lt m (ae rfl);obtain⟨wr,j⟩:∃wr,wr=(w.alloc (.cells #[.int .i64 k.1,.int .i64 k.2] 164)).alloc (.cells #[.int .i64 y.1.1,.int .i64 y.1.2.1,.string y.1.2.2,.slice y.2.1.1 y.2.2.length y.2.1.2] 30):=⟨_,rfl⟩;have a:ag w wr:=by
   rw[j];exact((ak _ _).alloc (ai _) _).alloc (by simp) _
  have Y:wr.heap.size=w.heap.size+2:=by rw[j];simp
  have l:GM base m n (N+1) f sl wr:=D.kee (aE a λ_=>False) λ_ _ U=>U;refine(DC wp m k.1 k.2 y.1.1 y.1.2.1 y.1.2.2 y.2.1.1 y.2.2.length y.2.1.2 (f k).length sc sa (dc (N+1) (f k)) base w wr (λh r p=>LY base m n (N+1) f sl k r h p) (λw'=>Me base wp (some m) n (N+1) f sl k (f k++ [y]) w w') W (by omega) v.2 (ae ⟨X.2,uY d,j,λb a=>?_,d.cell.1⟩) ?_ ?_ ?_).mono λe w' d=>d
  ·rw[<-u]at a;exact⟨((d.row i).lt b a).2,λe=>yP d i (by rw[a,e])⟩
  ·intro h g;rw[<-u];exact aW (l.row k i) g λb a e=>l.ne i (by rw[a,e])
  ·intro h g;rw[<-u];exact l.open i (by omega) g
  ·intro h r p R ab S c C g F J B t H s;rw[<-u]at t s;obtain⟨O,I,E,G,K⟩:=LY.done l i C g F J B t (y:=y) (L:=(f k).length) rfl (by simpa [Ep]using H) s;refine⟨O,I,?_,G,K⟩;obtain⟨aa,z,q,A⟩:=E;have M:¬LI m sl wp.b:=by
    rintro (e|⟨x,V,e⟩)
    ·exact uY d e
    ·exact yP d V e
   refine⟨some m,_,⟨d.1,(d.2.1.kept (a.block wp.b v.2)).kept (q.block wp.b (by omega) M),af ⟨_,rfl,z⟩⟩,?_,λb a=>?_⟩
   ·exact bi.trans (aE a _) q λb _ e=>DV e
   ·rcases a with a|a|a
    ·exact ae (ae a)
    ·injection a with a;exact ae (af (ae (by rw[a])))
    ·rcases A b (af a)with e|e
     ·exact ae (DV e)
     ·exact af (by omega)
def gz(b c:Bool)(a:Int)(cl:Bool)(L:Nat):Int:=if b=false\/c=false then 1 else if a≠0 then a else if cl=false then 5 else if 20<=L then 2 else 0
theorem Dw(wp:BL)(a b:Int)(k l:Int)(s:ByteArray)(h:Option Addr)(j i:Nat)(v g:Bool)(d:Int)(cl:Bool)(L:Nat)(w:World)(C:Int->Int->ByteArray->Option Addr->Nat->Nat->World->World->Prop)(N:World->Prop)(ao:L<=1000)(S:Hid (∀W,ah 143 #[.int .i64 a] W λe w'=>e=.returned (.bool v)/\w'=W))(T:Hid (∀W,ah 143 #[.int .i64 b] W λe w'=>e=.returned (.bool g)/\w'=W))(Z:Hid (∀W,ag w W->ah 51 #[.agg #[.int .i64 k,.int .i64 l,.string s,.slice h j i]] W λe w'=>e=.returned (.int .i64 d)/\ag W w'))(aa:Hid (∀W,ag w W->ah 52 #[.agg #[.int .i64 k,.int .i64 l,.string s,.slice h j i]] W λe w'=>e=.returned (.bool cl)/\ag W w'))(ad:Hid (∀W,ag w W->ah 144 #[.pointer (some ⟨wp.b,wp.o,none⟩),.int .i64 a,.int .i64 b] W λe w'=>e=.returned (.int .i64 L)/\w'=W))(X:Hid (∀W,d=0->ag w W->ah 54 #[.agg #[.int .i64 k,.int .i64 l,.string s,.slice h j i]] W λe w'=>∃n p u q t r,e=.returned (.agg #[.int .i64 n,.int .i64 p,.string u,.slice q t r])/\Hid (C n p u q t r W w')))(U:Hid (∀n p u q t r W w1,gz v g d cl L=0->C n p u q t r W w1->ag w W->ah 145 #[.pointer (some ⟨wp.b,wp.o,none⟩),.agg #[.int .i64 a,.int .i64 b],.agg #[.int .i64 n,.int .i64 p,.string u,.slice q t r]] w1 λe w'=>e=.returned (.tuple #[])/\Hid (N w'))):ah 107 #[.pointer (some ⟨wp.b,wp.o,none⟩),.int .i64 a,.int .i64 b,.agg #[.int .i64 k,.int .i64 l,.string s,.slice h j i]] w λe w'=>e=.returned (.int .i64 (gz v g d cl L))/\(gz v g d cl L≠0->ag w w')/\(gz v g d cl L=0->N w'):=by
 have Q:Hid (∃m f,m=w.alloc (.cells #[.int .i64 k,.int .i64 l,.string s,.slice h j i] 30)/\f=w.heap.size):=⟨_,_,rfl,rfl⟩;go_enter Tryz.func107,Tryz.ntmps107;go_wp2_with fail;obtain⟨m,f,B,M⟩:=Q.out;rw[<-B,<-M];have x:Hid (ag w m):=by
  rw[B];exact(ak _ _).alloc (ai _) _
 have P:Hid (m.heap[f]?=some (.cells #[.int .i64 k,.int .i64 l,.string s,.slice h j i] 30)/\f<m.heap.size):=by
  rw[B,M];exact⟨ax w _,by simp⟩
 have I:Hid (∀W,ag m W->W.cell? ⟨f,0,none⟩=some (.int .i64 k)/\W.cell? ⟨f,1,none⟩=some (.int .i64 l)/\W.cell? ⟨f,2,none⟩=some (.string s)/\W.cell? ⟨f,3,none⟩=some (.slice h j i)):=by
  intro W al;have c:=(al.block f P.out.2).trans P.out.1;exact⟨ab c 0,ab c 1,ab c 2,ab c 3⟩
 clear B M Q;refine(S.out m).mono ?_;rintro e w1 ⟨rfl,rfl⟩;cases v
 ·go_wp2_with fail
  go_ret
  have e:gz false g d cl L=1:=by simp[gz]
  rw[e];exact⟨rfl,λ_=>x.out,λc=>by cases c⟩
 ·go_wp2_with fail;refine(T.out _).mono ?_;rintro e aq ⟨rfl,rfl⟩;cases g
  ·go_wp2_with fail
   go_ret
   have e:gz true false d cl L=1:=by simp[gz]
   rw[e];exact⟨rfl,λ_=>x.out,λc=>by cases c⟩
  ·obtain⟨D,E,F,G⟩:=I.out _ (ak _ _);go_wp2_with fail;refine(Z.out _ x.out).mono ?_;rintro e ar ⟨rfl,J⟩;have H:=aj J;have A:=aj (x.out.trans (J.mono x.out.size));clear J D E F G;by_cases z:d=0;rotate_left
   ·have ap:¬(0:Int)=d:=λe=>z e.symm;go_wp2_with fail
    go_ret
    have e:gz true true d cl L=d:=by simp[gz,z]
    rw[e];exact⟨rfl,λ_=>A.out,λc=>absurd c z⟩
   ·obtain⟨D,E,F,G⟩:=I.out _ H.out;have an:=aj z;subst z;go_wp2_with fail;refine(aa.out _ A.out).mono ?_;rintro e au ⟨rfl,K⟩;have V:=aj (H.out.trans (K.mono H.out.size));have y:=aj (A.out.trans (K.mono A.out.size));clear K D E F G;cases cl
    ·go_wp2_with fail
     go_ret
     have e:gz true true 0 false L=5:=by simp[gz]
     rw[e];exact⟨rfl,λ_=>y.out,λc=>by cases c⟩
    ·go_wp2_with fail;refine(ad.out _ y.out).mono ?_;rintro e av ⟨rfl,rfl⟩;by_cases R:20<=L
     ·have af:(20:Int)<=(L:Int):=by omega
      go_wp2_with fail
      go_ret
      have e:gz true true 0 true L=2:=by simp[gz,R]
      rw[e];exact⟨rfl,λ_=>y.out,λc=>by cases c⟩
     ·have af:¬(20:Int)<=(L:Int):=by omega
      have O:Hid (gz true true 0 true L=0):=(show gz true true 0 true L=0 by simp[gz,R]);obtain⟨D,E,F,G⟩:=I.out _ V.out;go_wp2_with fail;refine(X.out _ (by simp) y.out).mono ?_;rintro e am ⟨n,p,u,q,t,r,rfl,ae⟩;go_wp2_with fail;refine(U.out n p u q t r _ am O.out ae.out y.out).mono ?_;rintro e aw ⟨rfl,Y⟩;go_wp2_with fail
      go_ret
      rw[O.out];exact⟨rfl,λc=>absurd rfl c,λ_=>Y.out⟩
theorem Dv{n:Nat}{x:Tm n}(a:bm n x=0):av ⟨n,x⟩:=by
 rw[aG];rw[<-fS]at a;unfold vv at a;split at a
 ·rename_i b;simpa using b
 ·cases a
variable {base n N:Nat} {wp:BL} {mo:Option Nat} {f:Int×Int->List (Tm (N+1))} {sl:Int×Int->Value} {w:World}
def KY(a:Int):Bool:=decide (1<=a) && decide (a<=99)
def mT(N:Nat)(a b:Int)(x:Tm (N+1))(L:Nat):Int:=gz (KY a) (KY b) (bm (N+1) x) (aF (N+1) x) L
def GQ(base:Nat)(wp:BL)(mo:Option Nat)(n N:Nat)(f:Int×Int->List (Tm (N+1)))(sl:Int×Int->Value)(k:Int×Int)(x:Tm (N+1))(w w':World):Prop:=
 ∃a c d,au (N+1) a (N+1) x=true/\gI base wp c (n+1) (N+1) (gH f k (f k++ [a])) d w'/\bi (qR wp mo sl) w w'/\(∀b,qR wp c d b->qR wp mo sl b\/w.heap.size<=b)/\In w'.heap.size w' (N+1) a/\bV (λb=>w.heap.size<=b/\¬qR wp c d b) (N+1) a
theorem Jd(i:gI base wp mo n (N+1) f sl w){a b:Int}(p:I2 (a,b))(x:Tm (N+1))(m:In w.heap.size w (N+1) x)(D:(ar (N+1) x).length<=2097152)(H:n<999999)(G:(f (a,b)).length<=1000):ah 107 #[.pointer (some ⟨wp.b,wp.o,none⟩),.int .i64 a,.int .i64 b,dd (N+1) x] w λe w'=>e=.returned (.int .i64 (mT N a b x (f (a,b)).length))/\(mT N a b x (f (a,b)).length≠0->ag w w')/\(mT N a b x (f (a,b)).length=0->GQ base wp mo n N f sl (a,b) x w w'):=by
 refine Dw wp a b x.1.1 x.1.2.1 x.1.2.2 x.2.1.1 x.2.2.length x.2.1.2 (KY a) (KY b) (bm (N+1) x) (aF (N+1) x) (f (a,b)).length w
  (λu v B y A z g w'=>∃c:Tm (N+1),(u=c.1.1/\v=c.1.2.1/\B=c.1.2.2/\y=c.2.1.1/\A=c.2.2.length/\z=c.2.1.2)/\ag g w'/\In w'.heap.size w' (N+1) c/\bV (λM=>g.heap.size<=M) (N+1) c/\au (N+1) c (N+1) x=true)
  (λw'=>GQ base wp mo n N f sl (a,b) x w w') G (λg=>D7 a g) (λg=>D7 b g) (λg d=>?_) (λg d=>?_) (λg d=>?_) (λg F d=>?_) ?_
 ·exact dx (N+1) x w.heap.size g (m.below d) d.size D
 ·exact ie (N+1) x w.heap.size g (m.below d) d.size
 ·exact GG (i.later d) p
 ·refine(gM (N+1) x w.heap.size g (m.below d) d.size (Dv F)).mono ?_;rintro e w' ⟨c,rfl,I⟩;exact⟨c.1.1,c.1.2.1,c.1.2.2,c.2.1.1,c.2.2.length,c.2.1.2,rfl,⟨c,⟨rfl,rfl,rfl,rfl,rfl,rfl⟩,I.out⟩⟩
 ·rintro u v B y A z g P h ⟨c,⟨rfl,rfl,rfl,rfl,rfl,rfl⟩,E,q,r,J⟩ d;have l:ag w P:=d.trans (E.mono d.size);have C:(f (a,b)).length<1000:=by
   by_cases Q:20<=(f (a,b)).length
   ·exfalso;unfold gz at h;split at h
    ·cases h
    ·split at h
     ·contradiction
     ·split at h
      ·cases h
      ·first|cases h|(split at h<;>first|cases h|contradiction)
   ·omega
  refine(J6 (i.later l) p c H C).mono ?_;rintro e w' ⟨rfl,L,O,K,s,t⟩;refine⟨rfl,c,L,O,J,K,bi.trans (aE l _) s λ_ _ e=>e,λb j=>?_,?_,?_⟩
  ·rcases t b j with e|e
   ·exact ae e
   ·exact af (aw l.size e)
  ·refine q.kee s (r.mono λb j k=>?_);have:=(i.lt b k).2;have:=d.size;omega
  ·refine(In.offB r q).mono λb j=>⟨aw d.size j.1,λk=>?_⟩;rcases t b k with e|e
   ·have:=(i.lt b e).2;have:=d.size;omega
   ·omega
theorem Gf(wp:BL)(mo:Option Nat)(a b:Int)(w:World)(F:wp.b<w.heap.size)(y:Hid (w.cell? ⟨wp.b,wp.o,none⟩=some (.map mo)))(z:Hid (∀W,ag w W->(Instr.lookup 63 (.map mo) (.agg #[.int .i64 a,.int .i64 b]) false).run Tryz.prog W=.ok (.slice none 0 0) W)):ah 48 #[.pointer (some ⟨wp.b,wp.o,none⟩),.int .i64 a,.int .i64 b] w λe w'=>e=.returned (.tuple #[.agg #[.int .i64 0,.int .i64 0,.string ⟨#[]⟩,.slice none 0 0],.int .i64 4])/\ag w w':=by
 have t:=y.out;have s:Hid (∃wr c d,wr=(w.alloc (.cells #[.int .i64 0,.int .i64 0,.string ⟨#[]⟩,.slice none 0 0] 30)).alloc (.cells #[.int .i64 a,.int .i64 b] 164)/\c=w.heap.size/\d=w.heap.size+1):=⟨_,_,_,rfl,rfl,rfl⟩;go_enter Tryz.func48,Tryz.ntmps48;go_wp2_with fail;obtain⟨wr,c,d,f,l,m⟩:=s.out;rw[<-f,<-m,<-l];have E:wr.heap.size=w.heap.size+2:=by rw[f];simp
 have HB:Hid (ag w wr):=by
  rw[f];exact((ak _ _).alloc (ai _) _).alloc (by simp) _
 have A:Hid (wr.heap[c]?=some (.cells #[.int .i64 0,.int .i64 0,.string ⟨#[]⟩,.slice none 0 0] 30)):=by
  rw[f,l];exact(((ak _ _).alloc (ai _) _).block w.heap.size (by simp)).trans (ax w _)
 have B:Hid (wr.heap[d]?=some (.cells #[.int .i64 a,.int .i64 b] 164)):=by
  rw[f,m];have C:=ax (w.alloc (.cells #[.int .i64 0,.int .i64 0,.string ⟨#[]⟩,.slice none 0 0] 30)) (.cells #[.int .i64 a,.int .i64 b] 164);have e:(w.alloc (.cells #[.int .i64 0,.int .i64 0,.string ⟨#[]⟩,.slice none 0 0] 30)).heap.size=w.heap.size+1:=by simp
  rwa [e]at C
 have k:Hid (c<wr.heap.size/\d<wr.heap.size/\wp.b<wr.heap.size/\w.heap.size<=c/\w.heap.size<=d/\wp.b<w.heap.size):=(show _/\_ by omega);have r:Hid (∀W,ag wr W->W.cell? ⟨wp.b,wp.o,none⟩=some (.map mo)/\W.cell? ⟨d,0,none⟩=some (.int .i64 a)/\W.cell? ⟨d,1,none⟩=some (.int .i64 b)):=by
  intro W j;have u:=(j.block d k.out.2.1).trans B.out;exact⟨((j.cell (p:=⟨wp.b,wp.o,none⟩) k.out.2.2.1).trans (HB.out.cell (p:=⟨wp.b,wp.o,none⟩) F)).trans t,ab u 0,ab u 1⟩
 have q:Hid (ag wr wr.drew):=(ak _ _).drew;have n:Hid (∀W,ag wr W->ag w W):=λW j=>HB.out.trans (j.mono HB.out.size);have O:=z.out _ (n.out _ q.out);obtain⟨P,Q,R⟩:=r.out wr (ak _ _);clear f l m s E t;go_region_held3 (λW=>W.cell? ⟨wp.b,wp.o,none⟩=some (.map mo)/\W.cell? ⟨d,0,none⟩=some (.int .i64 a)/\W.cell? ⟨d,1,none⟩=some (.int .i64 b)) (first|(go_keep;done)|exact r.out _ q.out) (fail);have g:=A.out;have G:wr.cell? ⟨c,0,none⟩=some (.int .i64 0):=ab g 0;have H:wr.cell? ⟨c,1,none⟩=some (.int .i64 0):=ab g 1;have I:wr.cell? ⟨c,2,none⟩=some (.string ⟨#[]⟩):=ab g 2;have J:wr.cell? ⟨c,3,none⟩=some (.slice none 0 0):=ab g 3;have h:∀x,wr.frozen? ⟨c,x,none⟩=false:=λx=>by simp[World.frozen?,g]
 have K:=h 0;have L:=h 1;have M:=h 2;have N:=h 3;clear h g;have i:=aj k.out.2.2.2.1;go_wp2_with fail;refine ap (v:=.tuple #[.agg #[.int .i64 0,.int .i64 0,.string ⟨#[]⟩,.slice none 0 0],.int .i64 4]) (by simp[results,Tryz.results48,go_sem,G,H,I,J]) rfl ⟨rfl,?_⟩;have D:=n.out _ (ak _ _);exact((((D.setCell i.out _).setCell i.out _).setCell i.out _).setCell i.out _).drew
theorem wO(wp:BL)(i g c m:Nat)(y0 y1:Int)(ys:ByteArray)(ya:Option Addr)(yl yc:Nat)(a b:Int)(w:World)(G:World->Prop)(R:World->World->Prop)(aX:wp.b<w.heap.size)(M:g<w.heap.size)(a8:i<w.heap.size)(aU:wp.b≠i)(aT:wp.b≠g)(aE:Hid (w.cell? ⟨wp.b,wp.o,none⟩=some (.map (some i))))(ao:Hid (∀W,ag w W->(Instr.lookup 63 (.map (some i)) (.agg #[.int .i64 a,.int .i64 b]) false).run Tryz.prog W=.ok (.slice (some ⟨g,0,none⟩) (m+1) c) W))(aK:Hid (w.cell? ⟨g,0,none⟩=some (.int .i64 y0)/\w.cell? ⟨g,1,none⟩=some (.int .i64 y1)/\w.cell? ⟨g,2,none⟩=some (.string ys)/\w.cell? ⟨g,3,none⟩=some (.slice ya yl yc)))(aR:(m=0/\Hid (∀W,ag w W->∃w',(∀ty,(Builtin.delete_ #[63,164] ty #[.map (some i),.agg #[.int .i64 a,.int .i64 b]]).run Tryz.prog W=.ok (.tuple #[]) w')/\bi (λb=>b=i) W w'/\w'.heap.size=W.heap.size/\∀w2,Below w.heap.size w' w2->G w2))\/(1<=m/\m<=1000/\Hid (∀W,ag w W->ah 77 #[.slice (some ⟨g,0,none⟩) (m+1) c,.int .i64 0,.int .i64 1] W λe w'=>e=.returned (.slice (some ⟨g,0,none⟩) m c)/\Hid (W.grownBy w' (some g)/\R W w'))/\Hid (∀W H,R W H->ag w W->W.grownBy H (some g)->∃w',(Instr.mapUpdate 63 (.map (some i)) (.agg #[.int .i64 a,.int .i64 b]) (.slice (some ⟨g,0,none⟩) m c)).run Tryz.prog H=.ok () w'/\bi (λb=>b=i) H w'/\∀w2,Below w.heap.size w' w2->G w2))):ah 48 #[.pointer (some ⟨wp.b,wp.o,none⟩),.int .i64 a,.int .i64 b] w λe w'=>e=.returned (.tuple #[.agg #[.int .i64 y0,.int .i64 y1,.string ys,.slice ya yl yc],.int .i64 0])/\G w':=by
 have ay:=aE.out;have av:Hid (∃wr f h,wr=(w.alloc (.cells #[.int .i64 0,.int .i64 0,.string ⟨#[]⟩,.slice none 0 0] 30)).alloc (.cells #[.int .i64 a,.int .i64 b] 164)/\f=w.heap.size/\h=w.heap.size+1):=⟨_,_,_,rfl,rfl,rfl⟩;go_enter Tryz.func48,Tryz.ntmps48;go_wp2_with fail;obtain⟨wr,f,h,u,S,T⟩:=av.out;rw[<-u,<-T,<-S];have aW:wr.heap.size=w.heap.size+2:=by rw[u];simp
 have HB:Hid (ag w wr):=by
  rw[u];exact((ak _ _).alloc (ai _) _).alloc (by simp) _
 have aH:Hid (wr.heap[f]?=some (.cells #[.int .i64 0,.int .i64 0,.string ⟨#[]⟩,.slice none 0 0] 30)):=by
  rw[u,S];exact(((ak _ _).alloc (ai _) _).block w.heap.size (by simp)).trans (ax w _)
 have au:Hid (wr.heap[h]?=some (.cells #[.int .i64 a,.int .i64 b] 164)):=by
  rw[u,T];have J:=ax (w.alloc (.cells #[.int .i64 0,.int .i64 0,.string ⟨#[]⟩,.slice none 0 0] 30)) (.cells #[.int .i64 a,.int .i64 b] 164);have e:(w.alloc (.cells #[.int .i64 0,.int .i64 0,.string ⟨#[]⟩,.slice none 0 0] 30)).heap.size=w.heap.size+1:=by simp
  rwa [e]at J
 have x:Hid (f<wr.heap.size/\h<wr.heap.size/\wp.b<wr.heap.size/\w.heap.size<=f/\w.heap.size<=h/\wp.b<w.heap.size):=(show _/\_ by omega);have Q:Hid (∀W,ag wr W->W.cell? ⟨wp.b,wp.o,none⟩=some (.map (some i))/\W.cell? ⟨h,0,none⟩=some (.int .i64 a)/\W.cell? ⟨h,1,none⟩=some (.int .i64 b)):=by
  intro W s;have C:=(s.block h x.out.2.1).trans au.out;exact⟨((s.cell (p:=⟨wp.b,wp.o,none⟩) x.out.2.2.1).trans (HB.out.cell (p:=⟨wp.b,wp.o,none⟩) aX)).trans ay,ab C 0,ab C 1⟩
 have an:Hid (ag wr wr.drew):=(ak _ _).drew;have al:Hid (∀W,ag wr W->ag w W):=λW s=>HB.out.trans (s.mono HB.out.size);have aS:=ao.out _ (al.out _ an.out);obtain⟨aB,aC,aD⟩:=Q.out wr (ak _ _);clear u S T av aW ay;go_region_held3 (λW=>W.cell? ⟨wp.b,wp.o,none⟩=some (.map (some i))/\W.cell? ⟨h,0,none⟩=some (.int .i64 a)/\W.cell? ⟨h,1,none⟩=some (.int .i64 b)) (first|(go_keep;done)|exact Q.out _ an.out) (fail);obtain⟨U,V,X,Y⟩:=aK.out;have B:=am HB.out;replace U:=(B _ _ M).trans U;replace V:=(B _ _ M).trans V;replace X:=(B _ _ M).trans X;replace Y:=(B _ _ M).trans Y;clear B;rcases aR with⟨rfl,O⟩|⟨a6,a7,O,aI⟩
 case' inl=>simp only[cN]at ao
 case' inr=>
  have bc:¬((m:Int)+1=0):=by omega
  have bd:¬((m:Int)+1=1):=by omega
  have be:(0:Int)<(m:Int)+1:=by omega
 all_goals
  have aw:Hid (∃j q,(j=(wr.alloc (.cells #[.int .i64 y0,.int .i64 y1,.string ys,.slice ya yl yc] 30)).drew/\q=wr.heap.size)/\ag wr j/\j.heap[q]?=some (.cells #[.int .i64 y0,.int .i64 y1,.string ys,.slice ya yl yc] 30)/\q<j.heap.size/\wr.heap.size<=q):=⟨_,_,⟨rfl,rfl⟩,(show Below _ _ _ by go_grown),ax wr _,by simp[World.drew],ai _⟩;go_wp2_with fail;obtain⟨j,q,⟨aA,az⟩,n⟩:=aw.out;rw[<-aA,<-az];replace n:=aj n;clear aA az aw aB aC aD aS U V X Y;have af:=aj (al.out _ n.out.1);have y:Hid (∀W:World,(∀b,b<j.heap.size->b≠i->b≠g->W.heap[b]?=j.heap[b]?)->(W.cell? ⟨wp.b,wp.o,none⟩=some (.map (some i))/\W.cell? ⟨h,0,none⟩=some (.int .i64 a)/\W.cell? ⟨h,1,none⟩=some (.int .i64 b))/\(W.cell? ⟨q,0,none⟩=some (.int .i64 y0)/\W.cell? ⟨q,1,none⟩=some (.int .i64 y1)/\W.cell? ⟨q,2,none⟩=some (.string ys)/\W.cell? ⟨q,3,none⟩=some (.slice ya yl yc))/\(W.heap[f]?=some (.cells #[.int .i64 0,.int .i64 0,.string ⟨#[]⟩,.slice none 0 0] 30))):=by
   intro W s;obtain⟨aY,aZ,bf,bg,bh,bj⟩:=x.out;have ba:=n.out.1.size;have a9:=n.out.2.2.2;have C:=(s h (by omega) (by omega) (by omega)).trans ((n.out.1.block h aZ).trans au.out);have aL:=(s f (by omega) (by omega) (by omega)).trans ((n.out.1.block f aY).trans aH.out);have I:=(s q n.out.2.2.1 (by omega) (by omega)).trans n.out.2.1;have aM:=s wp.b (by omega) aU aT;refine⟨⟨?_,ab C 0,ab C 1⟩,⟨ab I 0,ab I 1,ab I 2,ab I 3⟩,aL⟩;have J:=(Q.out j n.out.1).1;simp only[World.cell?,aM]at J ⊢;exact J
  have aF:Hid (ag j j.drew):=(ak _ _).drew;have N:=aj (af.out.trans (aF.out.mono af.out.size));obtain⟨⟨aB,aC,aD⟩,_,_⟩:=y.out j (λ_ _ _ _=>rfl);have ar:=aj (y.out j.drew (λ_ _ _ _=>rfl)).1
 ·go_region_held3 (λW=>W.cell? ⟨wp.b,wp.o,none⟩=some (.map (some i))/\W.cell? ⟨h,0,none⟩=some (.int .i64 a)/\W.cell? ⟨h,1,none⟩=some (.int .i64 b)) (first|(go_keep;done)|exact ar.out|exact aG.out.1|exact z.out.1)
    ((first|(go_at_call 77;refine(O.out _ N.out).mono ?_;rintro e a4 ⟨rfl,A⟩;obtain⟨d,bb,E,D⟩:=aI.out _ _ A.out.2 N.out A.out.1;have aG:=aj (y.out a4 (λb t K L=>A.out.1.block b t (λe=>L (aq e))));have z:=aj (y.out d (λb t K L=>(E.block b (aJ t A.out.1.size) K).trans (A.out.1.block b t (λe=>L (aq e)))));have P:=aj D;clear E D)))
  obtain⟨_,⟨a0,a1,a2,a3⟩,k⟩:=z.out;have Z:d.cell? ⟨f,0,none⟩=some (.int .i64 0):=ab k 0;have aa:d.cell? ⟨f,1,none⟩=some (.int .i64 0):=ab k 1;have ad:d.cell? ⟨f,2,none⟩=some (.string ⟨#[]⟩):=ab k 2;have ae:d.cell? ⟨f,3,none⟩=some (.slice none 0 0):=ab k 3;have l:∀F,d.frozen? ⟨f,F,none⟩=false:=λF=>by simp[World.frozen?,k]
  have aN:=l 0;have aO:=l 1;have aP:=l 2;have aQ:=l 3;have r:=aj x.out.2.2.2.1;clear l k;go_wp2_with fail;refine ap (v:=.tuple #[.agg #[.int .i64 y0,.int .i64 y1,.string ys,.slice ya yl yc],.int .i64 0]) (by simp[results,Tryz.results48,go_sem,Z,aa,ad,ae]) rfl ⟨rfl,?_⟩;exact P.out _ (((((ak w.heap.size d).setCell r.out _).setCell r.out _).setCell r.out _).setCell r.out _)
 ·obtain⟨d,a5,E,aV,D⟩:∃d,(∀ty,(Builtin.delete_ #[63,164] ty #[.map (some i),.agg #[.int .i64 a,.int .i64 b]]).run Tryz.prog j.drew=.ok (.tuple #[]) d)/\bi (λb=>b=i) j.drew d/\d.heap.size=j.drew.heap.size/\∀w2,Below w.heap.size d w2->G w2:=O.out _ N.out;have z:=aj (y.out d (λb t K L=>E.block b t K));have P:=aj D;clear E aV D;go_region_held3 (λW=>W.cell? ⟨wp.b,wp.o,none⟩=some (.map (some i))/\W.cell? ⟨h,0,none⟩=some (.int .i64 a)/\W.cell? ⟨h,1,none⟩=some (.int .i64 b)) (first|(go_keep;done)|exact ar.out|exact z.out.1) (fail);obtain⟨_,⟨a0,a1,a2,a3⟩,k⟩:=z.out;have Z:d.cell? ⟨f,0,none⟩=some (.int .i64 0):=ab k 0;have aa:d.cell? ⟨f,1,none⟩=some (.int .i64 0):=ab k 1;have ad:d.cell? ⟨f,2,none⟩=some (.string ⟨#[]⟩):=ab k 2;have ae:d.cell? ⟨f,3,none⟩=some (.slice none 0 0):=ab k 3;have l:∀F,d.frozen? ⟨f,F,none⟩=false:=λF=>by simp[World.frozen?,k]
  have aN:=l 0;have aO:=l 1;have aP:=l 2;have aQ:=l 3;have r:=aj x.out.2.2.2.1;clear l k;go_wp2_with fail;refine ap (v:=.tuple #[.agg #[.int .i64 y0,.int .i64 y1,.string ys,.slice ya yl yc],.int .i64 0]) (by simp[results,Tryz.results48,go_sem,Z,aa,ad,ae]) rfl ⟨rfl,?_⟩;exact P.out _ (((((ak w.heap.size d).setCell r.out _).setCell r.out _).setCell r.out _).setCell r.out _)
variable {base n N:Nat} {wp:BL} {mo:Option Nat} {f:Int×Int->List (Tm (N+1))} {sl:Int×Int->Value} {w:World}
def kY(base:Nat)(wp:BL)(mo:Option Nat)(n N:Nat)(f:Int×Int->List (Tm (N+1)))(sl:Int×Int->Value)(k:Int×Int)(l:List (Tm (N+1)))(w w':World):Prop:=
 ∃a,gI base wp mo (n+1) (N+1) (gH f k l) a w'/\bi (qR wp mo sl) w w'/\∀b,qR wp mo a b->qR wp mo sl b
theorem kY.later{k:Int×Int}{l:List (Tm (N+1))}{w' w2:World}(h:gI base wp mo n (N+1) f sl w)(g:kY base wp mo n N f sl k l w w')(a:Below w.heap.size w' w2):kY base wp mo n N f sl k l w w2:=by
 obtain⟨o,i,j,d⟩:=g;have e:bi (λb=>w.heap.size<=b) w' w2:=⟨a.os,a.tape,a.output,a.size,λb _ c=>a.block b (by omega)⟩;refine⟨o,i.kee e λb c m=>?_,bi.trans j e λb c m=>?_,d⟩
 ·have:=(h.lt b (d b c)).2;omega
 ·omega
theorem F0{base g c L:Nat}{y:Tm (N+1)}{l:List (Tm (N+1))}(b:w.ownsRow base 30 4 (.slice (some ⟨g,0,none⟩) L c) L (dc (N+1) (y::l))):w.cell? ⟨g,0,none⟩=some (.int .i64 y.1.1)/\w.cell? ⟨g,1,none⟩=some (.int .i64 y.1.2.1)/\w.cell? ⟨g,2,none⟩=some (.string y.1.2.2)/\w.cell? ⟨g,3,none⟩=some (.slice y.2.1.1 y.2.2.length y.2.1.2):=by
 have a:=CJ (l:=(y::l).map (fQ (N+1))) b 0 (fQ (N+1) y) (by simp);simp only[Nat.zero_mul,cN]at a;exact a
theorem Jp(d:gI base wp mo n (N+1) f sl w){a b:Int}(m:I2 (a,b))(ao:n<999999)(V:(f (a,b)).length<=1000):ah 48 #[.pointer (some ⟨wp.b,wp.o,none⟩),.int .i64 a,.int .i64 b] w λe w'=> (f (a,b)=[]->e=.returned (.tuple #[.agg #[.int .i64 0,.int .i64 0,.string ⟨#[]⟩,.slice none 0 0],.int .i64 4])/\ag w w')/\ ∀y l,f (a,b)=y::l->e=.returned (.tuple #[dd (N+1) y,.int .i64 0])/\kY base wp mo n N f sl (a,b) l w w':=by
 have r:=d.lt wp.b (ae rfl);have z:∀i,ag w i->(Instr.lookup 63 (.map mo) (.agg #[.int .i64 a,.int .i64 b]) false).run Tryz.prog i=.ok (sl (a,b)) i:=λi g=>(d.later g).look m;cases k:f (a,b)with
 | nil=>
  have t:sl (a,b)=.slice none 0 0:=by
   rcases d.2.2 with⟨_,_,rfl⟩|⟨h,rfl,s⟩
   ·rfl
   ·obtain⟨Q,R,G,H⟩:=s.map;have ab:has Q (kl (a,b))=false:=by
     cases hh:has Q (kl (a,b))
     ·rfl
     ·obtain⟨u,x,Z,T⟩:=(H _).1 hh;rw[<-px m x Z]at T;exact absurd k T
    have:=G (a,b) m;rw[atKey_of_not_has ab]at this;injection this with this;exact this.symm
  rw[t]at z;refine(Gf wp mo a b w r.2 d.cell.1 z).mono ?_;rintro e w' ⟨rfl,c⟩;exact⟨λ_=>⟨rfl,c⟩,λy l e=>by cases e⟩
 | cons y l=>
  rcases d.2.2 with⟨_,rfl,_⟩|⟨h,rfl,s⟩
  ·cases k
  ·obtain⟨sa,sc,t,A⟩:=(s.row (a,b) m).at;rw[k]at t A V;have W:=s.lt h (ae rfl);obtain⟨j,rfl⟩:∃j,sa=some ⟨j,0,none⟩:=by
    rcases A.2 with⟨e,_⟩|⟨j,cap,an,e,_⟩
    ·simp at e
    ·simp at e;exact⟨j,e.1⟩
   have U:=A.lt j rfl;have O:wp.b≠j:=λe=>yP d m (by rw[t,e];rfl);have Y:=F0 A;rw[t]at z;cases hl0:l with
   | nil=>
    subst hl0;refine(wO wp h j sc 0 y.1.1 y.1.2.1 y.1.2.2 y.2.1.1 y.2.2.length y.2.1.2 a b w (λw'=>kY base wp (some h) n N f sl (a,b) [] w w') (λ_ _=>True) r.2 U.2 W.2 (uY d) O d.cell.1 z Y (ae ⟨rfl,λi g=>?_⟩)).mono ?_
    ·have I:GM base h n (N+1) f sl i:=s.kee (aE g λ_=>False) λ_ _ k=>k;obtain⟨v,P,J,p,X⟩:=I.drop m 3;have ad:∀ty,(Builtin.delete_ #[63,164] ty #[.map (some h),.agg #[.int .i64 a,.int .i64 b]]).run Tryz.prog i=.ok (.tuple #[]) v:=λty=>P;refine⟨v,ad,p,X,λal K=>?_⟩;have q:kY base wp (some h) n N f sl (a,b) [] w v:=by
      refine⟨_,⟨d.1,(d.2.1.kept (g.block wp.b r.2)).kept (p.block wp.b (aJ r.2 g.size) (uY d)),af ⟨h,rfl,J.mono (fB n)⟩⟩,bi.trans (aE g _) p λC _ e=>af (ae (by rw[e])),λC c=>?_⟩;rcases c with c|c|⟨u,x,c⟩
      ·exact ae c
      ·exact af (ae c)
      ·by_cases e:u=(a,b)
       ·rw[e,cD]at c;simp[lK,Value.ownBlock]at c
       ·rw[bJ _ _ e]at c;exact af (af ⟨u,x,c⟩)
     exact kY.later d q K
    ·rintro e w' ⟨rfl,q⟩;refine⟨λe=>(by cases e),λam ak e=>?_⟩;injection e with E F;subst E F;exact⟨rfl,q⟩
   | cons y2 ar=>
    rw[<-hl0];have M:l≠[]:=by rw[hl0];simp
    have aa:1<=l.length:=List.length_pos_iff.2 M;refine(wO wp h j sc l.length y.1.1 y.1.2.1 y.1.2.2 y.2.1.1 y.2.2.length y.2.1.2 a b w (λw'=>kY base wp (some h) n N f sl (a,b) l w w') (λi w'=>ng base (N+1) (.slice (some ⟨j,0,none⟩) l.length sc) l w'/\w'.heap.size=i.heap.size) r.2 U.2 W.2 (uY d) O d.cell.1 z Y (af ⟨aa,by simp at V;omega,λi g=>?_,λi D S g L=>?_⟩)).mono ?_
    ·refine(BY base j sc l.length y l i rfl (aW A (aE g λ_=>False) λ_ _ k=>k) M).mono ?_;rintro e w' ⟨rfl,R,G,H⟩;exact⟨rfl,G,R,H⟩
    ·have I:GM base h n (N+1) f sl i:=s.kee (aE g λ_=>False) λ_ _ k=>k;have B:(sl (a,b)).ownBlock=some j:=by rw[t];rfl
     obtain⟨v,P,J,p,X⟩:=I.store m (w1:=D) ((dP L).mono λb _ e=>B.trans e) M S.1 (λb c=>ae (B.trans c)) (by omega);refine⟨v,P,p,λal K=>?_⟩;have aj:bi (qR wp (some h) sl) w D:=bi.trans (aE g _) (dP L) λC _ e=>af (af ⟨(a,b),m,B.trans e⟩);have ai:D.heap[wp.b]?=w.heap[wp.b]? :=(L.block wp.b (aJ r.2 g.size) (λe=>O (aq e))).trans (g.block wp.b r.2);have ap:=g.size;have q:kY base wp (some h) n N f sl (a,b) l w v:=by
      refine⟨_,⟨d.1,(d.2.1.kept ai).kept (p.block wp.b (by rw[S.2];omega) (uY d)),af ⟨h,rfl,J⟩⟩,bi.trans aj p λC _ e=>af (ae (by rw[e])),λC c=>?_⟩;rcases c with c|c|⟨u,x,c⟩
      ·exact ae c
      ·exact af (ae c)
      ·by_cases e:u=(a,b)
       ·rw[e,cD]at c;exact af (af ⟨(a,b),m,B.trans c⟩)
       ·rw[bJ _ _ e]at c;exact af (af ⟨u,x,c⟩)
     exact kY.later d q K
    ·rintro e w' ⟨rfl,q⟩;refine⟨λe=>(by cases e),λam ak e=>?_⟩;injection e with E F;subst E F;exact⟨rfl,q⟩
def ip(x y:Int):Int×Int:=(min x y,max x y)
def pD:List Int:=(List.range 99).map λi:Nat=>(i:Int)+1
theorem As{y:Int}:y∈pD ↔ 1<=y/\y<=99:=by
 simp only[pD,bZ,List.mem_range];constructor
 ·rintro ⟨c,b,rfl⟩;omega
 ·intro a;exact⟨(y-1).toNat,by omega,by omega⟩
theorem nB:pD.length=99:=by simp[pD]
theorem CQ:pD.Nodup:=by
 unfold pD;refine List.Pairwise.map _ ?_ List.nodup_range;intro c b a d;exact a (by omega)
theorem IW(i:Nat)(a:i<99):pD[i]?=some ((i:Int)+1):=by simp[pD,a]
def pU(g:Int×Int->Bool)(x:Int):List Int:=pD.filter λy=>g (ip x y)
def yV(g:Int×Int->Bool):Prop:=∀k,g k=true->1<=k.1/\k.1<k.2/\k.2<=99
theorem iK{g:Int×Int->Bool}{x y:Int}:y∈pU g x ↔ (1<=y/\y<=99)/\g (ip x y)=true:=by
 rw[pU,List.mem_filter,As]
theorem nZ(g:Int×Int->Bool)(x:Int):(pU g x).Nodup:=CQ.sublist List.filter_sublist
theorem uv(g:Int×Int->Bool)(x:Int):(pU g x).length<=99:=by
 have:=List.length_filter_le (λa=>g (ip x a)) pD;rw[nB]at this;exact this
theorem gw(x y:Int):ip x y=(x,y)/\x<=y\/ip x y=(y,x)/\y<=x:=by
 rcases Int.le_total x y with a|a
 ·exact ae ⟨by simp[ip,Int.min_eq_left a,Int.max_eq_right a],a⟩
 ·exact af ⟨by simp[ip,Int.min_eq_right a,Int.max_eq_left a],a⟩
theorem FA{g:Int×Int->Bool}(c:yV g){x y:Int}(b:g (ip x y)=true):(1<=x/\x<=99)/\(1<=y/\y<=99)/\x≠y:=by
 have:=c _ b;rcases gw x y with⟨a,_⟩|⟨a,_⟩<;>(rw[a]at this;simp at this;omega)
theorem AA{g:Int×Int->Bool}(b:yV g)(x:Int):x∉pU g x:=λa=>(FA b (iK.1 a).2).2.2 rfl
def wo(g:Int×Int->Bool)(l:List Int):Int×Int->Bool:=λk=>g k && !l.contains k.1 && !l.contains k.2
theorem rN{g:Int×Int->Bool}{l:List Int}{k:Int×Int}:wo g l k=true ↔ g k=true/\k.1∉l/\k.2∉l:=by
 simp[wo,and_assoc]
theorem LN{g:Int×Int->Bool}{l:List Int}{x y:Int}:wo g l (ip x y)=true ↔ g (ip x y)=true/\x∉l/\y∉l:=by
 rw[rN];rcases gw x y with⟨d,_⟩|⟨d,_⟩
 ·rw[d]
 ·rw[d];constructor
  ·rintro ⟨a,b,c⟩;exact⟨a,c,b⟩
  ·rintro ⟨a,b,c⟩;exact⟨a,c,b⟩
theorem yV.wo{g:Int×Int->Bool}(a:yV g)(l:List Int):yV (wo g l):=λk b=>a k (rN.1 b).1
theorem NG(g:Int×Int->Bool)(l r:List Int):wo (wo g l) r=wo g (l++r):=by
 funext k;rw[Bool.eq_iff_iff,rN,rN,rN];simp only[cU,not_or];constructor
 ·rintro ⟨⟨a,b,c⟩,d,e⟩;exact⟨a,⟨b,d⟩,c,e⟩
 ·rintro ⟨a,⟨b,d⟩,c,e⟩;exact⟨⟨a,b,c⟩,d,e⟩
def sF(g:Int×Int->Bool)(x:Int)(l:List Int):Int×Int->Bool:=l.foldl (λg y=>gH g (ip x y) false) g
theorem zD{g:Int×Int->Bool}{x:Int}{l:List Int}{k:Int×Int}:sF g x l k=true ↔ g k=true/\∀y∈l,k≠ip x y:=by
 induction l generalizing g with
 | nil=>simp[sF]
 | cons y l ih=>
  have b:sF g x (y::l)=sF (gH g (ip x y) false) x l:=rfl;rw[b,ih];unfold gH;by_cases a:k=ip x y
  ·simp[a]
  ·simp[a]
theorem EP(g:Int×Int->Bool)(x:Int)(l:List Int)(y:Int):sF g x (l++ [y])=gH (sF g x l) (ip x y) false:=by simp[sF]
theorem Kr{g:Int×Int->Bool}(i:yV g)(x:Int):sF g x (pU g x)=wo g [x]:=by
 funext k;rw[Bool.eq_iff_iff,zD,rN];refine and_congr_right λd=>?_;have l:=i k d;simp only[dA];constructor
 ·intro e;refine⟨λb=>?_,λb=>?_⟩
  ·have c:k=ip x k.2:=by
     rcases gw x k.2 with⟨a,_⟩|⟨_,a⟩
     ·rw[a,<-b]
     ·omega
   exact e k.2 (iK.2 ⟨by omega,c▸d⟩) c
  ·have c:k=ip x k.1:=by
     rcases gw x k.1 with⟨_,a⟩|⟨a,_⟩
     ·omega
     ·rw[a,<-b]
   exact e k.1 (iK.2 ⟨by omega,c▸d⟩) c
 ·rintro ⟨f,h⟩ j _ b;rcases gw x j with⟨a,_⟩|⟨a,_⟩
  ·exact f (by rw[b,a])
  ·exact h (by rw[b,a])
/-! ### who is told -/
def xT(t l:List Int):List Int:=l.filter λy=> !t.contains y
def cX(g:Int×Int->Bool)(x:Int):Nat->List Int
 | 0=>pU g x
 | i+1=>match (cX g x i)[i]? with
  | some y=>cX g x i++xT (cX g x i) (pU (wo g (x::(cX g x i).take i)) y)
  | none=>cX g x i
def sr(g:Int×Int->Bool)(x:Int):List Int:=cX g x 99
theorem qv{t l:List Int}{y:Int}:y∈xT t l ↔ y∈l/\y∉t:=by simp[xT]
structure Told (g:Int×Int->Bool) (x:Int) (l:List Int):Prop where
 nodup:l.Nodup
 self:x∉l
 rng:∀y∈l,1<=y/\y<=99
 from':∀i y,l[i]?=some y->∃k∈x::l.take i,y∈pU g k
theorem xW{t l:List Int}(c:t.Nodup)(d:l.Nodup)(e:∀y∈l,y∉t):(t++l).Nodup:=by
 rw[eQ];exact⟨c,d,λh f b g a=>e b g (a▸f)⟩
theorem sh{l:List Int}{i:Nat}{y:Int}(c:l.Nodup)(g:l[i]?=some y):y∉l.take i:=by
 intro f;obtain⟨h,d,a⟩:=List.getElem_of_mem f;rw[dr]at d;rw[List.getElem_take]at a;obtain⟨e,b⟩:=aL.1 g;exact(List.pairwise_iff_getElem.1 c) h i (by omega) e (by omega) (a.trans b.symm)
theorem iv{g:Int×Int->Bool}(e:yV g)(x:Int):∀i,Told g x (cX g x i)
 | 0=>⟨nZ g x,AA e x,λy c=>(iK.1 c).1,λi y c=>⟨x,by simp,aC c⟩⟩
 | i+1=>by
  have ih:=iv e x i;unfold cX;split
  ·rename_i y c;refine⟨xW ih.nodup ((nZ _ _).sublist List.filter_sublist) λd b=>(qv.1 b).2,?_,?_,?_⟩
   ·intro a;rcases cU.1 a with a|a
    ·exact ih.self a
    ·have:=(LN.1 (iK.1 (qv.1 a).1).2).2.2;simp at this
   ·intro d b;rcases cU.1 b with a|a
    ·exact ih.rng d a
    ·exact(iK.1 (qv.1 a).1).1
   ·intro j d b;rw[List.getElem?_append]at b;split at b
    ·rename_i h;obtain⟨k,l,m⟩:=ih.from' j d b;refine⟨k,?_,m⟩;rw[jg (by omega)];exact l
    ·rename_i h;have f:=qv.1 (aC b);refine⟨y,?_,iK.2 ⟨(iK.1 f.1).1,(LN.1 (iK.1 f.1).2).1⟩⟩;refine bI _ ?_;rw[List.take_append];refine List.mem_append_left _ ?_;rw[bw (by omega)];exact aC c
  ·exact ih
theorem II{l:List Int}(a:l.Nodup):∀{r:List Int},(∀y∈l,y∈r)->l.length<=r.length:=by
 induction l with
 | nil=>simp
 | cons y l ih=>
  intro r b;rw[mf]at a;have c:=b y (by simp);have:=ih a.2 (r:=r.erase y) λe d=>(List.mem_erase_of_ne (λf:e=y=>a.1 (f▸d))).2 (b e (by simp[d]));rw[List.length_erase_of_mem c]at this;have:=List.length_pos_of_mem c;simp;omega
theorem Told.le{g:Int×Int->Bool}{x:Int}{l:List Int}(a:Told g x l):l.length<=99:=by
 have:=II a.nodup (r:=pD) λc b=>As.2 (a.rng c b);rwa [nB]at this
theorem pO{g:Int×Int->Bool}{x:Int}{i:Nat}(a:(cX g x i).length<=i):∀j,cX g x (i+j)=cX g x i
 | 0=>rfl
 | j+1=>by
  have ih:=pO a j;have:cX g x (i+j+1)=cX g x (i+j):=by
   rw[cX];rw[ed (by rw[ih];omega)]
  rw[<-Nat.add_assoc,this,ih]
theorem Gk{g:Int×Int->Bool}(e:yV g){x:Int}{i:Nat}(d:(cX g x i).length<=i):cX g x i=sr g x:=by
 unfold sr;rcases Nat.le_total i 99 with a|a
 ·obtain⟨b,c⟩:=Nat.le.dest a;rw[<-c,pO d b]
 ·obtain⟨b,rfl⟩:=Nat.le.dest a;exact pO ((iv e x 99).le) b
theorem Dk{g:Int×Int->Bool}(a:yV g)(x:Int):Told g x (sr g x):=iv a x 99
end Go.Proofs.YtckamaoibonjcaaGreat
